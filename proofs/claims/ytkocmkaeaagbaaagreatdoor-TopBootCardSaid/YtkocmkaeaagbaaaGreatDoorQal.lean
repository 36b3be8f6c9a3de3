/- Lines, by the other text: keyholdref.lineWell; walked. · Tasks, by the other text: keyholdref.taskWell, of a frame that is none; walked. (Written by mk_task5.py.) · Tasks, by the other text: keyholdref.taskWell, of a task: small facts. (Written by mk_task6.py.) · Tasks, by the other text: keyholdref.taskWell, of a task; walked. (Written by mk_task6.py.) · Tasks, by the other text: keyholdref.taskWell; walked. · keyholdref.bitwise, walked. · Slots, by the other text: keyholdref.slotWell; walked. (Written by mk_slot4.py.) · What keys there are to a frame, by the other text: keyholdref.frameWell; walked. · Whether a world is sound, by the other text: small facts. (Written by mk_may.py.) · Whether a world is sound, by the other text: keyholdref.WorldMay where the lists are not as long as they should be; walked. (Written by mk_may.py.) · Whether a world is sound, by the other text: keyholdref.WorldMay; walked. (Written by mk_may.py.) · Whether a world is sound, by the other text: keyholdref.WorldMay and Sound; walked. (Written by mk_may.py.) · keyholdlaw.WorldSays, walked. (Written by mk_says.py.) · What a sound world is; keyholdref.Sound and keyholdlaw.sound, walked. · The slot and the key at an address, by the document: keyholdref.SlotAt, KeyAt; walked. (Written by mk_slat.py.) · The slot and the key at an address: slots.Find, slots.Get; walked. (Written by mk_slat.py.) · The rest of GSl: what few laws reach. · The rest of GSlMore: what few laws reach. · A region that draws its order, whose first operations only make new memory: whatever order they come in, each leaves a value of which its own condition holds, in a world that has grown. · Rows that make() makes; a copy of numbers; new worlds, plain. -/
import Derived.BigQuiet
import Derived.Deep.RegionHeld3
import Derived.BigGuard
import Derived.BigCall
import Derived.Test.YtkocmkaeaagbaaaGreatDoorChecked
import Derived.Test.YtkocmkaeaagbaaaGreatDoorQai
import Derived.Test.YtkocmkaeaagbaaaGreatDoorQaj
import Derived.Test.YtkocmkaeaagbaaaGreatDoorQaa
import Derived.Test.YtkocmkaeaagbaaaGreatDoorQae
import Derived.Test.YtkocmkaeaagbaaaGreatDoorQak
import Derived.Test.YtkocmkaeaagbaaaGreatDoorQad
import Derived.Test.YtkocmkaeaagbaaaGreatDoorQac
namespace Go.Proofs.YtkocmkaeaagbaaaGreatDoor.Wd
open Go.RowKit Go.Proofs.YtkocmkaeaagbaaaGreatDoor.Mem Go.Proofs.YtkocmkaeaagbaaaGreatDoor.Bw Go.Proofs.YtkocmkaeaagbaaaGreatDoor.Nums Go.Proofs.YtkocmkaeaagbaaaGreatDoor.Mmu
end Go.Proofs.YtkocmkaeaagbaaaGreatDoor.Wd
namespace Go.Proofs.YtkocmkaeaagbaaaGreatDoor.Wd
open Go.RowKit Go.Proofs.YtkocmkaeaagbaaaGreatDoor.Mem Go.Proofs.YtkocmkaeaagbaaaGreatDoor.Bw Go.Proofs.YtkocmkaeaagbaaaGreatDoor.Nums Go.Proofs.YtkocmkaeaagbaaaGreatDoor.Mmu
end Go.Proofs.YtkocmkaeaagbaaaGreatDoor.Wd
namespace Go.Proofs.YtkocmkaeaagbaaaGreatDoor.Wd
open Go.RowKit Go.Proofs.YtkocmkaeaagbaaaGreatDoor.Mem Go.Proofs.YtkocmkaeaagbaaaGreatDoor.Bw Go.Proofs.YtkocmkaeaagbaaaGreatDoor.Nums Go.Proofs.YtkocmkaeaagbaaaGreatDoor.Mmu
theorem cn_cna (x : Int) : ∀ (ls : List (List Int)) (j : Nat) (hj : j < ls.length), cn x ls[j] ≤ cna x ls
 | l :: ls, 0, _ => by simp [cna, sumOf]
 | l :: ls, j + 1, hj => by
  have := cn_cna x ls j (by simpa using hj)
  simp [cna, sumOf] at this ⊢
  omega
end Go.Proofs.YtkocmkaeaagbaaaGreatDoor.Wd
namespace Go.Proofs.YtkocmkaeaagbaaaGreatDoor.Cpu
open Go.RowKit Go.Proofs.YtkocmkaeaagbaaaGreatDoor.Mem Go.Proofs.YtkocmkaeaagbaaaGreatDoor.Bw
end Go.Proofs.YtkocmkaeaagbaaaGreatDoor.Cpu
namespace Go.Proofs.YtkocmkaeaagbaaaGreatDoor.Wd
open Go.RowKit Go.Proofs.YtkocmkaeaagbaaaGreatDoor.Mem Go.Proofs.YtkocmkaeaagbaaaGreatDoor.Bw Go.Proofs.YtkocmkaeaagbaaaGreatDoor.Nums Go.Proofs.YtkocmkaeaagbaaaGreatDoor.Mmu
theorem key_bounds {s : Nat → Int} (hc : kc s = 0) (h0 : ¬ s 0 = 0) : 0 ≤ s 1 ∧ s 1 ≤ 23 ∧ 1 ≤ s 2 ∧ s 2 ≤ 24 ∧ 0 ≤ s 4 ∧ s 4 ≤ 7 := by
 have h : KP.chk (s 0) (s 1) (s 2) (s 3) (s 4) (s 5) = 0 := hc
 obtain ⟨k0, k1, b0, b1, l0, l1, m0, m1, r0, r1, g0, g1⟩ := KP.chk_zero h
 rw [chk_plain] at h
 split at h
 ·omega
 split at h
 ·omega
 split at h
 ·omega
 ·omega
end Go.Proofs.YtkocmkaeaagbaaaGreatDoor.Wd
namespace Go.Proofs.YtkocmkaeaagbaaaGreatDoor.Wd
open Go.RowKit Go.Proofs.YtkocmkaeaagbaaaGreatDoor.Mem Go.Proofs.YtkocmkaeaagbaaaGreatDoor.Bw Go.Proofs.YtkocmkaeaagbaaaGreatDoor.Nums Go.Proofs.YtkocmkaeaagbaaaGreatDoor.Mmu
def okey (n : Int) (s : Nat → Int) : Nat := if opn n s then 1 else 0
theorem okey_any (n : Int) : ∀ l : List (Nat → Int), decide (0 < sumOf (okey n) l) = l.any (opn n)
 | [] => rfl
 | s :: l => by
  have h := okey_any n l
  have e : sumOf (okey n) (s :: l) = okey n s + sumOf (okey n) l := by unfold sumOf; simp
  rw [e, List.any_cons, ← h]
  cases ho : opn n s with
  | true =>
   have : okey n s = 1 := by unfold okey; rw [ho]; rfl
   rw [this, decide_eq_true (by omega)]
   rfl
  | false =>
   have : okey n s = 0 := by unfold okey; rw [ho]; rfl
   rw [this, Nat.zero_add]
   rfl
/-- Where the looking at slots has come to. -/
structure Fr2 (p : PW) (n : Int) (k c d : Nat) (u : Bool) : Prop where
 c : c = sumOf (cl n) (p.slots.take k)
 d : d = sumOf (okey n) (p.slots.take k)
 u : u = (p.slots.take k).any (un n)
theorem Fr2.next {p : PW} {n : Int} {k c d : Nat} {u : Bool} (h : Fr2 p n k c d u) (hk : k < p.slots.length) : Fr2 p n (k + 1) (c + cl n p.slots[k]) (d + okey n p.slots[k]) (u || un n p.slots[k]) :=
 ⟨by rw [sum_next _ hk, ← h.c], by rw [sum_next _ hk, ← h.d], by rw [any_next _ hk, ← h.u]⟩
theorem Fr2.all {p : PW} {n kind : Int} {c d : Nat} {u : Bool} (h : Fr2 p n p.slots.length c d u) : (!bfB p n kind) = (decide (c ≤ 1) && (kind == 0 || (decide (0 < d) && !u))) := by
 have e := okey_any n p.slots
 rw [h.c, h.d, h.u, List.take_length, e]
 unfold bfB
 have e2 : decide (sumOf (cl n) p.slots ≤ 1) = !decide (1 < sumOf (cl n) p.slots) := by
  by_cases hh : 1 < sumOf (cl n) p.slots
  ·rw [decide_eq_true hh, decide_eq_false (by omega)]; rfl
  ·rw [decide_eq_false hh, decide_eq_true (by omega)]; rfl
 rw [e2]
 have e3 : (kind != 0) = !(kind == 0) := rfl
 rw [e3]
 generalize decide (1 < sumOf (cl n) p.slots) = b1
 generalize (kind == 0) = b2
 generalize p.slots.any (opn n) = b3
 generalize p.slots.any (un n) = b4
 revert b1 b2 b3 b4
 decide
end Go.Proofs.YtkocmkaeaagbaaaGreatDoor.Wd
namespace Go.Proofs.YtkocmkaeaagbaaaGreatDoor.Wd
open Go.RowKit Go.Proofs.YtkocmkaeaagbaaaGreatDoor.Mem Go.Proofs.YtkocmkaeaagbaaaGreatDoor.Bw Go.Proofs.YtkocmkaeaagbaaaGreatDoor.Nums Go.Proofs.YtkocmkaeaagbaaaGreatDoor.Mmu
def bad0 (_p : PW) (_k : Nat) (x : Int) : Bool := nwB x
def bad1 (_p : PW) (_k : Nat) (x : Int) : Bool := nkB x
def bad2 (_p : PW) (_k : Nat) (x : Int) : Bool := nd x
def bad3 (p : PW) (k : Nat) (x : Nat → Int) : Bool := bsB p (p.kinds.getD (k / 16) 0) x
def bad4 (p : PW) (k : Nat) (x : Int) : Bool := bfB p k x
def bad5 (p : PW) (k : Nat) (x : Nat → Int) : Bool := btB p k (p.kinds.getD k 0) x
def bad6 (p : PW) (k : Nat) (x : List Int) : Bool := blB p k (p.kinds.getD k 0) (p.bits.getD k 0) x
def bad7 (p : PW) (k : Nat) (x : Int) : Bool := bcB p k x
def bad8 (p : PW) (k : Nat) (x : List Int) : Bool := brB p k x
def bad9 (p : PW) (k : Nat) (x : Int) : Bool := beB p (p.kinds.getD (k / 16) 0) x
def bad10 (p : PW) (_k : Nat) (x : List Ent) : Bool := bmB p x
theorem looks_eq (p : PW) : looks p = [(1, lk (bad0 p) p.ram), (3, lk (bad1 p) p.kinds), (2, lk (bad2 p) p.doms), (8, lk (bad3 p) p.slots), (8, lk (bad4 p) p.kinds), (8, lk (bad5 p) p.tasks), (8, lk (bad6 p) p.lines), (8, lk (bad7 p) p.cores), (8, lk (bad8 p) p.ready), (9, lk (bad9 p) p.ram), (9, lk (bad10 p) p.tlbs)] := rfl
theorem lfB_of {p : PW} (a1 : ¬ (p.kinds.length : Int) < 1) (a2 : ¬ (24 : Int) < p.kinds.length) (b1 : ¬ (p.cores.length : Int) < 1) (b2 : ¬ (4 : Int) < p.cores.length) (c1 : ¬ (p.doms.length : Int) < 1) (c2 : ¬ (8 : Int) < p.doms.length) (d0 : (p.ram.length : Int) = (p.kinds.length : Int) * 16) (d2 : (p.slots.length : Int) = (p.kinds.length : Int) * 16) (d3 : (p.tasks.length : Int) = p.kinds.length) (d4 : (p.lines.length : Int) = p.kinds.length) (d5 : (p.bits.length : Int) = p.kinds.length) (d7 : (p.ready.length : Int) = (p.cores.length : Int) * 4) (d8 : (p.tlbs.length : Int) = p.cores.length) : lfB p = true := by
 unfold lfB
 simp only [Bool.and_eq_true, decide_eq_true_eq, beq_iff_eq]
 omega
end Go.Proofs.YtkocmkaeaagbaaaGreatDoor.Wd
namespace Go.Proofs.YtkocmkaeaagbaaaGreatDoor.Wd
open Go.RowKit Go.Proofs.YtkocmkaeaagbaaaGreatDoor.Mem Go.Proofs.YtkocmkaeaagbaaaGreatDoor.Bw Go.Proofs.YtkocmkaeaagbaaaGreatDoor.Nums Go.Proofs.YtkocmkaeaagbaaaGreatDoor.Mmu
end Go.Proofs.YtkocmkaeaagbaaaGreatDoor.Wd
namespace Go.Proofs.YtkocmkaeaagbaaaGreatDoor.Wd
open Go.RowKit Go.Proofs.YtkocmkaeaagbaaaGreatDoor.Mem Go.Proofs.YtkocmkaeaagbaaaGreatDoor.Bw Go.Proofs.YtkocmkaeaagbaaaGreatDoor.Nums Go.Proofs.YtkocmkaeaagbaaaGreatDoor.Mmu
end Go.Proofs.YtkocmkaeaagbaaaGreatDoor.Wd
namespace Go.Proofs.YtkocmkaeaagbaaaGreatDoor.Wd
open Go.RowKit Go.Proofs.YtkocmkaeaagbaaaGreatDoor.Mem Go.Proofs.YtkocmkaeaagbaaaGreatDoor.Bw Go.Proofs.YtkocmkaeaagbaaaGreatDoor.Nums Go.Proofs.YtkocmkaeaagbaaaGreatDoor.Mmu
theorem EntsRaw.below {w w' : World} {v : Value} {l : List Ent} (h : EntsRaw w v l) (hb : Below w.heap.size w w') : EntsRaw w' v l := by
 obtain ⟨q, b, off, cap, h1, h2, h3, h4⟩ := h
 exact ⟨q, b, off, cap, h1, h2, h3.below hb, h4⟩
theorem ListsRaw.below {w w' : World} {v : Value} {ls : List (List Int)} (h : ListsRaw w v ls) (hb : Below w.heap.size w w') : ListsRaw w' v ls := by
 obtain ⟨q, b, off, cap, h1, h2, h3, h4⟩ := h
 refine ⟨q, b, off, cap, h1, h2, fun j hj => ?_, h4⟩
 obtain ⟨y, hy, hr, hm⟩ := h3 j hj
 exact ⟨y, (hb.cell (World.block_lt_of_cell? _ _ hy)).trans hy, hr.below hb, hm⟩
theorem TlbsRaw.below {w w' : World} {v : Value} {ls : List (List Ent)} (h : TlbsRaw w v ls) (hb : Below w.heap.size w w') : TlbsRaw w' v ls := by
 obtain ⟨q, b, off, cap, h1, h2, h3, h4⟩ := h
 refine ⟨q, b, off, cap, h1, h2, fun j hj => ?_, h4⟩
 obtain ⟨y, hy, hr, hm⟩ := h3 j hj
 exact ⟨y, (hb.cell (World.block_lt_of_cell? _ _ hy)).trans hy, hr.below hb, hm⟩
theorem WorldR.below {w w' : World} {v : Nat → Value} {p : PW} (h : WorldR w v p) (hb : Below w.heap.size w w') : WorldR w' v p :=
 ⟨⟨h.ram.1.below hb, h.ram.2⟩, ⟨h.kinds.1.below hb, h.kinds.2⟩, ⟨h.slots.1.below hb, h.slots.2⟩, ⟨h.tasks.1.below hb, h.tasks.2⟩, h.lines.below hb, ⟨h.bits.1.below hb, h.bits.2⟩, ⟨h.cores.1.below hb, h.cores.2⟩, h.ready.below hb, h.tlbs.below hb, ⟨h.doms.1.below hb, h.doms.2⟩, h.time⟩
def sndB (p : PW) : Bool := (wmA p).1 == 0
theorem chk_nil {w : World} {x : Value} {p : PW} (h : ChkV w x (wmA p)) (hs : sndB p = true) : x = .nilIface := by
 unfold sndB at hs
 generalize wmA p = r at h hs
 rcases h with ⟨rfl, rfl⟩ | ⟨e, he, rfl, rfl⟩ | ⟨e, k, b, he, h0, h1, rfl, rfl⟩
 ·rfl
 ·exact absurd (by simpa using hs) he
 ·exact absurd (by simpa using hs) he
theorem firstOf_zero : ∀ l : List (Int × Option Nat), (∀ x ∈ l, x.1 ≠ 0) → (firstOf l).1 = 0 → ∀ x ∈ l, x.2 = none
 | [], _, _ => fun _ h => by cases h
 | (e, some k) :: r, h, h0 => absurd h0 (h _ (List.mem_cons_self ..))
 | (e, none) :: r, h, h0 => fun x hx => by
  rcases List.mem_cons.1 hx with rfl | hx
  ·rfl
  ·exact firstOf_zero r (fun y hy => h y (List.mem_cons_of_mem _ hy)) h0 x hx
theorem lk_all {α : Type} {bad : Nat → α → Bool} {l : List α} (h : lk bad l = none) : ∀ k (hk : k < l.length), bad k l[k] = false := fun k hk => by
 unfold lk at h
 rw [List.find?_eq_none] at h
 have := h k (List.mem_range.2 hk)
 rw [List.getElem?_eq_getElem hk] at this
 simpa using this
/-- A sound world: nothing is found in it. -/
structure Snd (p : PW) : Prop where
 lf : LF p
 tm : within 0 1000000 p.time = true
 b0 : ∀ k (hk : k < p.ram.length), bad0 p k p.ram[k] = false
 b1 : ∀ k (hk : k < p.kinds.length), bad1 p k p.kinds[k] = false
 b2 : ∀ k (hk : k < p.doms.length), bad2 p k p.doms[k] = false
 b3 : ∀ k (hk : k < p.slots.length), bad3 p k p.slots[k] = false
 b4 : ∀ k (hk : k < p.kinds.length), bad4 p k p.kinds[k] = false
 b5 : ∀ k (hk : k < p.tasks.length), bad5 p k p.tasks[k] = false
 b6 : ∀ k (hk : k < p.lines.length), bad6 p k p.lines[k] = false
 b7 : ∀ k (hk : k < p.cores.length), bad7 p k p.cores[k] = false
 b8 : ∀ k (hk : k < p.ready.length), bad8 p k p.ready[k] = false
 b9 : ∀ k (hk : k < p.ram.length), bad9 p k p.ram[k] = false
 b10 : ∀ k (hk : k < p.tlbs.length), bad10 p k p.tlbs[k] = false
theorem snd_of {p : PW} (h : sndB p = true) : Snd p := by
 unfold sndB wmA at h
 cases hl : (lfB p && within 0 1000000 p.time) with
 | false => rw [hl] at h; cases h
 | true =>
  rw [hl, if_pos rfl, looks_eq] at h
  have h2 := hl
  rw [Bool.and_eq_true] at h2
  have h3 := eq_of_beq h
  have g := firstOf_zero _ (by simp) h3
  exact ⟨lfB_in h2.1, h2.2, lk_all (g (1, lk (bad0 p) p.ram) (by simp)), lk_all (g (3, lk (bad1 p) p.kinds) (by simp)), lk_all (g (2, lk (bad2 p) p.doms) (by simp)), lk_all (g (8, lk (bad3 p) p.slots) (by simp)), lk_all (g (8, lk (bad4 p) p.kinds) (by simp)), lk_all (g (8, lk (bad5 p) p.tasks) (by simp)), lk_all (g (8, lk (bad6 p) p.lines) (by simp)), lk_all (g (8, lk (bad7 p) p.cores) (by simp)), lk_all (g (8, lk (bad8 p) p.ready) (by simp)), lk_all (g (9, lk (bad9 p) p.ram) (by simp)), lk_all (g (9, lk (bad10 p) p.tlbs) (by simp))⟩
/-- The error of a number. -/
def eV (e : Int) : Value := if e = 0 then .nilIface else .iface 29 (.int .i64 e)
theorem eV_0 : eV 0 = .nilIface := rfl
theorem eV_n {e : Int} (h : ¬ e = 0) : eV e = .iface 29 (.int .i64 e) := if_neg h
theorem chk_not3 {w : World} {x : Value} {p : PW} (h : ChkV w x (wmA p)) (hs : sndB p = false) : (∃ e, x = .iface 29 (.int .i64 e)) ∨ ∃ b, x = .iface 96 (.pointer (some ⟨b, 0, none⟩)) := by
 unfold sndB at hs
 generalize wmA p = r at h hs
 rcases h with ⟨rfl, rfl⟩ | ⟨e, he, rfl, rfl⟩ | ⟨e, k, b, he, h0, h1, rfl, rfl⟩
 ·simp at hs
 ·exact .inl ⟨_, rfl⟩
 ·exact .inr ⟨_, rfl⟩
end Go.Proofs.YtkocmkaeaagbaaaGreatDoor.Wd
namespace Go.Proofs.YtkocmkaeaagbaaaGreatDoor.Wd
open Go.RowKit Go.Proofs.YtkocmkaeaagbaaaGreatDoor.Mem Go.Proofs.YtkocmkaeaagbaaaGreatDoor.Bw Go.Proofs.YtkocmkaeaagbaaaGreatDoor.Nums Go.Proofs.YtkocmkaeaagbaaaGreatDoor.Mmu
theorem snd_op {p : PW} (h : Snd p) {k : Nat} (hk : k < p.slots.length) (h0 : p.slots[k] 0 ≠ 0) : opB p p.slots[k] = true := by
 have h1 : bsB p (p.kinds.getD (k / 16) 0) p.slots[k] = false := h.b3 k hk
 generalize p.slots[k] = s at h0 h1 ⊢
 unfold bsB at h1
 rw [show zkB s = false from decide_eq_false fun hz => h0 hz.1, if_neg (by decide)] at h1
 simp only [Bool.not_eq_false', Bool.and_eq_true] at h1
 exact h1.1.1.2
theorem snd_kb {p : PW} (h : Snd p) : ∀ s ∈ p.slots, KB s := kb_of (g := fun k => p.kinds.getD (k / 16) 0) h.b3
/-- The key at an address, and the error. -/
def nkey : Nat → Int := fun _ => 0
end Go.Proofs.YtkocmkaeaagbaaaGreatDoor.Wd
namespace Go.Proofs.YtkocmkaeaagbaaaGreatDoor.Wd
open Go.RowKit Go.Proofs.YtkocmkaeaagbaaaGreatDoor.Mem Go.Proofs.YtkocmkaeaagbaaaGreatDoor.Bw Go.Proofs.YtkocmkaeaagbaaaGreatDoor.Nums Go.Proofs.YtkocmkaeaagbaaaGreatDoor.Mmu
theorem snd_key {p : PW} (h : Snd p) {k : Nat} (hk : k < p.slots.length) (h0 : p.slots[k] 0 ≠ 0) : 0 ≤ p.slots[k] 1 ∧ 1 ≤ p.slots[k] 2 ∧ p.slots[k] 1 + p.slots[k] 2 ≤ (p.kinds.length : Int) ∧ 0 ≤ p.slots[k] 4 ∧ p.slots[k] 4 ≤ 7 := by
 have ho := snd_op h hk h0
 generalize p.slots[k] = s at h0 ho ⊢
 unfold opB at ho
 simp only [Bool.and_eq_true, beq_iff_eq, decide_eq_true_eq] at ho
 obtain ⟨b0, b1, l0, l1, r0, r1⟩ := key_bounds ho.1.1 h0
 exact ⟨b0, l0, ho.1.2, r0, r1⟩
theorem six_set {W : World} {B : Nat} {v0 v1 v2 v3 v4 v5 x0 x1 x2 x3 x4 x5 : Value} (h : ∀ o, W.cell? ⟨B, o, none⟩ = (#[x0, x1, x2, x3, x4, x5] : Array Value)[o]?) :
  ∀ o, ((((((W.setCell ⟨B, 0, none⟩ v0).setCell ⟨B, 1, none⟩ v1).setCell ⟨B, 2, none⟩ v2).setCell ⟨B, 3, none⟩ v3).setCell ⟨B, 4, none⟩ v4).setCell ⟨B, 5, none⟩ v5).cell? ⟨B, o, none⟩ = (#[v0, v1, v2, v3, v4, v5] : Array Value)[o]? :=
 cells_set (cells_set (cells_set (cells_set (cells_set (cells_set h 0 (by simp) v0) 1 (by simp) v1) 2 (by simp) v2) 3 (by simp) v3) 4 (by simp) v4) 5 (by simp) v5
theorem bset6s {w W : World} {v0 v1 v2 v3 v4 v5 : Value} (h : Below w.heap.size w W) : Below w.heap.size w ((((((W.setCell ⟨w.heap.size + 1, 0, none⟩ v0).setCell ⟨w.heap.size + 1, 1, none⟩ v1).setCell ⟨w.heap.size + 1, 2, none⟩ v2).setCell ⟨w.heap.size + 1, 3, none⟩ v3).setCell ⟨w.heap.size + 1, 4, none⟩ v4).setCell ⟨w.heap.size + 1, 5, none⟩ v5) :=
 bset (bset (bset (bset (bset (bset h (Nat.le_succ _) _) (Nat.le_succ _) _) (Nat.le_succ _) _) (Nat.le_succ _) _) (Nat.le_succ _) _) (Nat.le_succ _) _
end Go.Proofs.YtkocmkaeaagbaaaGreatDoor.Wd
namespace Go.Proofs.YtkocmkaeaagbaaaGreatDoor.Mem
open Go.RowKit
/-- How many of the first n are not listed. -/
def left (listed : Array Bool) : Nat → Nat
 | 0 => 0
 | n + 1 => left listed n + (if listed.getD n false = true then 0 else 1)
section
variable {P : Program} {md : Region.Mode} {ops : Array Oper} {Q : Exit → Act → World → Prop} {n1 N : Nat} {R : Nat → Value → World → Prop} {w0 : World} {a0 : Act}
theorem mem_ready {listed : Array Bool} {i : Nat} {o : Oper} (ho : ops[i]? = some o) (hl : listed.getD i true = false) (hd : ∀ e ∈ o.after, listed.getD e.on false = true) : i ∈ Region.ready md ops listed := by
 unfold Region.ready
 refine List.mem_filter.2 ⟨List.mem_range.2 (Array.getElem?_eq_some_iff.1 ho).1, ?_⟩
 rw [ho, hl]
 simp only [Bool.not_false, Bool.true_and, Option.map_some, Option.getD_some, Array.all_eq_true']
 intro e he
 simp [hd e he]
end
end Go.Proofs.YtkocmkaeaagbaaaGreatDoor.Mem
namespace Go.Proofs.YtkocmkaeaagbaaaGreatDoor.Wd
open Go.RowKit Go.Proofs.YtkocmkaeaagbaaaGreatDoor.Mem Go.Proofs.YtkocmkaeaagbaaaGreatDoor.Bw Go.Proofs.YtkocmkaeaagbaaaGreatDoor.Nums Go.Proofs.YtkocmkaeaagbaaaGreatDoor.Mmu
theorem made_one (z : Value) (n k : Nat) (hz : z.cells = #[z]) (h : k < n) : (madeCells z.cells (n * 1))[k]? = some z := by
 unfold madeCells
 rw [hz]
 simp [h, Nat.mod_one]
theorem infoL : (Tryz.prog.info? 22).map (fun i => (i.zero, i.size, i.bytes)) = some (some (.slice none 0 0), 1, 24) := by kernel_rfl
theorem infoB : (Tryz.prog.info? 70).map (fun i => (i.zero, i.size, i.bytes)) = some (some (.slice none 0 0), 1, 24) := by kernel_rfl
theorem ints_nil (w : World) : IntsIn w (.slice none 0 0) [] := ⟨none, 0, 0, 0, rfl, fun e => by simp at e, fun j hj => by simp at hj⟩
theorem own_ints {w : World} {B : Nat} {v : Value} {zs : List Int} (h : w.ownsRow B 3 1 v zs.length (ints zs)) : IntsIn w v zs := by
 rcases h.2 with ⟨rfl, h1⟩ | ⟨g, cap, cur, rfl, h1, _⟩
 ·rw [List.length_eq_zero_iff.1 h1]
  exact ints_nil w
 ·refine ⟨some ⟨g, 0, none⟩, g, 0, cap, rfl, fun _ => rfl, fun j hj => ?_⟩
  rw [Nat.zero_add, h.cellAt j (by omega)]
  unfold ints
  rw [List.getElem?_map, List.getElem?_eq_getElem hj]
  rfl
theorem ints_len (zs : List Int) : (ints zs).length = zs.length * 1 := by simp [ints]
theorem ints_one (zs : List Int) : ∀ u ∈ ints zs, u.oneCell' = true := by
 intro u hu
 obtain ⟨z, _, rfl⟩ := List.mem_map.1 hu
 rfl
theorem ints_at {w : World} {b off : Nat} {zs : List Int} (h : IntsAt w b off zs) : ∀ (j : Nat) (u : Value), (ints zs)[j]? = some u → w.cell? ((⟨b, off, none⟩ : Addr).add j) = some u := by
 intro j u hj
 have hlt : j < zs.length := by have := (List.getElem?_eq_some_iff.1 hj).1; simpa [ints] using this
 rw [Addr.add_mid, h j hlt, ← hj]
 simp [ints, hlt]
set_option maxHeartbeats 2000000 in
theorem clone_ints (v : Value) (zs : List Int) (w : World) (hv : IntsIn w v zs) (hl : zs.length ≤ 1000) :
  Calls Tryz.prog 155 #[v] w fun r w' => ∃ u, r = .returned u ∧ w'.ownsRow w.heap.size 3 1 u zs.length (ints zs) ∧ Below w.heap.size w w' := by
 obtain ⟨i0, hi, hz0, hz1, hz2⟩ := info_get infoI
 have qn : ∀ (w : World) (a : Option Addr) (n c n' c' : Nat), (binOp .eql 22 (.slice a n c) (.slice none n' c')).run Tryz.prog w = .ok (.bool a.isNone) w := fun w a n c n' c' => Lib.run_eql_slice_nil w _ _ a n c n' c' Tryz.underlying22
 obtain ⟨q, b, off, cap, rfl, hq, hz⟩ := hv
 have HQ := hid hq
 have HZ := hid hz
 clear hq hz
 cases q with
 | none =>
  have h0 : zs = [] := by
   cases zs with
   | nil => rfl
   | cons x l => have := HQ.out (by simp); cases this
  subst h0
  go_enter Tryz.func155, Tryz.ntmps155
  go_wp2_with fail
  go_ret
  exact ⟨_, rfl, World.ownsRow_nil _ _ _ _, Below.refl _ _⟩
 | some ad =>
  have HN := hid (show ∀ (W : World), Below w.heap.size w W → ∀ (j : Nat) (u : Value), (ints zs)[j]? = some u → W.cell? (ad.add j) = some u from fun W hb => by
   by_cases h0 : 0 < zs.length
   ·have := HQ.out h0
    cases this
    exact ints_at (HZ.out.below hb)
   ·intro j u hj
    have : zs = [] := by
     cases zs with
     | nil => rfl
     | cons x l => simp at h0
    rw [this] at hj
    simp [ints] at hj)
  have HL := hid (ints_len zs)
  have HC := hid (ints_one zs)
  have hl2 : zs.length ≤ maxLen := by unfold maxLen; omega
  have B0 := hid (bal (Below.refl w.heap.size w) (.cells #[] 3))
  have O0 := hid (World.ownsRow_made (base := w.heap.size) (e := 3) (size := 1) w #[] 0 (Nat.le_refl _) (Nat.zero_le _) (by simp))
  generalize ints zs = cs at *
  go_enter Tryz.func155, Tryz.ntmps155
  go_wp2_with (at_builtin; refine wpList_append_own _ rfl _ _ 22 rfl w.heap.size 3 i0 (.int .i64 0) 1 8 Tryz.underlying22 hi hz0 hz1 hz2 rfl (by decide) _ _ _ rfl O0.out ad zs.length cap cs rfl HL.out (HN.out _ B0.out) HC.out (by omega) (by omega) (by simp) ?_; intro v' w5 hown' hgrow _; have B5 := hid (B0.out.grown hgrow (by simp) (fun k hk => (O0.out.lt k hk).1)); have O5 := hid hown'; clear hown' hgrow)
  go_ret
  refine ⟨_, rfl, ?_, B5.out⟩
  have := O5.out
  rw [Nat.zero_add, List.nil_append] at this
  exact this
/-- No world. -/
def noP : PW := { ram := [], kinds := [], slots := [], tasks := [], lines := [], bits := [], cores := [], ready := [], tlbs := [], doms := [], time := 0 }
def zeroV (k : Nat) : Value := if k = 10 then .int .i64 0 else .slice none 0 0
theorem zero_world (w : World) : WorldV w zeroV noP :=
 ⟨ints_nil w, ints_nil w, ⟨none, 0, 0, 0, rfl, fun e => by simp [noP] at e, fun j hj => by simp [noP] at hj⟩, ⟨none, 0, 0, 0, rfl, fun e => by simp [noP] at e, fun j hj => by simp [noP] at hj⟩, ⟨none, 0, 0, 0, rfl, fun e => by simp [noP] at e, fun j hj => by simp [noP] at hj⟩, ints_nil w, ints_nil w, ⟨none, 0, 0, 0, rfl, fun e => by simp [noP] at e, fun j hj => by simp [noP] at hj⟩, ⟨none, 0, 0, 0, rfl, fun e => by simp [noP] at e, fun j hj => by simp [noP] at hj⟩, ints_nil w, rfl⟩
end Go.Proofs.YtkocmkaeaagbaaaGreatDoor.Wd
