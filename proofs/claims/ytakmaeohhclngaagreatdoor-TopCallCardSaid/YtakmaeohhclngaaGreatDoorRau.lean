/- Lines, by the other text: keyholdref.lineWell; walked. · Tasks, by the other text: keyholdref.taskWell, of a frame that is none; walked. (Written by mk_task5.py.) · Tasks, by the other text: keyholdref.taskWell, of a task: small facts. (Written by mk_task6.py.) · Tasks, by the other text: keyholdref.taskWell, of a task; walked. (Written by mk_task6.py.) · Tasks, by the other text: keyholdref.taskWell; walked. · keyholdref.bitwise, walked. · Slots, by the other text: keyholdref.slotWell; walked. (Written by mk_slot4.py.) · What keys there are to a frame, by the other text: keyholdref.frameWell; walked. · Whether a world is sound, by the other text: small facts. (Written by mk_may.py.) · Whether a world is sound, by the other text: keyholdref.WorldMay where the lists are not as long as they should be; walked. (Written by mk_may.py.) · Whether a world is sound, by the other text: keyholdref.WorldMay; walked. (Written by mk_may.py.) · Whether a world is sound, by the other text: keyholdref.WorldMay and Sound; walked. (Written by mk_may.py.) · keyholdlaw.WorldSays, walked. (Written by mk_says.py.) · What a sound world is; keyholdref.Sound and keyholdlaw.sound, walked. · The slot and the key at an address, by the document: keyholdref.SlotAt, KeyAt; walked. (Written by mk_slat.py.) · The slot and the key at an address: slots.Find, slots.Get; walked. (Written by mk_slat.py.) · What is done to worlds: deed.Do, walked, whatever is done. (Written by mk_do.py.) · deed.Do once more, with where the new world does not lie. (Written by mk_tc2.py.) · Whether a deed did what it should: keyholdref.Nothing, keyholdlaw.did; walked. (Written by mk_do.py.) -/
import Derived.BigQuiet
import Derived.Deep.RegionHeld3
import Derived.BigGuard
import Derived.BigCall
import Derived.Test.YtakmaeohhclngaaGreatDoorChecked
import Derived.Test.YtakmaeohhclngaaGreatDoorRaq
import Derived.Test.YtakmaeohhclngaaGreatDoorRar
import Derived.Test.YtakmaeohhclngaaGreatDoorRab
import Derived.Test.YtakmaeohhclngaaGreatDoorRaa
import Derived.Test.YtakmaeohhclngaaGreatDoorRan
import Derived.Test.YtakmaeohhclngaaGreatDoorRat
import Derived.Test.YtakmaeohhclngaaGreatDoorRas
import Derived.Test.YtakmaeohhclngaaGreatDoorRaf
import Derived.Test.YtakmaeohhclngaaGreatDoorRah
namespace Go.Proofs.YtakmaeohhclngaaGreatDoor.Wd
open Go.RowKit Go.Proofs.YtakmaeohhclngaaGreatDoor.Mem Go.Proofs.YtakmaeohhclngaaGreatDoor.Bw Go.Proofs.YtakmaeohhclngaaGreatDoor.Nums Go.Proofs.YtakmaeohhclngaaGreatDoor.Mmu
end Go.Proofs.YtakmaeohhclngaaGreatDoor.Wd
namespace Go.Proofs.YtakmaeohhclngaaGreatDoor.Wd
open Go.RowKit Go.Proofs.YtakmaeohhclngaaGreatDoor.Mem Go.Proofs.YtakmaeohhclngaaGreatDoor.Bw Go.Proofs.YtakmaeohhclngaaGreatDoor.Nums Go.Proofs.YtakmaeohhclngaaGreatDoor.Mmu
end Go.Proofs.YtakmaeohhclngaaGreatDoor.Wd
namespace Go.Proofs.YtakmaeohhclngaaGreatDoor.Wd
open Go.RowKit Go.Proofs.YtakmaeohhclngaaGreatDoor.Mem Go.Proofs.YtakmaeohhclngaaGreatDoor.Bw Go.Proofs.YtakmaeohhclngaaGreatDoor.Nums Go.Proofs.YtakmaeohhclngaaGreatDoor.Mmu
end Go.Proofs.YtakmaeohhclngaaGreatDoor.Wd
namespace Go.Proofs.YtakmaeohhclngaaGreatDoor.Cpu
open Go.RowKit Go.Proofs.YtakmaeohhclngaaGreatDoor.Mem Go.Proofs.YtakmaeohhclngaaGreatDoor.Bw
set_option maxHeartbeats 4000000 in
theorem bitwise_any (o : Int) (ho : o = 6 ∨ o = 7 ∨ o = 8) (a b : Nat) (ha : a < 65536) (hb : b < 65536) (w : World) :
  Calls Tryz.prog 113 #[.int .i64 a, .int .i64 b, .int .i64 o] w fun e w' => e = .returned (.int .i64 (bw o a b : Nat)) ∧ w = w' := by
 have HL := hid (bw_lt o a b ha hb)
 have HS := hid (fun k => bw_step o a b k ho)
 have HO := hid ho
 clear ho
 go_enter Tryz.func113, Tryz.ntmps113
 go_wp2_with fail
 go_loopw [7, 8] (fun x d wr => ∃ k D u : Nat, k ≤ 16 ∧ d = .int .i64 D ∧ x = .int .i64 u ∧ Hid (D = 2 ^ k ∧ u = bw o a b % 2 ^ k) ∧ wr = w) (fun _ d _ => 65536 * 2 - (intOf d).toNat)
 case atStart => exact ⟨0, 1, 0, by omega, rfl, rfl, ⟨rfl, by simp [Nat.mod_one]⟩, rfl⟩
 case round =>
  obtain ⟨k, D, u, hk, rfl, rfl, hE, rfl⟩ := hrel
  have hD0 : 0 < D := by rw [hE.out.1]; exact Nat.two_pow_pos k
  have hDn : (D : Int) ≠ 0 := by omega
  have hu : u < 65536 := by rw [hE.out.2]; exact Nat.lt_of_le_of_lt (Nat.mod_le _ _) HL.out
  by_cases hlt : k < 16
  ·have hDlt : D ≤ 32768 := by
    rw [hE.out.1]
    exact Nat.le_trans (Nat.pow_le_pow_right (by decide) (by omega : k ≤ 15)) (by decide)
   have hD1 : (D : Int) < 65536 := by omega
   have qa : (a : Int).tdiv (D : Int) = ((a / D : Nat) : Int) := by rw [Int.tdiv_eq_ediv_of_nonneg (by omega)]; simp
   have qb : (b : Int).tdiv (D : Int) = ((b / D : Nat) : Int) := by rw [Int.tdiv_eq_ediv_of_nonneg (by omega)]; simp
   have la : a / D < 65536 := Nat.lt_of_le_of_lt (Nat.div_le_self _ _) ha
   have lb : b / D < 65536 := Nat.lt_of_le_of_lt (Nat.div_le_self _ _) hb
   have HH := hid (show hit o a b k = decide (o = 6 ∧ a / D % 2 + b / D % 2 = 2 ∨ o = 7 ∧ 0 < a / D % 2 + b / D % 2 ∨ o = 8 ∧ a / D % 2 + b / D % 2 = 1) by unfold hit bt; rw [hE.out.1])
   generalize a / D = x at *
   generalize b / D = y at *
   have hx2 : x % 2 < 2 := Nat.mod_lt _ (by decide)
   have hy2 : y % 2 < 2 := Nat.mod_lt _ (by decide)
   cases hh : hit o a b k with
   | true =>
    have HN := hid (show D * 2 = 2 ^ (k + 1) ∧ u + D = bw o a b % 2 ^ (k + 1) from ⟨by rw [hE.out.1, Nat.pow_succ], by rw [HS.out k, hh, if_pos rfl, hE.out.2, hE.out.1]⟩)
    have hc := HH.out
    rw [hh] at hc
    have hc2 := (decide_eq_true_iff.1 hc.symm)
    clear hh hc
    rcases HO.out with rfl | rfl | rfl
    ·have e1 : ((x : Int) % 2 + (y : Int) % 2 == 2) = true := beq_iff_eq.2 (by omega)
     clear hc2
     go_wp2_with fail
     exact ⟨⟨k + 1, D * 2, u + D, by omega, by go_num, by go_num, HN.out, trivial⟩, by simp [intOf]; omega⟩
    ·have e1 : (0 : Int) < (x : Int) % 2 + (y : Int) % 2 := by omega
     clear hc2
     go_wp2_with fail
     exact ⟨⟨k + 1, D * 2, u + D, by omega, by go_num, by go_num, HN.out, trivial⟩, by simp [intOf]; omega⟩
    ·have e1 : ((x : Int) % 2 + (y : Int) % 2 == 1) = true := beq_iff_eq.2 (by omega)
     clear hc2
     go_wp2_with fail
     exact ⟨⟨k + 1, D * 2, u + D, by omega, by go_num, by go_num, HN.out, trivial⟩, by simp [intOf]; omega⟩
   | false =>
    have HN := hid (show D * 2 = 2 ^ (k + 1) ∧ u = bw o a b % 2 ^ (k + 1) from ⟨by rw [hE.out.1, Nat.pow_succ], by rw [HS.out k, hh, if_neg (by decide), hE.out.2, Nat.add_zero]⟩)
    have hc := HH.out
    rw [hh] at hc
    have hc2 := (decide_eq_false_iff_not.1 hc.symm)
    clear hh hc
    rcases HO.out with rfl | rfl | rfl
    ·have e1 : ((x : Int) % 2 + (y : Int) % 2 == 2) = false := beq_eq_false_iff_ne.2 (by omega)
     clear hc2
     go_wp2_with fail
     exact ⟨⟨k + 1, D * 2, u, by omega, by go_num, rfl, HN.out, trivial⟩, by simp [intOf]; omega⟩
    ·have e1 : ¬ ((0 : Int) < (x : Int) % 2 + (y : Int) % 2) := by omega
     clear hc2
     go_wp2_with fail
     exact ⟨⟨k + 1, D * 2, u, by omega, by go_num, rfl, HN.out, trivial⟩, by simp [intOf]; omega⟩
    ·have e1 : ((x : Int) % 2 + (y : Int) % 2 == 1) = false := beq_eq_false_iff_ne.2 (by omega)
     clear hc2
     go_wp2_with fail
     exact ⟨⟨k + 1, D * 2, u, by omega, by go_num, rfl, HN.out, trivial⟩, by simp [intOf]; omega⟩
  ·obtain rfl : k = 16 := by omega
   have hD : D = 65536 := hE.out.1
   have hge : ¬ ((D : Int) < 65536) := by omega
   have HU := hid (show u = bw o a b by rw [hE.out.2]; exact Nat.mod_eq_of_lt HL.out)
   clear hD
   go_wp2_with fail
   go_ret
   exact ⟨ret_int (by show ((u : Nat) : Int) = _; rw [HU.out]), rfl⟩
end Go.Proofs.YtakmaeohhclngaaGreatDoor.Cpu
namespace Go.Proofs.YtakmaeohhclngaaGreatDoor.Wd
open Go.RowKit Go.Proofs.YtakmaeohhclngaaGreatDoor.Mem Go.Proofs.YtakmaeohhclngaaGreatDoor.Bw Go.Proofs.YtakmaeohhclngaaGreatDoor.Nums Go.Proofs.YtakmaeohhclngaaGreatDoor.Mmu
theorem key_bounds {s : Nat → Int} (hc : kc s = 0) (h0 : ¬ s 0 = 0) : 0 ≤ s 1 ∧ s 1 ≤ 23 ∧ 1 ≤ s 2 ∧ s 2 ≤ 24 ∧ 0 ≤ s 4 ∧ s 4 ≤ 7 := by
 have h : KP.chk (s 0) (s 1) (s 2) (s 3) (s 4) (s 5) = 0 := hc
 obtain ⟨k0, k1, b0, b1, l0, l1, m0, m1, r0, r1, g0, g1⟩ := KP.chk_zero h
 rw [chk_plain] at h
 split at h
 ·omega
 split at h
 ·omega
 split at h
 ·omega
 ·omega
end Go.Proofs.YtakmaeohhclngaaGreatDoor.Wd
namespace Go.Proofs.YtakmaeohhclngaaGreatDoor.Wd
open Go.RowKit Go.Proofs.YtakmaeohhclngaaGreatDoor.Mem Go.Proofs.YtakmaeohhclngaaGreatDoor.Bw Go.Proofs.YtakmaeohhclngaaGreatDoor.Nums Go.Proofs.YtakmaeohhclngaaGreatDoor.Mmu
def okey (n : Int) (s : Nat → Int) : Nat := if opn n s then 1 else 0
theorem okey_any (n : Int) : ∀ l : List (Nat → Int), decide (0 < sumOf (okey n) l) = l.any (opn n)
 | [] => rfl
 | s :: l => by
  have h := okey_any n l
  have e : sumOf (okey n) (s :: l) = okey n s + sumOf (okey n) l := by unfold sumOf; simp
  rw [e, List.any_cons, ← h]
  cases ho : opn n s with
  | true =>
   have : okey n s = 1 := by unfold okey; rw [ho]; rfl
   rw [this, decide_eq_true (by omega)]
   rfl
  | false =>
   have : okey n s = 0 := by unfold okey; rw [ho]; rfl
   rw [this, Nat.zero_add]
   rfl
/-- Where the looking at slots has come to. -/
structure Fr2 (p : PW) (n : Int) (k c d : Nat) (u : Bool) : Prop where
 c : c = sumOf (cl n) (p.slots.take k)
 d : d = sumOf (okey n) (p.slots.take k)
 u : u = (p.slots.take k).any (un n)
theorem Fr2.next {p : PW} {n : Int} {k c d : Nat} {u : Bool} (h : Fr2 p n k c d u) (hk : k < p.slots.length) : Fr2 p n (k + 1) (c + cl n p.slots[k]) (d + okey n p.slots[k]) (u || un n p.slots[k]) :=
 ⟨by rw [sum_next _ hk, ← h.c], by rw [sum_next _ hk, ← h.d], by rw [any_next _ hk, ← h.u]⟩
theorem Fr2.all {p : PW} {n kind : Int} {c d : Nat} {u : Bool} (h : Fr2 p n p.slots.length c d u) : (!bfB p n kind) = (decide (c ≤ 1) && (kind == 0 || (decide (0 < d) && !u))) := by
 have e := okey_any n p.slots
 rw [h.c, h.d, h.u, List.take_length, e]
 unfold bfB
 have e2 : decide (sumOf (cl n) p.slots ≤ 1) = !decide (1 < sumOf (cl n) p.slots) := by
  by_cases hh : 1 < sumOf (cl n) p.slots
  ·rw [decide_eq_true hh, decide_eq_false (by omega)]; rfl
  ·rw [decide_eq_false hh, decide_eq_true (by omega)]; rfl
 rw [e2]
 have e3 : (kind != 0) = !(kind == 0) := rfl
 rw [e3]
 generalize decide (1 < sumOf (cl n) p.slots) = b1
 generalize (kind == 0) = b2
 generalize p.slots.any (opn n) = b3
 generalize p.slots.any (un n) = b4
 revert b1 b2 b3 b4
 decide
end Go.Proofs.YtakmaeohhclngaaGreatDoor.Wd
namespace Go.Proofs.YtakmaeohhclngaaGreatDoor.Wd
open Go.RowKit Go.Proofs.YtakmaeohhclngaaGreatDoor.Mem Go.Proofs.YtakmaeohhclngaaGreatDoor.Bw Go.Proofs.YtakmaeohhclngaaGreatDoor.Nums Go.Proofs.YtakmaeohhclngaaGreatDoor.Mmu
def bad0 (_p : PW) (_k : Nat) (x : Int) : Bool := nwB x
def bad1 (_p : PW) (_k : Nat) (x : Int) : Bool := nkB x
def bad2 (_p : PW) (_k : Nat) (x : Int) : Bool := nd x
def bad3 (p : PW) (k : Nat) (x : Nat → Int) : Bool := bsB p (p.kinds.getD (k / 16) 0) x
def bad4 (p : PW) (k : Nat) (x : Int) : Bool := bfB p k x
def bad5 (p : PW) (k : Nat) (x : Nat → Int) : Bool := btB p k (p.kinds.getD k 0) x
def bad6 (p : PW) (k : Nat) (x : List Int) : Bool := blB p k (p.kinds.getD k 0) (p.bits.getD k 0) x
def bad7 (p : PW) (k : Nat) (x : Int) : Bool := bcB p k x
def bad8 (p : PW) (k : Nat) (x : List Int) : Bool := brB p k x
def bad9 (p : PW) (k : Nat) (x : Int) : Bool := beB p (p.kinds.getD (k / 16) 0) x
def bad10 (p : PW) (_k : Nat) (x : List Ent) : Bool := bmB p x
theorem looks_eq (p : PW) : looks p = [(1, lk (bad0 p) p.ram), (3, lk (bad1 p) p.kinds), (2, lk (bad2 p) p.doms), (8, lk (bad3 p) p.slots), (8, lk (bad4 p) p.kinds), (8, lk (bad5 p) p.tasks), (8, lk (bad6 p) p.lines), (8, lk (bad7 p) p.cores), (8, lk (bad8 p) p.ready), (9, lk (bad9 p) p.ram), (9, lk (bad10 p) p.tlbs)] := rfl
end Go.Proofs.YtakmaeohhclngaaGreatDoor.Wd
namespace Go.Proofs.YtakmaeohhclngaaGreatDoor.Wd
open Go.RowKit Go.Proofs.YtakmaeohhclngaaGreatDoor.Mem Go.Proofs.YtakmaeohhclngaaGreatDoor.Bw Go.Proofs.YtakmaeohhclngaaGreatDoor.Nums Go.Proofs.YtakmaeohhclngaaGreatDoor.Mmu
end Go.Proofs.YtakmaeohhclngaaGreatDoor.Wd
namespace Go.Proofs.YtakmaeohhclngaaGreatDoor.Wd
open Go.RowKit Go.Proofs.YtakmaeohhclngaaGreatDoor.Mem Go.Proofs.YtakmaeohhclngaaGreatDoor.Bw Go.Proofs.YtakmaeohhclngaaGreatDoor.Nums Go.Proofs.YtakmaeohhclngaaGreatDoor.Mmu
end Go.Proofs.YtakmaeohhclngaaGreatDoor.Wd
namespace Go.Proofs.YtakmaeohhclngaaGreatDoor.Wd
open Go.RowKit Go.Proofs.YtakmaeohhclngaaGreatDoor.Mem Go.Proofs.YtakmaeohhclngaaGreatDoor.Bw Go.Proofs.YtakmaeohhclngaaGreatDoor.Nums Go.Proofs.YtakmaeohhclngaaGreatDoor.Mmu
theorem EntsRaw.below {w w' : World} {v : Value} {l : List Ent} (h : EntsRaw w v l) (hb : Below w.heap.size w w') : EntsRaw w' v l := by
 obtain ⟨q, b, off, cap, h1, h2, h3, h4⟩ := h
 exact ⟨q, b, off, cap, h1, h2, h3.below hb, h4⟩
theorem ListsRaw.below {w w' : World} {v : Value} {ls : List (List Int)} (h : ListsRaw w v ls) (hb : Below w.heap.size w w') : ListsRaw w' v ls := by
 obtain ⟨q, b, off, cap, h1, h2, h3, h4⟩ := h
 refine ⟨q, b, off, cap, h1, h2, fun j hj => ?_, h4⟩
 obtain ⟨y, hy, hr, hm⟩ := h3 j hj
 exact ⟨y, (hb.cell (World.block_lt_of_cell? _ _ hy)).trans hy, hr.below hb, hm⟩
theorem TlbsRaw.below {w w' : World} {v : Value} {ls : List (List Ent)} (h : TlbsRaw w v ls) (hb : Below w.heap.size w w') : TlbsRaw w' v ls := by
 obtain ⟨q, b, off, cap, h1, h2, h3, h4⟩ := h
 refine ⟨q, b, off, cap, h1, h2, fun j hj => ?_, h4⟩
 obtain ⟨y, hy, hr, hm⟩ := h3 j hj
 exact ⟨y, (hb.cell (World.block_lt_of_cell? _ _ hy)).trans hy, hr.below hb, hm⟩
theorem WorldR.below {w w' : World} {v : Nat → Value} {p : PW} (h : WorldR w v p) (hb : Below w.heap.size w w') : WorldR w' v p :=
 ⟨⟨h.ram.1.below hb, h.ram.2⟩, ⟨h.kinds.1.below hb, h.kinds.2⟩, ⟨h.slots.1.below hb, h.slots.2⟩, ⟨h.tasks.1.below hb, h.tasks.2⟩, h.lines.below hb, ⟨h.bits.1.below hb, h.bits.2⟩, ⟨h.cores.1.below hb, h.cores.2⟩, h.ready.below hb, h.tlbs.below hb, ⟨h.doms.1.below hb, h.doms.2⟩, h.time⟩
def sndB (p : PW) : Bool := (wmA p).1 == 0
theorem chk_nil {w : World} {x : Value} {p : PW} (h : ChkV w x (wmA p)) (hs : sndB p = true) : x = .nilIface := by
 unfold sndB at hs
 generalize wmA p = r at h hs
 rcases h with ⟨rfl, rfl⟩ | ⟨e, he, rfl, rfl⟩ | ⟨e, k, b, he, h0, h1, rfl, rfl⟩
 ·rfl
 ·exact absurd (by simpa using hs) he
 ·exact absurd (by simpa using hs) he
theorem firstOf_zero : ∀ l : List (Int × Option Nat), (∀ x ∈ l, x.1 ≠ 0) → (firstOf l).1 = 0 → ∀ x ∈ l, x.2 = none
 | [], _, _ => fun _ h => by cases h
 | (e, some k) :: r, h, h0 => absurd h0 (h _ (List.mem_cons_self ..))
 | (e, none) :: r, h, h0 => fun x hx => by
  rcases List.mem_cons.1 hx with rfl | hx
  ·rfl
  ·exact firstOf_zero r (fun y hy => h y (List.mem_cons_of_mem _ hy)) h0 x hx
theorem lk_all {α : Type} {bad : Nat → α → Bool} {l : List α} (h : lk bad l = none) : ∀ k (hk : k < l.length), bad k l[k] = false := fun k hk => by
 unfold lk at h
 rw [List.find?_eq_none] at h
 have := h k (List.mem_range.2 hk)
 rw [List.getElem?_eq_getElem hk] at this
 simpa using this
/-- A sound world: nothing is found in it. -/
structure Snd (p : PW) : Prop where
 lf : LF p
 tm : within 0 1000000 p.time = true
 b0 : ∀ k (hk : k < p.ram.length), bad0 p k p.ram[k] = false
 b1 : ∀ k (hk : k < p.kinds.length), bad1 p k p.kinds[k] = false
 b2 : ∀ k (hk : k < p.doms.length), bad2 p k p.doms[k] = false
 b3 : ∀ k (hk : k < p.slots.length), bad3 p k p.slots[k] = false
 b4 : ∀ k (hk : k < p.kinds.length), bad4 p k p.kinds[k] = false
 b5 : ∀ k (hk : k < p.tasks.length), bad5 p k p.tasks[k] = false
 b6 : ∀ k (hk : k < p.lines.length), bad6 p k p.lines[k] = false
 b7 : ∀ k (hk : k < p.cores.length), bad7 p k p.cores[k] = false
 b8 : ∀ k (hk : k < p.ready.length), bad8 p k p.ready[k] = false
 b9 : ∀ k (hk : k < p.ram.length), bad9 p k p.ram[k] = false
 b10 : ∀ k (hk : k < p.tlbs.length), bad10 p k p.tlbs[k] = false
theorem snd_of {p : PW} (h : sndB p = true) : Snd p := by
 unfold sndB wmA at h
 cases hl : (lfB p && within 0 1000000 p.time) with
 | false => rw [hl] at h; cases h
 | true =>
  rw [hl, if_pos rfl, looks_eq] at h
  have h2 := hl
  rw [Bool.and_eq_true] at h2
  have h3 := eq_of_beq h
  have g := firstOf_zero _ (by simp) h3
  exact ⟨lfB_in h2.1, h2.2, lk_all (g (1, lk (bad0 p) p.ram) (by simp)), lk_all (g (3, lk (bad1 p) p.kinds) (by simp)), lk_all (g (2, lk (bad2 p) p.doms) (by simp)), lk_all (g (8, lk (bad3 p) p.slots) (by simp)), lk_all (g (8, lk (bad4 p) p.kinds) (by simp)), lk_all (g (8, lk (bad5 p) p.tasks) (by simp)), lk_all (g (8, lk (bad6 p) p.lines) (by simp)), lk_all (g (8, lk (bad7 p) p.cores) (by simp)), lk_all (g (8, lk (bad8 p) p.ready) (by simp)), lk_all (g (9, lk (bad9 p) p.ram) (by simp)), lk_all (g (9, lk (bad10 p) p.tlbs) (by simp))⟩
/-- The error of a number. -/
def eV (e : Int) : Value := if e = 0 then .nilIface else .iface 42 (.int .i64 e)
theorem eV_0 : eV 0 = .nilIface := rfl
theorem eV_n {e : Int} (h : ¬ e = 0) : eV e = .iface 42 (.int .i64 e) := if_neg h
theorem chk_not3 {w : World} {x : Value} {p : PW} (h : ChkV w x (wmA p)) (hs : sndB p = false) : (∃ e, x = .iface 42 (.int .i64 e)) ∨ ∃ b, x = .iface 68 (.pointer (some ⟨b, 0, none⟩)) := by
 unfold sndB at hs
 generalize wmA p = r at h hs
 rcases h with ⟨rfl, rfl⟩ | ⟨e, he, rfl, rfl⟩ | ⟨e, k, b, he, h0, h1, rfl, rfl⟩
 ·simp at hs
 ·exact .inl ⟨_, rfl⟩
 ·exact .inr ⟨_, rfl⟩
end Go.Proofs.YtakmaeohhclngaaGreatDoor.Wd
namespace Go.Proofs.YtakmaeohhclngaaGreatDoor.Wd
open Go.RowKit Go.Proofs.YtakmaeohhclngaaGreatDoor.Mem Go.Proofs.YtakmaeohhclngaaGreatDoor.Bw Go.Proofs.YtakmaeohhclngaaGreatDoor.Nums Go.Proofs.YtakmaeohhclngaaGreatDoor.Mmu
/-- The error of a world and a deed: no sound world, or the deed's. -/
def dE (p : PW) (e : Int) : Int := if sndB p then e else 8
def dP (p p' : PW) (e : Int) : PW := if dE p e = 0 then p' else noP
theorem eval_get (a : Act) (t : Nat) : a.eval (.tmp t) = a.tmps[t]?.getD undef := by simp [Act.eval, Array.getD_eq_getD_getElem?]
theorem results_c2 {fn : Func} {p u : Tmp} {ty : TypeId} (h : fn.results = #[.cell p ty, .tmp u]) {a : Act} {P : Program} {w : World} {b : Nat} {x y : Value} (hp : a.eval (.tmp p) = .pointer (some ⟨b, 0, none⟩)) (hl : (loadVar ty ⟨b, 0, none⟩).run P w = .ok x w) (hu : a.eval (.tmp u) = y) :
  (results fn a.tmps).run P w = .ok (.tuple #[x, y]) w := by
 rw [eval_get] at hp hu
 simp only [results, h]
 simp [Result.andThen, asAddr, hp, hu, hl]
theorem results_d2 {fn : Func} {p u : Tmp} {ty : TypeId} (h : fn.results = #[.cell p ty, .tmp u]) {tmps : Array Value} {P : Program} {w : World} {b : Nat} {x y : Value} (hp : tmps.getD p undef = .pointer (some ⟨b, 0, none⟩)) (hl : (loadVar ty ⟨b, 0, none⟩).run P w = .ok x w) (hu : tmps.getD u undef = y) :
  (results fn tmps).run P w = .ok (.tuple #[x, y]) w := results_c2 (a := ⟨tmps, []⟩) h hp hl hu
set_option maxRecDepth 100000 in
set_option maxHeartbeats 8000000 in
theorem do_far (N : Nat) (caps : Array Value) (ok : World → Prop) (V : Nat → Value) (p p' : PW) (e : Int) (w : World) (hv : WorldV w V p) (hp : p.Fits) (hN : ∀ args (W : World), (callFunc N args).run Tryz.prog W = .ok (.enter N args) W)
  (hok : ∀ W, Below w.heap.size w W → ok W) (hd : Snd p → DeedF N caps ok eV p p' e) :
  Calls Tryz.prog 19 #[.agg (arr11 V), .func (.func N) #[] caps] w fun r w' => ∃ X, r = .returned (.tuple #[.agg (arr11 X), eV (dE p e)]) ∧ FarV w' w.heap.size X (dP p p' e) ∧ Below w.heap.size w w' := by
 have RG1 := boxed w V 28
 have RG0 := hid (range_below RG1 (bal (Below.refl _ (w.alloc (.cells (arr11 V) 28))) (.cells #[.slice none 0 0, .slice none 0 0, .slice none 0 0, .slice none 0 0, .slice none 0 0, .slice none 0 0, .slice none 0 0, .slice none 0 0, .slice none 0 0, .slice none 0 0, .int .i64 0] 28)))
 have B0 := hid (bal (bal (Below.refl w.heap.size w) (.cells (arr11 V) 28)) (.cells #[.slice none 0 0, .slice none 0 0, .slice none 0 0, .slice none 0 0, .slice none 0 0, .slice none 0 0, .slice none 0 0, .slice none 0 0, .slice none 0 0, .slice none 0 0, .int .i64 0] 28))
 have T0 := hid (there_new (w.alloc (.cells (arr11 V) 28)) #[.slice none 0 0, .slice none 0 0, .slice none 0 0, .slice none 0 0, .slice none 0 0, .slice none 0 0, .slice none 0 0, .slice none 0 0, .slice none 0 0, .slice none 0 0, .int .i64 0] 28 (w.heap.size + 1) 11 (by simp) (by decide))
 have HV := hid hv
 have HP := hid hp
 have HD := hid hd
 have HK := hid hok
 have L0 := hid (show w.heap.size + 1 < ((w.alloc (.cells (arr11 V) 28)).alloc (.cells #[.slice none 0 0, .slice none 0 0, .slice none 0 0, .slice none 0 0, .slice none 0 0, .slice none 0 0, .slice none 0 0, .slice none 0 0, .slice none 0 0, .slice none 0 0, .int .i64 0] 28)).heap.size by simp)
 clear hv hp hd hok RG1
 go_enter Tryz.func19, Tryz.ntmps19
 go_wp2_with (first | ((with_reducible (show wpList _ _ _ (⟨_, Op.load 28 _, _, _, _, _⟩ :: _) _ _)); refine wp_ldWg (by rfl) _ rfl _ rfl V RG0.out ?_))
 generalize World.alloc _ _ = W0 at *
 refine (check_any V p W0 (HV.out.below B0.out) HP.out).mono ?_
 rintro r w1 ⟨x, rfl, hc, hb⟩
 have A1 := hid hb
 have B1 := hid (btr B0.out hb)
 have T1 := hid (there_belowO T0.out hb)
 have RG := hid (range_below RG0.out hb)
 have L1 := hid (Nat.lt_of_lt_of_le L0.out hb.size)
 have XV := hid (zero_world w1)
 have zo := hid (world_one (zero_world w1))
 cases hs : sndB p with
 | false =>
  have HE := hid (show dE p e = 8 by unfold dE; rw [hs]; rfl)
  have HQ := hid (show dP p p' e = noP by unfold dP; rw [HE.out]; rfl)
  have HX := hid (chk_not3 hc hs)
  have RX := hid (World.rangeAt_setCells_same w1 (w.heap.size + 1) 0 (arr11 zeroV).toList T1.out)
  have BX := hid (below_setCells B1.out (show w.heap.size ≤ w.heap.size + 1 by omega) (arr11 zeroV).toList 0)
  clear hb hc hs RG A1
  rcases HX.out with ⟨y, rfl⟩ | ⟨y, rfl⟩
  ·clear HX
   go_wp2_with (first | ((with_reducible (show wpList _ _ _ (⟨_, Op.store 28 _ _, _, _, _, _⟩ :: _) _ _)); refine wpList_store_mid rfl 28 _ _ rfl (w.heap.size + 1) 0 (arr11 zeroV) rfl rfl T1.out infoW zo.out ?_))
   exact bodyPost_ret (v := .tuple #[.agg (arr11 zeroV), .iface 42 (.int .i64 8)]) (results_d2 rfl rfl (run_loadVar_mid _ (w.heap.size + 1) 0 28 (arr11 zeroV).toList _ RX.out Tryz.underlying28 rfl infoW) rfl) rfl ⟨zeroV, by rw [HE.out]; rfl, by rw [HQ.out]; exact fun _ _ => zero_world _, BX.out⟩
  ·clear HX
   go_wp2_with (first | ((with_reducible (show wpList _ _ _ (⟨_, Op.store 28 _ _, _, _, _, _⟩ :: _) _ _)); refine wpList_store_mid rfl 28 _ _ rfl (w.heap.size + 1) 0 (arr11 zeroV) rfl rfl T1.out infoW zo.out ?_))
   exact bodyPost_ret (v := .tuple #[.agg (arr11 zeroV), .iface 42 (.int .i64 8)]) (results_d2 rfl rfl (run_loadVar_mid _ (w.heap.size + 1) 0 28 (arr11 zeroV).toList _ RX.out Tryz.underlying28 rfl infoW) rfl) rfl ⟨zeroV, by rw [HE.out]; rfl, by rw [HQ.out]; exact fun _ _ => zero_world _, BX.out⟩
 | true =>
 obtain rfl := chk_nil hc hs
 have HS := hid (snd_of hs)
 have HE := hid (show dE p e = e by unfold dE; rw [hs]; rfl)
 clear hb hc hs
 go_wp2_with (first | ((with_reducible (show wpList _ _ _ (⟨_, Op.load 28 _, _, _, _, _⟩ :: _) _ _)); refine wp_ldWg (by rfl) _ rfl _ rfl V RG.out ?_))
 refine (twin_any V p w1 (HV.out.below B1.out) HP.out).mono ?_
 rintro r w2 ⟨U, L, rfl, hO, hL0, hL1, hb⟩
 have TN := hid (there_new w2 #[.slice none 0 0, .slice none 0 0, .slice none 0 0, .slice none 0 0, .slice none 0 0, .slice none 0 0, .slice none 0 0, .slice none 0 0, .slice none 0 0, .slice none 0 0, .int .i64 0] 28 w2.heap.size 11 rfl (by decide))
 have B2 := hid (btr B1.out hb)
 have L2 := hid (show w.heap.size + 2 ≤ L 0 from Nat.le_trans (Nat.succ_le_of_lt L1.out) hL0)
 have T2 := hid (there_belowO T1.out hb)
 have one := hid (world_one (hO.v (tlbs_le HV.out.tlbs)))
 have BO := hid (show BoxO ((w2.alloc (.cells #[.slice none 0 0, .slice none 0 0, .slice none 0 0, .slice none 0 0, .slice none 0 0, .slice none 0 0, .slice none 0 0, .slice none 0 0, .slice none 0 0, .slice none 0 0, .int .i64 0] 28)).setCells w2.heap.size 0 (arr11 U).toList) w2.heap.size L U p from
  ⟨World.rangeAt_setCells_same _ w2.heap.size 0 (arr11 U).toList TN.out, there_sets _ 0 _ TN.out, worldO_over (hO.below (bal (Below.refl _ w2) (.cells #[.slice none 0 0, .slice none 0 0, .slice none 0 0, .slice none 0 0, .slice none 0 0, .slice none 0 0, .slice none 0 0, .slice none 0 0, .slice none 0 0, .slice none 0 0, .int .i64 0] 28))) hL1 _ 0, hL1, by rw [setCells_size]; simp⟩)
 have B3 := hid (below_setCells (bal B2.out (.cells #[.slice none 0 0, .slice none 0 0, .slice none 0 0, .slice none 0 0, .slice none 0 0, .slice none 0 0, .slice none 0 0, .slice none 0 0, .slice none 0 0, .slice none 0 0, .int .i64 0] 28)) B2.out.size (arr11 U).toList 0)
 have T3 := hid (there_sets (B := w2.heap.size) (arr11 U).toList 0 _ (there_belowO T2.out (bal (Below.refl _ w2) (.cells #[.slice none 0 0, .slice none 0 0, .slice none 0 0, .slice none 0 0, .slice none 0 0, .slice none 0 0, .slice none 0 0, .slice none 0 0, .slice none 0 0, .slice none 0 0, .int .i64 0] 28))))
 clear hb hO hL0 hL1 RG RG0 A1 T1 T0 B0
 go_wp2_with (first | ((with_reducible (show wpList _ _ _ (⟨_, Op.store 28 _ _, _, _, _, _⟩ :: _) _ _)); refine wpList_store_mid rfl 28 _ _ rfl w2.heap.size 0 (arr11 U) rfl rfl TN.out infoW one.out ?_))
 generalize World.setCells _ _ _ _ = W3 at *
 refine (HD.out HS.out W3 w2.heap.size L U BO.out (HK.out _ B3.out) (fun _ h => HK.out _ (B3.out.trans (h.mono (by have := L2.out; omega))))).mono ?_
 rintro r w4 ⟨rfl, h4, h5⟩
 have B4 := hid (show Below w.heap.size w w4 from B3.out.trans (h4.mono (by have := L2.out; omega)))
 have T4 := hid (there_N T3.out h4 (by have := L2.out; omega))
 have H5 := hid h5
 clear h4 h5 TN BO one HD
 by_cases he : e = 0
 rotate_left
 ·have HQ := hid (show dP p p' e = noP by unfold dP; rw [HE.out, if_neg he])
  have HX := hid (eV_n he)
  have RX := hid (World.rangeAt_setCells_same w4 (w.heap.size + 1) 0 (arr11 zeroV).toList T4.out)
  have BX := hid (below_setCells B4.out (show w.heap.size ≤ w.heap.size + 1 by omega) (arr11 zeroV).toList 0)
  rw [HX.out]
  clear he H5
  go_wp2_with (first | ((with_reducible (show wpList _ _ _ (⟨_, Op.store 28 _ _, _, _, _, _⟩ :: _) _ _)); refine wpList_store_mid rfl 28 _ _ rfl (w.heap.size + 1) 0 (arr11 zeroV) rfl rfl T4.out infoW zo.out ?_))
  exact bodyPost_ret (v := .tuple #[.agg (arr11 zeroV), .iface 42 (.int .i64 e)]) (results_d2 rfl rfl (run_loadVar_mid _ (w.heap.size + 1) 0 28 (arr11 zeroV).toList _ RX.out Tryz.underlying28 rfl infoW) rfl) rfl ⟨zeroV, by rw [HE.out, HX.out], by rw [HQ.out]; exact fun _ _ => zero_world _, BX.out⟩
 obtain ⟨X, bo⟩ := H5.out he
 have HX := hid (show eV e = .nilIface by rw [he]; rfl)
 have HQ := hid (show dP p p' e = p' by unfold dP; rw [HE.out, if_pos he])
 have one2 := hid (world_one bo.f.v0)
 have RGX := hid bo.r
 have RX := hid (World.rangeAt_setCells_same w4 (w.heap.size + 1) 0 (arr11 X).toList T4.out)
 have BX := hid (below_setCells B4.out (show w.heap.size ≤ w.heap.size + 1 by omega) (arr11 X).toList 0)
 have WX := hid ((bo.f.put (w.heap.size + 1) 0 (arr11 X).toList (by have := L2.out; omega)).mono (show w.heap.size ≤ L 0 by have := L2.out; omega))
 rw [HX.out]
 clear he H5 bo
 go_wp2_with (first | ((with_reducible (show wpList _ _ _ (⟨_, Op.load 28 _, _, _, _, _⟩ :: _) _ _)); refine wp_ldWg (by rfl) _ rfl _ rfl X RGX.out ?_) | ((with_reducible (show wpList _ _ _ (⟨_, Op.store 28 _ _, _, _, _, _⟩ :: _) _ _)); refine wpList_store_mid rfl 28 _ _ rfl (w.heap.size + 1) 0 (arr11 X) rfl rfl T4.out infoW one2.out ?_))
 exact bodyPost_ret (v := .tuple #[.agg (arr11 X), .nilIface]) (results_d2 rfl rfl (run_loadVar_mid _ (w.heap.size + 1) 0 28 (arr11 X).toList _ RX.out Tryz.underlying28 rfl infoW) rfl) rfl ⟨X, by rw [HE.out, HX.out], by rw [HQ.out]; exact WX.out, BX.out⟩
theorem dE_eq {p : PW} {e : Int} (h : sndB p = true) : dE p e = e := by unfold dE; rw [h]; rfl
end Go.Proofs.YtakmaeohhclngaaGreatDoor.Wd
