/- Whether a world is sound, by the other text: small facts. (Written by mk_may.py.) -/
import Derived.Test.YtoebmjgkfkfhjaaGreatDoorWdCheck
import Derived.Test.YtoebmjgkfkfhjaaGreatDoorGTask6
import Derived.Test.YtoebmjgkfkfhjaaGreatDoorWdSlot4
import Derived.Test.YtoebmjgkfkfhjaaGreatDoorWdFrame2
import Derived.Test.YtoebmjgkfkfhjaaGreatDoorGMem
import Derived.Test.YtoebmjgkfkfhjaaGreatDoorGLook
namespace Go.Proofs.YtoebmjgkfkfhjaaGreatDoor.Wd
open Go.RowKit Go.Proofs.YtoebmjgkfkfhjaaGreatDoor.Mem Go.Proofs.YtoebmjgkfkfhjaaGreatDoor.Bw Go.Proofs.YtoebmjgkfkfhjaaGreatDoor.Nums Go.Proofs.YtoebmjgkfkfhjaaGreatDoor.Mmu
def bad0 (_p : PW) (_k : Nat) (x : Int) : Bool := nwB x
def bad1 (_p : PW) (_k : Nat) (x : Int) : Bool := nkB x
def bad2 (_p : PW) (_k : Nat) (x : Int) : Bool := nd x
def bad3 (p : PW) (k : Nat) (x : Nat → Int) : Bool := bsB p (p.kinds.getD (k / 16) 0) x
def bad4 (p : PW) (k : Nat) (x : Int) : Bool := bfB p k x
def bad5 (p : PW) (k : Nat) (x : Nat → Int) : Bool := btB p k (p.kinds.getD k 0) x
def bad6 (p : PW) (k : Nat) (x : List Int) : Bool := blB p k (p.kinds.getD k 0) (p.bits.getD k 0) x
def bad7 (p : PW) (k : Nat) (x : Int) : Bool := bcB p k x
def bad8 (p : PW) (k : Nat) (x : List Int) : Bool := brB p k x
def bad9 (p : PW) (k : Nat) (x : Int) : Bool := beB p (p.kinds.getD (k / 16) 0) x
def bad10 (p : PW) (_k : Nat) (x : List Ent) : Bool := bmB p x
theorem looks_eq (p : PW) : looks p = [(1, lk (bad0 p) p.ram), (3, lk (bad1 p) p.kinds), (2, lk (bad2 p) p.doms), (8, lk (bad3 p) p.slots), (8, lk (bad4 p) p.kinds), (8, lk (bad5 p) p.tasks), (8, lk (bad6 p) p.lines), (8, lk (bad7 p) p.cores), (8, lk (bad8 p) p.ready), (9, lk (bad9 p) p.ram), (9, lk (bad10 p) p.tlbs)] := rfl
theorem cell6 {W : World} {b : Nat} {V : Nat → Value} {x : Value} (h : W.rangeAt b 0 (arr11 V).toList) (e : V 6 = x) : W.cell? ⟨b, 6, none⟩ = some x := by
 rw [← e]
 exact range_cell h rfl
theorem cell7 {W : World} {b : Nat} {V : Nat → Value} {x : Value} (h : W.rangeAt b 0 (arr11 V).toList) (e : V 7 = x) : W.cell? ⟨b, 7, none⟩ = some x := by
 rw [← e]
 exact range_cell h rfl
theorem cell8 {W : World} {b : Nat} {V : Nat → Value} {x : Value} (h : W.rangeAt b 0 (arr11 V).toList) (e : V 8 = x) : W.cell? ⟨b, 8, none⟩ = some x := by
 rw [← e]
 exact range_cell h rfl
theorem mayFine (w : World) : Calls Tryz.prog 101 #[] w fun e w' => e = .returned (.agg #[.int .i64 0, .int .i64 (-1)]) ∧ Below w.heap.size w w' := by
 go_enter Tryz.func101, Tryz.ntmps101
 go_wp2
 refine bodyPost_ret (v := .agg #[.int .i64 0, .int .i64 (-1)]) (by simp [results, Tryz.results101, go_sem]) rfl ⟨rfl, ?_⟩
 exact bal (Below.refl _ _) _
theorem rp_any {p : PW} {t core : Int} : rpB p t core (-1) = rdB p t core := by
 unfold rpB
 rw [decide_eq_true (by decide), Bool.true_or, Bool.and_true]
theorem lfB_of {p : PW} (a1 : ¬ (p.kinds.length : Int) < 1) (a2 : ¬ (24 : Int) < p.kinds.length) (b1 : ¬ (p.cores.length : Int) < 1) (b2 : ¬ (4 : Int) < p.cores.length) (c1 : ¬ (p.doms.length : Int) < 1) (c2 : ¬ (8 : Int) < p.doms.length) (d0 : (p.ram.length : Int) = (p.kinds.length : Int) * 16) (d2 : (p.slots.length : Int) = (p.kinds.length : Int) * 16) (d3 : (p.tasks.length : Int) = p.kinds.length) (d4 : (p.lines.length : Int) = p.kinds.length) (d5 : (p.bits.length : Int) = p.kinds.length) (d7 : (p.ready.length : Int) = (p.cores.length : Int) * 4) (d8 : (p.tlbs.length : Int) = p.cores.length) : lfB p = true := by
 unfold lfB
 simp only [Bool.and_eq_true, decide_eq_true_eq, beq_iff_eq]
 omega
end Go.Proofs.YtoebmjgkfkfhjaaGreatDoor.Wd
