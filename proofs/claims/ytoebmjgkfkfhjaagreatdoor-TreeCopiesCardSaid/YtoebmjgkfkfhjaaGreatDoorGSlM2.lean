/- The rest of GSlMore: what few laws reach. -/
import Derived.Test.YtoebmjgkfkfhjaaGreatDoorGSlMore
namespace Go.Proofs.YtoebmjgkfkfhjaaGreatDoor.Wd
open Go.RowKit Go.Proofs.YtoebmjgkfkfhjaaGreatDoor.Mem Go.Proofs.YtoebmjgkfkfhjaaGreatDoor.Bw Go.Proofs.YtoebmjgkfkfhjaaGreatDoor.Nums Go.Proofs.YtoebmjgkfkfhjaaGreatDoor.Mmu
theorem chk_not {w : World} {x : Value} {p : PW} (h : ChkV w x (wmA p)) (hs : sndB p = false) : ∃ t v, x = .iface t v := by
 unfold sndB at hs
 generalize wmA p = r at h hs
 rcases h with ⟨rfl, rfl⟩ | ⟨e, he, rfl, rfl⟩ | ⟨e, k, b, he, h0, h1, rfl, rfl⟩
 ·simp at hs
 ·exact ⟨_, _, rfl⟩
 ·exact ⟨_, _, rfl⟩
theorem snd_key {p : PW} (h : Snd p) {k : Nat} (hk : k < p.slots.length) (h0 : p.slots[k] 0 ≠ 0) : 0 ≤ p.slots[k] 1 ∧ 1 ≤ p.slots[k] 2 ∧ p.slots[k] 1 + p.slots[k] 2 ≤ (p.kinds.length : Int) ∧ 0 ≤ p.slots[k] 4 ∧ p.slots[k] 4 ≤ 7 := by
 have ho := snd_op h hk h0
 generalize p.slots[k] = s at h0 ho ⊢
 unfold opB at ho
 simp only [Bool.and_eq_true, beq_iff_eq, decide_eq_true_eq] at ho
 obtain ⟨b0, b1, l0, l1, r0, r1⟩ := key_bounds ho.1.1 h0
 exact ⟨b0, l0, ho.1.2, r0, r1⟩
theorem sAt_in {p : PW} (h : Snd p) {n a : Int} (h0 : (sAt p n a).2 = 0) : 0 ≤ (sAt p n a).1 ∧ (sAt p n a).1 < (p.slots.length : Int) := by
 unfold sAt at h0 ⊢
 have hl := h.lf.slots
 cases hi : isB p n 5 with
 | false => rw [hi] at h0; simp at h0
 | true =>
  obtain ⟨j, rfl, hj⟩ := isB_in hi
  rw [hi] at h0
  rw [if_pos rfl] at h0 ⊢
  cases hw : within 0 255 a with
  | false => rw [hw] at h0; simp at h0
  | true =>
   have hb := of_decide_eq_true hw
   rw [hw] at h0
   rw [if_pos rfl] at h0 ⊢
   by_cases h16 : a < 16
   ·rw [if_pos h16]
    simp only
    omega
   ·rw [if_neg h16] at h0 ⊢
    have hi2 : ((j : Int) * 16 + a / 16).toNat < p.slots.length := by omega
    rw [List.getD_eq_getElem?_getD, List.getElem?_eq_getElem hi2] at h0 ⊢
    simp only [Option.getD_some] at h0 ⊢
    split at h0
    ·rename_i h5
     rw [if_pos h5]
     have := snd_key h hi2 (by omega)
     simp only
     omega
    ·simp at h0
def kOf (s : Nat → Int) (k r : Int) : (Nat → Int) × Int :=
 if s 0 = 0 then (nkey, 6) else if s 0 = k then (if bits .and .i64 (s 4) r = r then (s, 0) else (nkey, 4)) else (nkey, 3)
def kAt (p : PW) (n a k r : Int) : (Nat → Int) × Int :=
 if (sAt p n a).2 = 0 then kOf (p.slots.getD (sAt p n a).1.toNat nkey) k r else (nkey, (sAt p n a).2)
theorem six_set {W : World} {B : Nat} {v0 v1 v2 v3 v4 v5 x0 x1 x2 x3 x4 x5 : Value} (h : ∀ o, W.cell? ⟨B, o, none⟩ = (#[x0, x1, x2, x3, x4, x5] : Array Value)[o]?) :
  ∀ o, ((((((W.setCell ⟨B, 0, none⟩ v0).setCell ⟨B, 1, none⟩ v1).setCell ⟨B, 2, none⟩ v2).setCell ⟨B, 3, none⟩ v3).setCell ⟨B, 4, none⟩ v4).setCell ⟨B, 5, none⟩ v5).cell? ⟨B, o, none⟩ = (#[v0, v1, v2, v3, v4, v5] : Array Value)[o]? :=
 cells_set (cells_set (cells_set (cells_set (cells_set (cells_set h 0 (by simp) v0) 1 (by simp) v1) 2 (by simp) v2) 3 (by simp) v3) 4 (by simp) v4) 5 (by simp) v5
theorem bset6 {w W : World} {v0 v1 v2 v3 v4 v5 : Value} (h : Below w.heap.size w W) : Below w.heap.size w ((((((W.setCell ⟨w.heap.size, 0, none⟩ v0).setCell ⟨w.heap.size, 1, none⟩ v1).setCell ⟨w.heap.size, 2, none⟩ v2).setCell ⟨w.heap.size, 3, none⟩ v3).setCell ⟨w.heap.size, 4, none⟩ v4).setCell ⟨w.heap.size, 5, none⟩ v5) :=
 bset (bset (bset (bset (bset (bset h (Nat.le_refl _) _) (Nat.le_refl _) _) (Nat.le_refl _) _) (Nat.le_refl _) _) (Nat.le_refl _) _) (Nat.le_refl _) _
/-- 'a &^ b' is nothing where 'b & a' is a. -/
theorem and_not (a b : Int) (h : -9223372036854775808 ≤ a ∧ a ≤ 9223372036854775807) : bits .and .i64 b a = a ↔ bits .andNot .i64 a b = 0 := by
 have hw : ∀ n : Nat, n < 18446744073709551616 → ∀ z : Int, (-9223372036854775808 ≤ z ∧ z ≤ 9223372036854775807) → (IntKind.i64.wrap (n : Int) = z ↔ (n : Int) = z % 18446744073709551616) := fun n hn z hz => by
  rw [IntKind.wrap_i64]
  omega
 have e1 : bits .and .i64 b a = IntKind.i64.wrap ((BitVec.ofInt 64 b &&& BitVec.ofInt 64 a).toNat : Int) := rfl
 have e2 : bits .andNot .i64 a b = IntKind.i64.wrap ((BitVec.ofInt 64 a &&& ~~~ BitVec.ofInt 64 b).toNat : Int) := rfl
 have ha : ((BitVec.ofInt 64 a).toNat : Int) = a % 18446744073709551616 := by
  rw [BitVec.toNat_ofInt]
  omega
 rw [e1, e2, hw _ (BitVec.isLt _) a h, hw _ (BitVec.isLt _) 0 (by decide), ← ha]
 generalize BitVec.ofInt 64 a = A
 generalize BitVec.ofInt 64 b = B
 have k1 : (((B &&& A).toNat : Int) = (A.toNat : Int)) ↔ B &&& A = A := ⟨fun e => BitVec.eq_of_toNat_eq (by omega), fun e => by rw [e]⟩
 have k2 : (((A &&& ~~~ B).toNat : Int) = 0 % 18446744073709551616) ↔ A &&& ~~~ B = 0#64 := ⟨fun e => BitVec.eq_of_toNat_eq (by simpa using e), fun e => by rw [e]; rfl⟩
 rw [k1, k2]
 constructor
 ·intro e
  refine BitVec.eq_of_getLsbD_eq fun i hi => ?_
  have := congrArg (fun x => x.getLsbD i) e
  simp at this ⊢
  intro g
  exact fun _ => this g
 ·intro e
  refine BitVec.eq_of_getLsbD_eq fun i hi => ?_
  have := congrArg (fun x => x.getLsbD i) e
  simp at this ⊢
  intro g
  exact this g hi
def gA (p : PW) (n a k r : Int) : (Nat → Int) × Int := if sndB p then kAt p n a k r else (nkey, 8)
theorem bset6s {w W : World} {v0 v1 v2 v3 v4 v5 : Value} (h : Below w.heap.size w W) : Below w.heap.size w ((((((W.setCell ⟨w.heap.size + 1, 0, none⟩ v0).setCell ⟨w.heap.size + 1, 1, none⟩ v1).setCell ⟨w.heap.size + 1, 2, none⟩ v2).setCell ⟨w.heap.size + 1, 3, none⟩ v3).setCell ⟨w.heap.size + 1, 4, none⟩ v4).setCell ⟨w.heap.size + 1, 5, none⟩ v5) :=
 bset (bset (bset (bset (bset (bset h (Nat.le_succ _) _) (Nat.le_succ _) _) (Nat.le_succ _) _) (Nat.le_succ _) _) (Nat.le_succ _) _) (Nat.le_succ _) _
end Go.Proofs.YtoebmjgkfkfhjaaGreatDoor.Wd
