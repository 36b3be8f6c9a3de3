/- The rest of GSl: what few laws reach. -/
import Derived.Test.YtoebmjgkfkfhjaaGreatDoorGSl
namespace Go.Proofs.YtoebmjgkfkfhjaaGreatDoor.Wd
open Go.RowKit Go.Proofs.YtoebmjgkfkfhjaaGreatDoor.Mem Go.Proofs.YtoebmjgkfkfhjaaGreatDoor.Bw Go.Proofs.YtoebmjgkfkfhjaaGreatDoor.Nums Go.Proofs.YtoebmjgkfkfhjaaGreatDoor.Mmu
theorem snd_op {p : PW} (h : Snd p) {k : Nat} (hk : k < p.slots.length) (h0 : p.slots[k] 0 ≠ 0) : opB p p.slots[k] = true := by
 have h1 : bsB p (p.kinds.getD (k / 16) 0) p.slots[k] = false := h.b3 k hk
 generalize p.slots[k] = s at h0 h1 ⊢
 unfold bsB at h1
 rw [show zkB s = false from decide_eq_false fun hz => h0 hz.1, if_neg (by decide)] at h1
 simp only [Bool.not_eq_false', Bool.and_eq_true] at h1
 exact h1.1.1.2
theorem snd_kb {p : PW} (h : Snd p) : ∀ s ∈ p.slots, KB s := kb_of (g := fun k => p.kinds.getD (k / 16) 0) h.b3
/-- The slot at an address, and the error. -/
def sAt (p : PW) (n a : Int) : Int × Int :=
 if isB p n 5 then (if within 0 255 a then (if a < 16 then (n * 16 + a, 0) else
  if (p.slots.getD (n * 16 + a / 16).toNat (fun _ => 0)) 0 = 5 then ((p.slots.getD (n * 16 + a / 16).toNat (fun _ => 0)) 1 * 16 + a % 16, 0) else (0, 3)) else (0, 2)) else (0, 3)
/-- The key at an address, and the error. -/
def nkey : Nat → Int := fun _ => 0
def fA (p : PW) (n a : Int) : Int × Int := if sndB p then sAt p n a else (0, 8)
end Go.Proofs.YtoebmjgkfkfhjaaGreatDoor.Wd
