/- Numbers without one: keyholdref.without, walked. · A task is still, by the document: keyholdref.Stopped, walked. (Written by mk_stop.py.) · A task is still: deed.Stop, walked. (Written by mk_lvstop.py.) · A task may run, by the document: keyholdref.Woken, walked. (Written by mk_woken.py.) -/
import Derived.Test.YtoebmjgkfkfhjaaGreatDoorGLv
namespace Go.Proofs.YtoebmjgkfkfhjaaGreatDoor.Wd
open Go.RowKit Go.Proofs.YtoebmjgkfkfhjaaGreatDoor.Mem Go.Proofs.YtoebmjgkfkfhjaaGreatDoor.Bw Go.Proofs.YtoebmjgkfkfhjaaGreatDoor.Nums Go.Proofs.YtoebmjgkfkfhjaaGreatDoor.Mmu
theorem set_getD {α : Type} (l : List α) (t : Nat) (d x : α) (ht : t < l.length) : (l.set t x).getD t d = x := by
 rw [List.getD_eq_getElem?_getD, List.getElem?_set_self ht]
 rfl
theorem upd_comm (f : Nat → Int) (i j : Nat) (x y : Int) (h : i ≠ j) : upd (upd f i x) j y = upd (upd f j y) i x := by
 funext k
 unfold upd
 by_cases h1 : k = j
 ·rw [if_pos h1, if_neg (fun e => h (e.symm.trans h1)), if_pos h1]
 ·rw [if_neg h1]
  by_cases h2 : k = i
  ·rw [if_pos h2, if_pos h2]
  ·rw [if_neg h2, if_neg h2, if_neg h1]
end Go.Proofs.YtoebmjgkfkfhjaaGreatDoor.Wd
