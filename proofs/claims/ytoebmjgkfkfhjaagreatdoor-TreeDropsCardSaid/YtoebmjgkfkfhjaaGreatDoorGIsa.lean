/- Plain facts on instructions: which may be, and their two words. · The document's answers on instructions (keyholdref.Has, InsMay, CodeOf, InsOf), walked. -/
import Derived.Test.YtoebmjgkfkfhjaaGreatDoorGBase
import Derived.Test.YtoebmjgkfkfhjaaGreatDoorChecked
import Derived.Deep.RegionWith
namespace Go.Proofs.YtoebmjgkfkfhjaaGreatDoor
namespace IP
def hA (o : Int) : Bool := !decide (o = 0 ∨ o = 12 ∨ o = 14)
def hB (o : Int) : Bool := !decide (o = 0 ∨ o = 1 ∨ o = 13 ∨ o = 12 ∨ o = 14)
def hC (o : Int) : Bool := decide (o = 1 ∨ o = 13 ∨ o = 10 ∨ o = 11 ∨ o = 12 ∨ o = 14)
def fitB (v : Int) (has : Bool) (lo hi : Int) : Bool := if has = true then decide (lo ≤ v ∧ v ≤ hi) else decide (v = 0)
def may (o a b i : Int) : Int :=
 if o < 0 ∨ 14 < o then 1
 else if fitB a (hA o) 0 7 = true ∧ fitB b (hB o) 0 7 = true ∧ fitB i (hC o) (-32768) 32767 = true then 0 else 2
def c0 (o a b : Int) : Int := o * 256 + a * 16 + b
def c1 (i : Int) : Int := if i < 0 then i + 65536 else i
def word (x y : Int) : Prop := 0 ≤ x ∧ x ≤ 65535 ∧ 0 ≤ y ∧ y ≤ 65535
end IP
end Go.Proofs.YtoebmjgkfkfhjaaGreatDoor
namespace Go.Proofs.YtoebmjgkfkfhjaaGreatDoor.Isa
open Go.RowKit Go.Proofs.YtoebmjgkfkfhjaaGreatDoor.Mem
theorem far_any (v most : Int) (w : World) :
  Calls Tryz.prog 36 #[.int .i64 v, .int .i64 most] w fun e w' => e = .returned (.bool (decide (v < 0 ∨ most < v))) ∧ w = w' := by
 go_enter Tryz.func36, Tryz.ntmps36
 go_wp2
 all_goals
  go_ret
  exact ⟨ret_bool (by first | rfl | simp | (rw [Bool.eq_iff_iff]; simp; omega)), rfl⟩
end Go.Proofs.YtoebmjgkfkfhjaaGreatDoor.Isa
