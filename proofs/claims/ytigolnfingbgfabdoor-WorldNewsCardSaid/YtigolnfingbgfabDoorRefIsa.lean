/- The document's answers on instructions (keyholdref.Has, InsMay, CodeOf, InsOf), walked. -/
import Derived.Test.YtigolnfingbgfabDoorIsaPlain
import Derived.Test.YtigolnfingbgfabDoorMem
import Derived.Test.YtigolnfingbgfabDoorChecked
import Derived.Deep.RegionWith
namespace Go.Proofs.YtigolnfingbgfabDoor.Isa
open Go.RowKit Go.Proofs.YtigolnfingbgfabDoor.Mem

theorem far_any (v most : Int) (w : World) :
    Calls Tryd.prog 22 #[.int .i64 v, .int .i64 most] w fun e w' => e = .returned (.bool (decide (v < 0 ∨ most < v))) ∧ w = w' := by
  go_enter Tryd.func22, Tryd.ntmps22
  go_wp2
  all_goals
    go_ret
    exact ⟨ret_bool (by first | rfl | simp | (rw [Bool.eq_iff_iff]; simp; omega)), rfl⟩
end Go.Proofs.YtigolnfingbgfabDoor.Isa
