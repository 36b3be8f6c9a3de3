/- keyholdlaw.Names, walked. -/
import Derived.Test.YtemlobepnfpalaaDoorTell
namespace Go.Proofs.YtemlobepnfpalaaDoor
open Go.RowKit

set_option maxHeartbeats 400000 in
theorem names_any (w : World) (hg : ETok w) :
    Calls Tryd.prog 3 #[] w fun e w' => e = .returned (.bool true) ∧ Below w.heap.size w w' := by
  have HG : Hid (ETok w) := hg
  clear hg
  go_enter Tryd.func3, Tryd.ntmps3
  go_wp2_with fail
  refine (tell_fault 9 7 w.heap.size 0 _ (HG.out.alloc _) (World.cell?_alloc_at _ _ _ _ rfl) (World.cell?_alloc_at _ _ _ _ rfl)).mono ?_
  rintro e w1 ⟨rfl, hb1⟩
  go_wp2_with fail
  refine (tell_nil _).mono ?_
  rintro e w2 ⟨rfl, hb2⟩
  go_wp2_with fail
  go_ret
  exact ⟨rfl, btr (btr (bal (Below.refl _ _) _) hb1) hb2⟩
end Go.Proofs.YtemlobepnfpalaaDoor
