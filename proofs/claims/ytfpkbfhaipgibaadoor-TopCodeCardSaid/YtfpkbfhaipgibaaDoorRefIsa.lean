/- The document's answers on instructions (keyholdref.Has, InsMay, CodeOf, InsOf), walked. -/
import Derived.Test.YtfpkbfhaipgibaaDoorIsaPlain
import Derived.Test.YtfpkbfhaipgibaaDoorMem
import Derived.Test.YtfpkbfhaipgibaaDoorChecked
import Derived.Deep.RegionWith
namespace Go.Proofs.YtfpkbfhaipgibaaDoor.Isa
open Go.RowKit Go.Proofs.YtfpkbfhaipgibaaDoor.Mem

theorem far_any (v most : Int) (w : World) :
    Calls Tryd.prog 26 #[.int .i64 v, .int .i64 most] w fun e w' => e = .returned (.bool (decide (v < 0 ∨ most < v))) ∧ w = w' := by
  go_enter Tryd.func26, Tryd.ntmps26
  go_wp2
  all_goals
    go_ret
    exact ⟨ret_bool (by first | rfl | simp | (rw [Bool.eq_iff_iff]; simp; omega)), rfl⟩
set_option maxHeartbeats 1000000 in
theorem has_any (o : Int) (w : World) :
    Calls Tryd.prog 73 #[.int .i64 o] w fun e w' => e = .returned (.tuple #[.bool (IP.hA o), .bool (IP.hB o), .bool (IP.hC o)]) ∧ w = w' := by
  by_cases h0 : o = 0
  · subst h0
    go_enter Tryd.func73, Tryd.ntmps73
    go_wp2
    go_ret3
    exact ⟨rfl, rfl⟩
  by_cases h1 : o = 1
  · subst h1
    go_enter Tryd.func73, Tryd.ntmps73
    go_wp2
    go_ret3
    exact ⟨rfl, rfl⟩
  by_cases h13 : o = 13
  · subst h13
    go_enter Tryd.func73, Tryd.ntmps73
    go_wp2
    go_ret3
    exact ⟨rfl, rfl⟩
  by_cases h10 : o = 10
  · subst h10
    go_enter Tryd.func73, Tryd.ntmps73
    go_wp2
    go_ret3
    exact ⟨rfl, rfl⟩
  by_cases h11 : o = 11
  · subst h11
    go_enter Tryd.func73, Tryd.ntmps73
    go_wp2
    go_ret3
    exact ⟨rfl, rfl⟩
  by_cases h12 : o = 12
  · subst h12
    go_enter Tryd.func73, Tryd.ntmps73
    go_wp2
    go_ret3
    exact ⟨rfl, rfl⟩
  by_cases h14 : o = 14
  · subst h14
    go_enter Tryd.func73, Tryd.ntmps73
    go_wp2
    go_ret3
    exact ⟨rfl, rfl⟩
  have e0 : (o == 0) = false := beq_eq_false_iff_ne.2 h0
  have e1 : (o == 1) = false := beq_eq_false_iff_ne.2 h1
  have e13 : (o == 13) = false := beq_eq_false_iff_ne.2 h13
  have e10 : (o == 10) = false := beq_eq_false_iff_ne.2 h10
  have e11 : (o == 11) = false := beq_eq_false_iff_ne.2 h11
  have e12 : (o == 12) = false := beq_eq_false_iff_ne.2 h12
  have e14 : (o == 14) = false := beq_eq_false_iff_ne.2 h14
  rw [show IP.hA o = true from by simp [IP.hA]; omega, show IP.hB o = true from by simp [IP.hB]; omega, show IP.hC o = false from by simp [IP.hC]; omega]
  clear h0 h1 h13 h10 h11 h12 h14
  go_enter Tryd.func73, Tryd.ntmps73
  go_wp2
  go_ret3
  exact ⟨rfl, rfl⟩
end Go.Proofs.YtfpkbfhaipgibaaDoor.Isa
