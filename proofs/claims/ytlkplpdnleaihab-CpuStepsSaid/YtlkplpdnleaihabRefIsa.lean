/- The document's answers on instructions (keyholdref.Has, InsMay, CodeOf, InsOf), walked. -/
import Derived.Test.YtlkplpdnleaihabIsaPlain
import Derived.Test.YtlkplpdnleaihabMem
import Derived.Test.YtlkplpdnleaihabChecked
import Derived.Deep.RegionWith
namespace Go.Proofs.Ytlkplpdnleaihab.Isa
open Go.RowKit Go.Proofs.Ytlkplpdnleaihab.Mem

theorem far_any (v most : Int) (w : World) :
    Calls Try.prog 22 #[.int .i64 v, .int .i64 most] w fun e w' => e = .returned (.bool (decide (v < 0 ∨ most < v))) ∧ w = w' := by
  go_enter Try.func22, Try.ntmps22
  go_wp2
  all_goals
    go_ret
    exact ⟨ret_bool (by first | rfl | simp | (rw [Bool.eq_iff_iff]; simp; omega)), rfl⟩
set_option maxHeartbeats 1000000 in
theorem has_any (o : Int) (w : World) :
    Calls Try.prog 26 #[.int .i64 o] w fun e w' => e = .returned (.tuple #[.bool (IP.hA o), .bool (IP.hB o), .bool (IP.hC o)]) ∧ w = w' := by
  by_cases h0 : o = 0
  · subst h0
    go_enter Try.func26, Try.ntmps26
    go_wp2
    go_ret3
    exact ⟨rfl, rfl⟩
  by_cases h1 : o = 1
  · subst h1
    go_enter Try.func26, Try.ntmps26
    go_wp2
    go_ret3
    exact ⟨rfl, rfl⟩
  by_cases h13 : o = 13
  · subst h13
    go_enter Try.func26, Try.ntmps26
    go_wp2
    go_ret3
    exact ⟨rfl, rfl⟩
  by_cases h10 : o = 10
  · subst h10
    go_enter Try.func26, Try.ntmps26
    go_wp2
    go_ret3
    exact ⟨rfl, rfl⟩
  by_cases h11 : o = 11
  · subst h11
    go_enter Try.func26, Try.ntmps26
    go_wp2
    go_ret3
    exact ⟨rfl, rfl⟩
  by_cases h12 : o = 12
  · subst h12
    go_enter Try.func26, Try.ntmps26
    go_wp2
    go_ret3
    exact ⟨rfl, rfl⟩
  by_cases h14 : o = 14
  · subst h14
    go_enter Try.func26, Try.ntmps26
    go_wp2
    go_ret3
    exact ⟨rfl, rfl⟩
  have e0 : (o == 0) = false := beq_eq_false_iff_ne.2 h0
  have e1 : (o == 1) = false := beq_eq_false_iff_ne.2 h1
  have e13 : (o == 13) = false := beq_eq_false_iff_ne.2 h13
  have e10 : (o == 10) = false := beq_eq_false_iff_ne.2 h10
  have e11 : (o == 11) = false := beq_eq_false_iff_ne.2 h11
  have e12 : (o == 12) = false := beq_eq_false_iff_ne.2 h12
  have e14 : (o == 14) = false := beq_eq_false_iff_ne.2 h14
  rw [show IP.hA o = true from by simp [IP.hA]; omega, show IP.hB o = true from by simp [IP.hB]; omega, show IP.hC o = false from by simp [IP.hC]; omega]
  clear h0 h1 h13 h10 h11 h12 h14
  go_enter Try.func26, Try.ntmps26
  go_wp2
  go_ret3
  exact ⟨rfl, rfl⟩
set_option maxHeartbeats 2000000 in
theorem insMay_any (o a b i : Int) (w : World) :
    Calls Try.prog 23 #[.agg #[.int .i64 o, .int .i64 a, .int .i64 b, .int .i64 i]] w
      fun e w' => e = .returned (.int .i64 (IP.may o a b i)) ∧ Below w.heap.size w w' := by
  go_enter Try.func23, Try.ntmps23
  go_wp2_with (first | (go_at_call 22; refine (far_any _ _ _).mono ?_; rintro e w' ⟨rfl, rfl⟩) | (go_at_call 26; refine (has_any _ _).mono ?_; rintro e w' ⟨rfl, rfl⟩))
  all_goals
    go_ret
    refine ⟨ret_int ?_, bal (Below.refl _ _) _⟩
    rw [IP.may_plain]
    simp at *
    (repeat' split) <;> simp_all <;> omega
end Go.Proofs.Ytlkplpdnleaihab.Isa
