/- cpu.wrap, cpu.combine and the two deferred closures of cpu, walked. -/
import Derived.Test.YtlkplpdnleaihagBitsPlain
import Derived.Test.YtlkplpdnleaihagMem
import Derived.Test.YtlkplpdnleaihagChecked
import Derived.WalkKit
import Derived.WalkSpells
import Derived.WalkLawsBesides
import Derived.Defers
import Derived.Recover
namespace Go.Proofs.Ytlkplpdnleaihag.Cpu
open Go.RowKit Go.Proofs.Ytlkplpdnleaihag.Mem Go.Proofs.Ytlkplpdnleaihag.Bw

theorem wrap_any (v : Int) (w : World) :
    Calls Try.prog 15 #[.int .i64 v] w fun e w' => e = .returned (.int .i64 (v % 65536)) ∧ w = w' := by
  have h := mask16 v
  go_enter Try.func15, Try.ntmps15
  go_wp2_with fail
  go_ret
  exact ⟨rfl, rfl⟩
/-- What comes of two registers. -/
def comb (o a b : Int) : Int :=
  if o = 3 then a + b else if o = 4 then a - b else if o = 5 then a * b
  else if o = 6 ∨ o = 7 ∨ o = 8 then (bw o a.toNat b.toNat : Nat)
  else if o = 9 then (if a < b then 1 else 0) else b
theorem combine_any (o a b : Int) (w : World) (a0 : 0 ≤ a) (a1 : a < 65536) (b0 : 0 ≤ b) (b1 : b < 65536) :
    Calls Try.prog 36 #[.int .i64 o, .int .i64 a, .int .i64 b] w fun e w' => e = .returned (.int .i64 (comb o a b)) ∧ w = w' := by
  obtain ⟨x, rfl⟩ := Int.eq_ofNat_of_zero_le a0
  obtain ⟨y, rfl⟩ := Int.eq_ofNat_of_zero_le b0
  have hx : x < 65536 := by omega
  have hy : y < 65536 := by omega
  have hm : (x : Int) * (y : Int) < 4294967296 := by
    have : x * y < 65536 * 65536 := Nat.mul_lt_mul'' hx hy
    have h2 : ((x * y : Nat) : Int) < ((65536 * 65536 : Nat) : Int) := Int.ofNat_lt.2 this
    rw [Int.natCast_mul] at h2
    omega
  have hm0 : (0 : Int) ≤ (x : Int) * (y : Int) := by rw [← Int.natCast_mul]; omega
  have e6 := and_nat x y hx hy
  have e7 := or_nat x y hx hy
  have e8 := xor_nat x y hx hy
  have HV : Hid (∀ r, r = comb o x y → r = comb o x y) := fun _ h => h
  by_cases h3 : o = 3
  · subst h3
    go_enter Try.func36, Try.ntmps36
    go_wp2_with fail
    go_ret
    exact ⟨ret_int (by unfold comb; simp), rfl⟩
  by_cases h4 : o = 4
  · subst h4
    go_enter Try.func36, Try.ntmps36
    go_wp2_with fail
    go_ret
    exact ⟨ret_int (by unfold comb; simp), rfl⟩
  by_cases h5 : o = 5
  · subst h5
    go_enter Try.func36, Try.ntmps36
    go_wp2_with fail
    go_ret
    exact ⟨ret_int (by unfold comb; simp), rfl⟩
  by_cases h6 : o = 6
  · subst h6
    go_enter Try.func36, Try.ntmps36
    go_wp2_with fail
    go_ret
    exact ⟨ret_int (by unfold comb bw; simp), rfl⟩
  by_cases h7 : o = 7
  · subst h7
    go_enter Try.func36, Try.ntmps36
    go_wp2_with fail
    go_ret
    exact ⟨ret_int (by unfold comb bw; simp), rfl⟩
  by_cases h8 : o = 8
  · subst h8
    go_enter Try.func36, Try.ntmps36
    go_wp2_with fail
    go_ret
    exact ⟨ret_int (by unfold comb bw; simp), rfl⟩
  by_cases h9 : o = 9
  · subst h9
    by_cases hlt : (x : Int) < (y : Int)
    · go_enter Try.func36, Try.ntmps36
      go_wp2_with fail
      go_ret
      exact ⟨ret_int (by unfold comb; simp at hlt; simp [hlt]), rfl⟩
    · go_enter Try.func36, Try.ntmps36
      go_wp2_with fail
      go_ret
      exact ⟨ret_int (by unfold comb; simp at hlt; simp [hlt]), rfl⟩
  have g3 : (o == 3) = false := beq_eq_false_iff_ne.2 h3
  have g4 : (o == 4) = false := beq_eq_false_iff_ne.2 h4
  have g5 : (o == 5) = false := beq_eq_false_iff_ne.2 h5
  have g6 : (o == 6) = false := beq_eq_false_iff_ne.2 h6
  have g7 : (o == 7) = false := beq_eq_false_iff_ne.2 h7
  have g8 : (o == 8) = false := beq_eq_false_iff_ne.2 h8
  have g9 : (o == 9) = false := beq_eq_false_iff_ne.2 h9
  go_enter Try.func36, Try.ntmps36
  go_wp2_with fail
  go_ret
  exact ⟨ret_int (by unfold comb; simp [h3, h4, h5, h6, h7, h8, h9]), rfl⟩
theorem load_idle (p q : Addr) (w : World) :
    CallsD Try.prog 33 #[.pointer (some p), .pointer (some q)] .returning w fun e u' w' => e = .returned (.tuple #[]) ∧ u' = .returning ∧ w' = w := by
  refine callsD_of_wpS Try.func33 rfl fun c₀ cs hu => ?_
  apply wpS_seq
  apply wpS_region
  simp [wpOpsS, go_sem, recoverD, hu, Try.ntmps33, Exit.thenS]
  refine wpS_cond (t := false) (by simp [Act.eval, Array.replicate]) ?_
  simp only [Bool.false_eq_true, if_false]
  refine wpS_of_wp (wp_skip ?_)
  cases c₀
  simp_all [bodyPostS, results, Try.results33]
theorem store_idle (p : Addr) (w : World) :
    CallsD Try.prog 38 #[.pointer (some p)] .returning w fun e u' w' => e = .returned (.tuple #[]) ∧ u' = .returning ∧ w' = w := by
  refine callsD_of_wpS Try.func38 rfl fun c₀ cs hu => ?_
  apply wpS_seq
  apply wpS_region
  simp [wpOpsS, go_sem, recoverD, hu, Try.ntmps38, Exit.thenS]
  refine wpS_cond (t := false) (by simp [Act.eval, Array.replicate]) ?_
  simp only [Bool.false_eq_true, if_false]
  refine wpS_of_wp (wp_skip ?_)
  cases c₀
  simp_all [bodyPostS, results, Try.results38]
end Go.Proofs.Ytlkplpdnleaihag.Cpu
