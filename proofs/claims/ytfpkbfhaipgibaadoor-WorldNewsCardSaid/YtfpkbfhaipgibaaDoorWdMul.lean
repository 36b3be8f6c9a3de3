/- math/bits.Mul of one and a small number, walked. -/
import Derived.Test.YtfpkbfhaipgibaaDoorWd0
namespace Go.Proofs.YtfpkbfhaipgibaaDoor.Wd
open Go.RowKit Go.Proofs.YtfpkbfhaipgibaaDoor.Mem Go.Proofs.YtfpkbfhaipgibaaDoor.Bw Go.Proofs.YtfpkbfhaipgibaaDoor.Nums Go.Proofs.YtfpkbfhaipgibaaDoor.Mmu

theorem wraps_u64 (n : Int) (h₀ : 0 ≤ n) (h₁ : n < 2 ^ 62) : IntKind.u64.wrap n = n := by
  have : (2 : Int) ^ 62 = 4611686018427387904 := by decide
  rw [IntKind.wrap_u64]
  omega
theorem and_u32 (n : Nat) (h : n ≤ 1000) : bits .and .u64 (n : Int) 4294967295 = n := by
  have := (bits_nat .u64 62 (by decide) wraps_u64 n 4294967295 (by omega) (by decide)).1
  rw [show ((4294967295 : Nat) : Int) = 4294967295 from rfl] at this
  rw [this, show (4294967295 : Nat) = 2 ^ 32 - 1 from rfl, Nat.and_two_pow_sub_one_eq_mod, Nat.mod_eq_of_lt (by omega)]
set_option maxHeartbeats 1000000 in
theorem mul64_one (n : Nat) (w : World) (hn : n ≤ 1000) :
    Calls Tryd.prog 108 #[.int .u64 1, .int .u64 n] w fun e w' => e = .returned (.tuple #[.int .u64 0, .int .u64 n]) ∧ w = w' := by
  have h0 : (n : Int) ≤ 1000 := by omega
  have h1 : (0 : Int) ≤ n := by omega
  have m1 : bits .and .u64 1 4294967295 = 1 := and_u32 1 (by decide)
  have m0 : bits .and .u64 0 4294967295 = 0 := and_u32 0 (by decide)
  have m2 := and_u32 n hn
  have w1 := wraps_u64 n h1 (by omega)
  have w0 : IntKind.u64.wrap 0 = 0 := wraps_u64 0 (by decide) (by decide)
  have d0 : (n : Int) / 4294967296 = 0 := by omega
  go_enter Tryd.func108, Tryd.ntmps108
  go_wp2_with fail
  go_ret2
  exact ⟨rfl, rfl⟩
set_option maxHeartbeats 1000000 in
theorem mul_one (n : Nat) (w : World) (hn : n ≤ 1000) :
    Calls Tryd.prog 88 #[.int .u64 1, .int .u64 n] w fun e w' => e = .returned (.tuple #[.int .u64 0, .int .u64 n]) ∧ w = w' := by
  go_enter Tryd.func88, Tryd.ntmps88
  go_wp2_with fail
  refine (mul64_one n w hn).mono ?_
  rintro e w1 ⟨rfl, rfl⟩
  go_wp2_with fail
  go_ret2
  exact ⟨rfl, rfl⟩
end Go.Proofs.YtfpkbfhaipgibaaDoor.Wd
