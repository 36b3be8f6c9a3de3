/- keyholdref.bitwise, walked. -/
import Derived.Test.YtoebmjgkfkfhjaaGreatDoorBitsPlain
import Derived.Test.YtoebmjgkfkfhjaaGreatDoorGBase
import Derived.Test.YtoebmjgkfkfhjaaGreatDoorChecked
namespace Go.Proofs.YtoebmjgkfkfhjaaGreatDoor.Cpu
open Go.RowKit Go.Proofs.YtoebmjgkfkfhjaaGreatDoor.Mem Go.Proofs.YtoebmjgkfkfhjaaGreatDoor.Bw
set_option maxHeartbeats 4000000 in
theorem bitwise_any (o : Int) (ho : o = 6 ∨ o = 7 ∨ o = 8) (a b : Nat) (ha : a < 65536) (hb : b < 65536) (w : World) :
  Calls Tryz.prog 37 #[.int .i64 a, .int .i64 b, .int .i64 o] w fun e w' => e = .returned (.int .i64 (bw o a b : Nat)) ∧ w = w' := by
 have HL := hid (bw_lt o a b ha hb)
 have HS := hid (fun k => bw_step o a b k ho)
 have HO := hid ho
 clear ho
 go_enter Tryz.func37, Tryz.ntmps37
 go_wp2_with fail
 go_loopw [7, 8] (fun x d wr => ∃ k D u : Nat, k ≤ 16 ∧ d = .int .i64 D ∧ x = .int .i64 u ∧ Hid (D = 2 ^ k ∧ u = bw o a b % 2 ^ k) ∧ wr = w) (fun _ d _ => 65536 * 2 - (intOf d).toNat)
 case atStart => exact ⟨0, 1, 0, by omega, rfl, rfl, ⟨rfl, by simp [Nat.mod_one]⟩, rfl⟩
 case round =>
  obtain ⟨k, D, u, hk, rfl, rfl, hE, rfl⟩ := hrel
  have hD0 : 0 < D := by rw [hE.out.1]; exact Nat.two_pow_pos k
  have hDn : (D : Int) ≠ 0 := by omega
  have hu : u < 65536 := by rw [hE.out.2]; exact Nat.lt_of_le_of_lt (Nat.mod_le _ _) HL.out
  by_cases hlt : k < 16
  ·have hDlt : D ≤ 32768 := by
    rw [hE.out.1]
    exact Nat.le_trans (Nat.pow_le_pow_right (by decide) (by omega : k ≤ 15)) (by decide)
   have hD1 : (D : Int) < 65536 := by omega
   have qa : (a : Int).tdiv (D : Int) = ((a / D : Nat) : Int) := by rw [Int.tdiv_eq_ediv_of_nonneg (by omega)]; simp
   have qb : (b : Int).tdiv (D : Int) = ((b / D : Nat) : Int) := by rw [Int.tdiv_eq_ediv_of_nonneg (by omega)]; simp
   have la : a / D < 65536 := Nat.lt_of_le_of_lt (Nat.div_le_self _ _) ha
   have lb : b / D < 65536 := Nat.lt_of_le_of_lt (Nat.div_le_self _ _) hb
   have HH := hid (show hit o a b k = decide (o = 6 ∧ a / D % 2 + b / D % 2 = 2 ∨ o = 7 ∧ 0 < a / D % 2 + b / D % 2 ∨ o = 8 ∧ a / D % 2 + b / D % 2 = 1) by unfold hit bt; rw [hE.out.1])
   generalize a / D = x at *
   generalize b / D = y at *
   have hx2 : x % 2 < 2 := Nat.mod_lt _ (by decide)
   have hy2 : y % 2 < 2 := Nat.mod_lt _ (by decide)
   cases hh : hit o a b k with
   | true =>
    have HN := hid (show D * 2 = 2 ^ (k + 1) ∧ u + D = bw o a b % 2 ^ (k + 1) from ⟨by rw [hE.out.1, Nat.pow_succ], by rw [HS.out k, hh, if_pos rfl, hE.out.2, hE.out.1]⟩)
    have hc := HH.out
    rw [hh] at hc
    have hc2 := (decide_eq_true_iff.1 hc.symm)
    clear hh hc
    rcases HO.out with rfl | rfl | rfl
    ·have e1 : ((x : Int) % 2 + (y : Int) % 2 == 2) = true := beq_iff_eq.2 (by omega)
     clear hc2
     go_wp2_with fail
     exact ⟨⟨k + 1, D * 2, u + D, by omega, by go_num, by go_num, HN.out, trivial⟩, by simp [intOf]; omega⟩
    ·have e1 : (0 : Int) < (x : Int) % 2 + (y : Int) % 2 := by omega
     clear hc2
     go_wp2_with fail
     exact ⟨⟨k + 1, D * 2, u + D, by omega, by go_num, by go_num, HN.out, trivial⟩, by simp [intOf]; omega⟩
    ·have e1 : ((x : Int) % 2 + (y : Int) % 2 == 1) = true := beq_iff_eq.2 (by omega)
     clear hc2
     go_wp2_with fail
     exact ⟨⟨k + 1, D * 2, u + D, by omega, by go_num, by go_num, HN.out, trivial⟩, by simp [intOf]; omega⟩
   | false =>
    have HN := hid (show D * 2 = 2 ^ (k + 1) ∧ u = bw o a b % 2 ^ (k + 1) from ⟨by rw [hE.out.1, Nat.pow_succ], by rw [HS.out k, hh, if_neg (by decide), hE.out.2, Nat.add_zero]⟩)
    have hc := HH.out
    rw [hh] at hc
    have hc2 := (decide_eq_false_iff_not.1 hc.symm)
    clear hh hc
    rcases HO.out with rfl | rfl | rfl
    ·have e1 : ((x : Int) % 2 + (y : Int) % 2 == 2) = false := beq_eq_false_iff_ne.2 (by omega)
     clear hc2
     go_wp2_with fail
     exact ⟨⟨k + 1, D * 2, u, by omega, by go_num, rfl, HN.out, trivial⟩, by simp [intOf]; omega⟩
    ·have e1 : ¬ ((0 : Int) < (x : Int) % 2 + (y : Int) % 2) := by omega
     clear hc2
     go_wp2_with fail
     exact ⟨⟨k + 1, D * 2, u, by omega, by go_num, rfl, HN.out, trivial⟩, by simp [intOf]; omega⟩
    ·have e1 : ((x : Int) % 2 + (y : Int) % 2 == 1) = false := beq_eq_false_iff_ne.2 (by omega)
     clear hc2
     go_wp2_with fail
     exact ⟨⟨k + 1, D * 2, u, by omega, by go_num, rfl, HN.out, trivial⟩, by simp [intOf]; omega⟩
  ·obtain rfl : k = 16 := by omega
   have hD : D = 65536 := hE.out.1
   have hge : ¬ ((D : Int) < 65536) := by omega
   have HU := hid (show u = bw o a b by rw [hE.out.2]; exact Nat.mod_eq_of_lt HL.out)
   clear hD
   go_wp2_with fail
   go_ret
   exact ⟨ret_int (by show ((u : Nat) : Int) = _; rw [HU.out]), rfl⟩
theorem bitwise_int (o : Int) (ho : o = 6 ∨ o = 7 ∨ o = 8) (a b : Int) (w : World) (a0 : 0 ≤ a) (a1 : a < 65536) (b0 : 0 ≤ b) (b1 : b < 65536) :
  Calls Tryz.prog 37 #[.int .i64 a, .int .i64 b, .int .i64 o] w fun e w' => e = .returned (.int .i64 (bw o a.toNat b.toNat : Nat)) ∧ w = w' := by
 have c := bitwise_any o ho a.toNat b.toNat (by omega) (by omega) w
 rw [show ((a.toNat : Nat) : Int) = a by omega, show ((b.toNat : Nat) : Int) = b by omega] at c
 exact c
end Go.Proofs.YtoebmjgkfkfhjaaGreatDoor.Cpu
