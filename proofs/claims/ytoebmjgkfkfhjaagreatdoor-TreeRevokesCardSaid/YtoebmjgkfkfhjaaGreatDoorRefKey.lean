/- The document's answers on keys (keyholdref.Far, KeyMay, Packed, Unpacked, Err), walked. -/
import Derived.Test.YtoebmjgkfkfhjaaGreatDoorGKey
import Derived.Test.YtoebmjgkfkfhjaaGreatDoorGTell
namespace Go.Proofs.YtoebmjgkfkfhjaaGreatDoor
open Go.RowKit
theorem chk_plain (k b l m r g : Int) : KP.chk k b l m r g =
  if k < 0 ∨ 8 < k then 3 else if k = 0 then (if b = 0 ∧ l = 0 ∧ m = 0 ∧ r = 0 ∧ g = 0 then 0 else 2)
  else if ¬ (1 ≤ l ∧ l ≤ 24 ∧ 0 ≤ b ∧ b ≤ 24 - l ∧ (k = 1 → 0 ≤ m ∧ m ≤ l) ∧ (k ≠ 1 → l = 1 ∧ m = 0)) then 2
  else if r < 0 ∨ 7 < r then 4
  else if ¬ (0 ≤ g ∧ g ≤ 65535 ∧ (k ≠ 7 → k ≠ 8 → g = 0)) then 2 else 0 := by
 have h1 := KP.fitsB_iff k b l m
 have h2 := KP.badgeB_iff k g
 unfold KP.chk
 simp only [← h1, ← h2, Bool.not_eq_true]
theorem far_any (v most : Int) (w : World) :
  Calls Tryz.prog 36 #[.int .i64 v, .int .i64 most] w fun e w' => e = .returned (.bool (decide (v < 0 ∨ most < v))) ∧ w = w' := by
 go_enter Tryz.func36, Tryz.ntmps36
 go_wp2
 all_goals
  go_ret
  exact ⟨ret_bool (by first | rfl | simp | (rw [Bool.eq_iff_iff]; simp; omega)), rfl⟩
theorem err_any (n : Int) (w : World) :
  Calls Tryz.prog 26 #[.int .i64 n] w fun e w' => e = .returned (.agg #[.int .i64 n, .int .i64 (-1)]) ∧ Below w.heap.size w w' := by
 go_enter Tryz.func26, Tryz.ntmps26
 go_wp2
 refine bodyPost_ret (v := .agg #[.int .i64 n, .int .i64 (-1)]) (by simp [results, Tryz.results26, go_sem]) rfl ⟨rfl, ?_⟩
 exact bal (Below.refl _ _) _
set_option maxHeartbeats 2000000 in
theorem keyMay_any (k b l m r g : Int) (w : World) :
  Calls Tryz.prog 136 #[.agg #[.int .i64 k, .int .i64 b, .int .i64 l, .int .i64 m, .int .i64 r, .int .i64 g]] w
   fun e w' => e = .returned (.int .i64 (KP.chk k b l m r g)) ∧ Below w.heap.size w w' := by
 go_enter Tryz.func136, Tryz.ntmps136
 go_wp2_with (go_at_call 36; refine (far_any _ _ _).mono ?_; rintro e w' ⟨rfl, rfl⟩)
 all_goals
  go_ret
  refine ⟨ret_int ?_, bal (Below.refl _ _) _⟩
  rw [chk_plain]
  simp at *
  (repeat' split) <;> omega
end Go.Proofs.YtoebmjgkfkfhjaaGreatDoor
