/- Small parts of new worlds: a task that is none, ranges, the first domain that is none, copies of numbers. -/
import Derived.Test.YtoebmjgkfkfhjaaGreatDoorGRep
import Derived.Test.YtoebmjgkfkfhjaaGreatDoorMmuClone
import Derived.Test.YtoebmjgkfkfhjaaGreatDoorGIsa
namespace Go.Proofs.YtoebmjgkfkfhjaaGreatDoor.Wd
open Go.RowKit Go.Proofs.YtoebmjgkfkfhjaaGreatDoor.Mem Go.Proofs.YtoebmjgkfkfhjaaGreatDoor.Bw Go.Proofs.YtoebmjgkfkfhjaaGreatDoor.Nums Go.Proofs.YtoebmjgkfkfhjaaGreatDoor.Mmu
/-- A task that is none. -/
def bl (k : Nat) : Int := [0, 0, 0, 0, 0, 0, 0, 0, 0, 0, 0, -1, -1, -1, -1, 0, 0, -1, 0, 0].getD k 0
theorem blank_ref (w : World) : Calls Tryz.prog 68 #[] w fun e w' => e = .returned (.agg (cf 20 bl).toArray) ∧ Below w.heap.size w w' := by
 have R0 := hid (there_new w #[.int .i64 0, .int .i64 0, .int .i64 0, .int .i64 0, .int .i64 0, .int .i64 0, .int .i64 0, .int .i64 0, .int .i64 0, .int .i64 0, .int .i64 0, .int .i64 0, .int .i64 0, .int .i64 0, .int .i64 0, .int .i64 0, .int .i64 0, .int .i64 0, .int .i64 0, .int .i64 0] 85 w.heap.size 20 rfl (by decide))
 go_enter Tryz.func68, Tryz.ntmps68
 go_wp2_with (first
  | ((with_reducible (show wpList _ _ _ (⟨_, Op.store 85 _ _, _, _, _, _⟩ :: _) _ _)); refine wp_st rfl _ _ rfl _ rfl (cf 20 bl) rfl (cf_len _ _) (cf_one _ _) R0.out ?_; have E := hid (World.rangeAt_setCells_same _ w.heap.size 0 (cf 20 bl) (by rw [cf_len]; exact R0.out)); have K9 := hid (below_setCells (bal (Below.refl w.heap.size w) (.cells #[.int .i64 0, .int .i64 0, .int .i64 0, .int .i64 0, .int .i64 0, .int .i64 0, .int .i64 0, .int .i64 0, .int .i64 0, .int .i64 0, .int .i64 0, .int .i64 0, .int .i64 0, .int .i64 0, .int .i64 0, .int .i64 0, .int .i64 0, .int .i64 0, .int .i64 0, .int .i64 0] 85)) (Nat.le_refl _) (cf 20 bl) 0)))
 refine bodyPost_ret (v := .agg (cf 20 bl).toArray) (results_c1 rfl rfl (run_ld _ _ (cf 20 bl) E.out (cf_len _ _))) rfl ⟨rfl, K9.out⟩
theorem blank_own (w : World) : Calls Tryz.prog 121 #[] w fun e w' => e = .returned (.agg (cf 20 bl).toArray) ∧ Below w.heap.size w w' := by
 have R0 := hid (there_new w #[.int .i64 0, .int .i64 0, .int .i64 0, .int .i64 0, .int .i64 0, .int .i64 0, .int .i64 0, .int .i64 0, .int .i64 0, .int .i64 0, .int .i64 0, .int .i64 0, .int .i64 0, .int .i64 0, .int .i64 0, .int .i64 0, .int .i64 0, .int .i64 0, .int .i64 0, .int .i64 0] 85 w.heap.size 20 rfl (by decide))
 go_enter Tryz.func121, Tryz.ntmps121
 go_wp2_with (first
  | ((with_reducible (show wpList _ _ _ (⟨_, Op.store 85 _ _, _, _, _, _⟩ :: _) _ _)); refine wp_st rfl _ _ rfl _ rfl (cf 20 bl) rfl (cf_len _ _) (cf_one _ _) R0.out ?_; have E := hid (World.rangeAt_setCells_same _ w.heap.size 0 (cf 20 bl) (by rw [cf_len]; exact R0.out)); have K9 := hid (below_setCells (bal (Below.refl w.heap.size w) (.cells #[.int .i64 0, .int .i64 0, .int .i64 0, .int .i64 0, .int .i64 0, .int .i64 0, .int .i64 0, .int .i64 0, .int .i64 0, .int .i64 0, .int .i64 0, .int .i64 0, .int .i64 0, .int .i64 0, .int .i64 0, .int .i64 0, .int .i64 0, .int .i64 0, .int .i64 0, .int .i64 0] 85)) (Nat.le_refl _) (cf 20 bl) 0)))
 refine bodyPost_ret (v := .agg (cf 20 bl).toArray) (results_c1 rfl rfl (run_ld _ _ (cf 20 bl) E.out (cf_len _ _))) rfl ⟨rfl, K9.out⟩
theorem within_any (v a b : Int) (w : World) :
  Calls Tryz.prog 57 #[.int .i64 v, .int .i64 a, .int .i64 b] w fun e w' => e = .returned (.bool (decide (a ≤ v ∧ v ≤ b))) ∧ w = w' := by
 go_enter Tryz.func57, Tryz.ntmps57
 go_wp2
 all_goals
  go_ret
  exact ⟨ret_bool (by first | rfl | (simp; done) | (rw [Bool.eq_iff_iff]; simp; omega)), rfl⟩
/-- Is it no domain? -/
def nd (z : Int) : Bool := !decide (0 ≤ z ∧ z ≤ 3)
theorem noDom_any (n v : Int) (w : World) :
  Calls Tryz.prog 74 #[.int .i64 n, .int .i64 v] w fun e w' => e = .returned (.bool (nd v)) ∧ w = w' := by
 go_enter Tryz.func74, Tryz.ntmps74
 go_wp2_with fail
 refine (within_any v 0 3 w).mono ?_
 rintro e w1 ⟨rfl, rfl⟩
 have HN := hid (show nd v = !decide (0 ≤ v ∧ v ≤ 3) from rfl)
 generalize decide (0 ≤ v ∧ v ≤ 3) = bb at HN ⊢
 go_wp2_with fail
 go_ret
 exact ⟨by rw [HN.out]; rfl, rfl⟩
set_option maxHeartbeats 1000000 in
theorem countsFit_any (f c d : Int) (w : World) :
  Calls Tryz.prog 117 #[.int .i64 f, .int .i64 c, .int .i64 d] w fun e w' => e = .returned (.bool (decide ((1 ≤ f ∧ f ≤ 24) ∧ (1 ≤ c ∧ c ≤ 4) ∧ (1 ≤ d ∧ d ≤ 8)))) ∧ w = w' := by
 by_cases h1 : 1 ≤ f ∧ f ≤ 24
 ·by_cases h2 : 1 ≤ c ∧ c ≤ 4
  ·go_enter Tryz.func117, Tryz.ntmps117
   go_wp2_with fail
   refine (within_any f 1 24 w).mono ?_
   rintro e w1 ⟨rfl, rfl⟩
   rw [decide_eq_true h1]
   go_wp2_with fail
   refine (within_any c 1 4 w).mono ?_
   rintro e w1 ⟨rfl, rfl⟩
   rw [decide_eq_true h2]
   go_wp2_with fail
   refine (within_any d 1 8 w).mono ?_
   rintro e w1 ⟨rfl, rfl⟩
   go_wp2_with fail
   go_ret
   exact ⟨ret_bool (by rw [Bool.eq_iff_iff]; simp; omega), rfl⟩
  ·have H2 := hid h2
   clear h2
   go_enter Tryz.func117, Tryz.ntmps117
   go_wp2_with fail
   refine (within_any f 1 24 w).mono ?_
   rintro e w1 ⟨rfl, rfl⟩
   rw [decide_eq_true h1]
   go_wp2_with fail
   refine (within_any c 1 4 w).mono ?_
   rintro e w1 ⟨rfl, rfl⟩
   rw [decide_eq_false H2.out]
   go_wp2_with fail
   go_ret
   exact ⟨ret_bool (decide_eq_false (fun h => H2.out h.2.1)).symm, rfl⟩
 ·have H1 := hid h1
  clear h1
  go_enter Tryz.func117, Tryz.ntmps117
  go_wp2_with fail
  refine (within_any f 1 24 w).mono ?_
  rintro e w1 ⟨rfl, rfl⟩
  rw [decide_eq_false H1.out]
  go_wp2_with fail
  go_ret
  exact ⟨ret_bool (decide_eq_false (fun h => H1.out h.1)).symm, rfl⟩
end Go.Proofs.YtoebmjgkfkfhjaaGreatDoor.Wd
