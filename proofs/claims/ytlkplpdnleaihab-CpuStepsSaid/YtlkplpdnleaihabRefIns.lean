/- keyholdref.CodeOf and keyholdref.InsOf, walked. -/
import Derived.Test.YtlkplpdnleaihabRefIsa
import Derived.Deep.RegionWith
namespace Go.Proofs.Ytlkplpdnleaihab.Isa
open Go.RowKit Go.Proofs.Ytlkplpdnleaihab.Mem

theorem cells_drew {W : World} {C : Nat} {arr : Array Value} (h : ∀ o, W.cell? ⟨C, o, none⟩ = arr[o]?) : ∀ o, W.drew.cell? ⟨C, o, none⟩ = arr[o]? := h
set_option maxHeartbeats 1000000 in
theorem insOf_no (x y : Int) (w : World) (hw : ¬ IP.word x y) :
    Calls Try.prog 16 #[.agg #[.int .i64 x, .int .i64 y]] w
      fun e w' => e = .returned (.tuple #[.agg #[.int .i64 0, .int .i64 0, .int .i64 0, .int .i64 0], .bool false]) ∧ Below w.heap.size w w' := by
  have HW := hid hw
  clear hw
  by_cases hx : x < 0 ∨ 65535 < x
  · have d1 : decide (x < 0 ∨ 65535 < x) = true := decide_eq_true hx
    clear hx
    go_enter Try.func16, Try.ntmps16
    go_wp2_with fail
    refine (far_any _ _ _).mono ?_
    rw [d1]
    rintro e w' ⟨rfl, rfl⟩
    go_wp2_with fail
    exact bodyPost_ret (v := .tuple #[.agg #[.int .i64 0, .int .i64 0, .int .i64 0, .int .i64 0], .bool false]) (by simp [results, Try.results16, go_sem]) rfl ⟨rfl, bal (bal (Below.refl _ _) _) _⟩
  · have hy : y < 0 ∨ 65535 < y := by have := HW.out; unfold IP.word at this; omega
    have d1 : decide (x < 0 ∨ 65535 < x) = false := decide_eq_false hx
    have d2 : decide (y < 0 ∨ 65535 < y) = true := decide_eq_true hy
    clear hx hy
    go_enter Try.func16, Try.ntmps16
    go_wp2_with fail
    refine (far_any _ _ _).mono ?_
    rw [d1]
    rintro e w' ⟨rfl, rfl⟩
    go_wp2_with fail
    refine (far_any _ _ _).mono ?_
    rw [d2]
    rintro e w' ⟨rfl, rfl⟩
    go_wp2_with fail
    exact bodyPost_ret (v := .tuple #[.agg #[.int .i64 0, .int .i64 0, .int .i64 0, .int .i64 0], .bool false]) (by simp [results, Try.results16, go_sem]) rfl ⟨rfl, bal (bal (Below.refl _ _) _) _⟩
set_option maxHeartbeats 1000000 in
theorem insOf_word (x y : Int) (w : World) (hw : IP.word x y) :
    Calls Try.prog 16 #[.agg #[.int .i64 x, .int .i64 y]] w
      fun e w' => e = .returned (.tuple #[.agg #[.int .i64 (x / 256), .int .i64 (x / 16 % 16), .int .i64 (x % 16), .int .i64 (IP.dI y)], .bool (IP.may (x / 256) (x / 16 % 16) (x % 16) (IP.dI y) == 0)]) ∧ Below w.heap.size w w' := by
  obtain ⟨x0, x1, y0, y1⟩ := hw
  have d1 : decide (x < 0 ∨ 65535 < x) = false := decide_eq_false (by omega)
  have d2 : decide (y < 0 ∨ 65535 < y) = false := decide_eq_false (by omega)
  by_cases hi : 32767 < y
  · rw [show IP.dI y = (y - 65536) from by unfold IP.dI; rw [if_pos hi]]
    go_enter Try.func16, Try.ntmps16
    go_wp2_with fail
    refine (far_any _ _ _).mono ?_
    rw [d1]
    rintro e w' ⟨rfl, rfl⟩
    go_wp2_with fail
    refine (far_any _ _ _).mono ?_
    rw [d2]
    rintro e w' ⟨rfl, rfl⟩
    go_wp2_with fail
    go_region_with (go_at_call 23; refine (insMay_any _ _ _ _ _).mono ?_; rintro e w1 ⟨rfl, hb⟩; obtain ⟨hc, hz⟩ := bcell hb; have z2 : w.heap.size + 1 + 1 < w1.heap.size := (by have := hb.size; simp at this; omega); have z1 : w.heap.size + 1 < w1.heap.size := (by omega); have z0 : w.heap.size < w1.heap.size := (by omega))
    all_goals
      go_wp2
      have four := four_set (v0 := .int .i64 (x / 256)) (v1 := .int .i64 (x / 16 % 16)) (v2 := .int .i64 (x % 16)) (v3 := .int .i64 (y - 65536)) (cells_next (cells_drew (cells_alloc (cells_at (w.alloc (.cells #[.int .i64 x, .int .i64 y] 43)) #[.int .i64 0, .int .i64 0, .int .i64 0, .int .i64 0] 48 (w.heap.size + 1) (by simp)) (by simp) _)) (by simp <;> omega) hb)
      refine bodyPost_ret (v := .tuple #[.agg #[.int .i64 (x / 256), .int .i64 (x / 16 % 16), .int .i64 (x % 16), .int .i64 (y - 65536)], .bool (IP.may (x / 256) (x / 16 % 16) (x % 16) (y - 65536) == 0)]) (by simp [results, Try.results16, go_sem, four]) rfl ⟨rfl, ?_⟩
      exact bset (bset (bset (bset (btr (bal (bal (bal (Below.refl _ _) _) _) _).drew hb) (by simp) _) (by simp) _) (by simp) _) (by simp) _
  · rw [show IP.dI y = y from by unfold IP.dI; rw [if_neg hi]]
    go_enter Try.func16, Try.ntmps16
    go_wp2_with fail
    refine (far_any _ _ _).mono ?_
    rw [d1]
    rintro e w' ⟨rfl, rfl⟩
    go_wp2_with fail
    refine (far_any _ _ _).mono ?_
    rw [d2]
    rintro e w' ⟨rfl, rfl⟩
    go_wp2_with fail
    go_region_with (go_at_call 23; refine (insMay_any _ _ _ _ _).mono ?_; rintro e w1 ⟨rfl, hb⟩; obtain ⟨hc, hz⟩ := bcell hb; have z2 : w.heap.size + 1 + 1 < w1.heap.size := (by have := hb.size; simp at this; omega); have z1 : w.heap.size + 1 < w1.heap.size := (by omega); have z0 : w.heap.size < w1.heap.size := (by omega))
    all_goals
      go_wp2
      have four := four_set (v0 := .int .i64 (x / 256)) (v1 := .int .i64 (x / 16 % 16)) (v2 := .int .i64 (x % 16)) (v3 := .int .i64 y) (cells_next (cells_drew (cells_alloc (cells_at (w.alloc (.cells #[.int .i64 x, .int .i64 y] 43)) #[.int .i64 0, .int .i64 0, .int .i64 0, .int .i64 0] 48 (w.heap.size + 1) (by simp)) (by simp) _)) (by simp <;> omega) hb)
      refine bodyPost_ret (v := .tuple #[.agg #[.int .i64 (x / 256), .int .i64 (x / 16 % 16), .int .i64 (x % 16), .int .i64 y], .bool (IP.may (x / 256) (x / 16 % 16) (x % 16) y == 0)]) (by simp [results, Try.results16, go_sem, four]) rfl ⟨rfl, ?_⟩
      exact bset (bset (bset (bset (btr (bal (bal (bal (Below.refl _ _) _) _) _).drew hb) (by simp) _) (by simp) _) (by simp) _) (by simp) _
end Go.Proofs.Ytlkplpdnleaihab.Isa
