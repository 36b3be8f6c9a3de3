/- The walks of word.framesFit, word.badgeFits, word.Check. -/
import Derived.Test.YtemlobepnfpalaaDoorChecked
import Derived.Test.YtemlobepnfpalaaDoorKeyPlain
import Derived.WalkKit
import Derived.WalkSpells
import Derived.WalkLawsBesides
namespace Go.Proofs.YtemlobepnfpalaaDoor
open Go.RowKit

theorem ret_bool {a b : Bool} (h : a = b) : Ending.returned (.bool a) = .returned (.bool b) := by rw [h]
theorem ret_int {k : IntKind} {a b : Int} (h : a = b) : Ending.returned (.int k a) = .returned (.int k b) := by rw [h]
theorem bcell {W w1 : World} (hb : Below W.heap.size W w1) : (∀ b o, b < W.heap.size → w1.cell? ⟨b, o, none⟩ = W.cell? ⟨b, o, none⟩) ∧ (∀ b o, b < W.heap.size → w1.frozen? ⟨b, o, none⟩ = W.frozen? ⟨b, o, none⟩) :=
  ⟨fun b o h => hb.cell (p := ⟨b, o, none⟩) h, fun b o h => hb.frozen (p := ⟨b, o, none⟩) h⟩
/-- An error by its number: none, or api's. -/
def errV (n : Int) : Value := if n = 0 then .nilIface else .iface 22 (.int .i64 n)
theorem errV_zero : errV 0 = .nilIface := rfl

def keyV (k b l m r g : Int) : Value := .agg #[.int .i64 k, .int .i64 b, .int .i64 l, .int .i64 m, .int .i64 r, .int .i64 g]

set_option maxHeartbeats 400000 in
theorem frames_any (k b l m r g : Int) (w : World) :
    Calls Tryd.prog 37 #[.agg #[.int .i64 k, .int .i64 b, .int .i64 l, .int .i64 m, .int .i64 r, .int .i64 g]] w
      fun e w' => e = .returned (.bool (KP.fitsB k b l m)) ∧ Below w.heap.size w w' := by
  go_enter Tryd.func37, Tryd.ntmps37
  go_wp2
  all_goals
    go_ret
    exact ⟨ret_bool (by rw [Bool.eq_iff_iff, KP.fitsB_iff]; simp at *; omega), (Below.refl _ _).alloc (Nat.le_refl _) _⟩
set_option maxHeartbeats 400000 in
theorem badge_any (k b l m r g : Int) (w : World) :
    Calls Tryd.prog 38 #[.agg #[.int .i64 k, .int .i64 b, .int .i64 l, .int .i64 m, .int .i64 r, .int .i64 g]] w
      fun e w' => e = .returned (.bool (KP.badgeB k g)) ∧ Below w.heap.size w w' := by
  go_enter Tryd.func38, Tryd.ntmps38
  go_wp2
  all_goals
    go_ret
    exact ⟨ret_bool (by rw [Bool.eq_iff_iff, KP.badgeB_iff]; simp at *; omega), (Below.refl _ _).alloc (Nat.le_refl _) _⟩
set_option maxHeartbeats 1000000 in
theorem check_any (k b l m r g : Int) (w : World) :
    Calls Tryd.prog 14 #[.agg #[.int .i64 k, .int .i64 b, .int .i64 l, .int .i64 m, .int .i64 r, .int .i64 g]] w
      fun e w' => e = .returned (errV (KP.chk k b l m r g)) ∧ Below w.heap.size w w' := by
  by_cases h1 : k < 0 ∨ 8 < k
  · rw [KP.chk_1 h1]
    rcases h1 with h1 | h1
    all_goals
      go_enter Tryd.func14, Tryd.ntmps14
      go_wp2_with fail
      go_ret
      exact ⟨rfl, (Below.refl _ _).alloc (Nat.le_refl _) _⟩
  have hk0 : 0 ≤ k := by omega
  have hk8 : k ≤ 8 := by omega
  clear h1
  by_cases h0 : k = 0
  · subst h0
    by_cases hz : b = 0 ∧ l = 0 ∧ m = 0 ∧ r = 0 ∧ g = 0
    · rw [KP.chk_2 hz]
      obtain ⟨rfl, rfl, rfl, rfl, rfl⟩ := hz
      go_enter Tryd.func14, Tryd.ntmps14
      go_wp2_with fail
      go_ret
      exact ⟨rfl, (Below.refl _ _).alloc (Nat.le_refl _) _⟩
    · rw [KP.chk_3 hz]
      have HZ : Hid (¬ (b = 0 ∧ l = 0 ∧ m = 0 ∧ r = 0 ∧ g = 0)) := hz
      clear hz
      go_enter Tryd.func14, Tryd.ntmps14
      go_wp2_with fail
      all_goals first | (go_ret; exact ⟨rfl, (Below.refl _ _).alloc (Nat.le_refl _) _⟩) | exact absurd ⟨by assumption, by assumption, by assumption, by assumption, by assumption⟩ HZ.out
  have hk1 : 1 ≤ k := by omega
  have hke : (k == 0) = false := by simp [h0]
  clear h0 hk0
  cases hf : KP.fitsB k b l m with
  | false =>
    rw [KP.chk_4 hk1 hk8 hf]
    go_enter Tryd.func14, Tryd.ntmps14
    go_wp2_with (go_at_call 37; refine (frames_any _ _ _ _ _ _ _).mono ?_; rintro e w' ⟨rfl, hb⟩; obtain ⟨hc, hz⟩ := bcell hb)
    go_ret
    exact ⟨rfl, ((Below.refl _ _).alloc (Nat.le_refl _) _).trans (hb.mono (by simp))⟩
  | true =>
    by_cases hr : r < 0 ∨ 7 < r
    · rw [KP.chk_5 hk1 hk8 hf hr]
      rcases hr with hr | hr
      all_goals
        go_enter Tryd.func14, Tryd.ntmps14
        go_wp2_with (go_at_call 37; refine (frames_any _ _ _ _ _ _ _).mono ?_; rintro e w' ⟨rfl, hb⟩; obtain ⟨hc, hz⟩ := bcell hb)
        go_ret
        exact ⟨rfl, ((Below.refl _ _).alloc (Nat.le_refl _) _).trans (hb.mono (by simp))⟩
    have hr0 : 0 ≤ r := by omega
    have hr7 : r ≤ 7 := by omega
    cases hg : KP.badgeB k g with
    | false =>
      rw [KP.chk_6 hk1 hk8 hf hr hg]
      clear hr
      go_enter Tryd.func14, Tryd.ntmps14
      go_wp2_with (first | (go_at_call 37; refine (frames_any _ _ _ _ _ _ _).mono ?_; rintro e w1 ⟨rfl, hb⟩; obtain ⟨hc, hz⟩ := bcell hb) | (go_at_call 38; refine (badge_any _ _ _ _ _ _ _).mono ?_; rintro e w2 ⟨rfl, hb2⟩))
      go_ret
      exact ⟨rfl, (((Below.refl _ _).alloc (Nat.le_refl _) _).trans (hb.mono (by simp))).trans (hb2.mono (by have := hb.size; simp at this; omega))⟩
    | true =>
      rw [KP.chk_7 hk1 hk8 hf hr hg]
      clear hr
      go_enter Tryd.func14, Tryd.ntmps14
      go_wp2_with (first | (go_at_call 37; refine (frames_any _ _ _ _ _ _ _).mono ?_; rintro e w1 ⟨rfl, hb⟩; obtain ⟨hc, hz⟩ := bcell hb) | (go_at_call 38; refine (badge_any _ _ _ _ _ _ _).mono ?_; rintro e w2 ⟨rfl, hb2⟩))
      go_ret
      exact ⟨rfl, (((Below.refl _ _).alloc (Nat.le_refl _) _).trans (hb.mono (by simp))).trans (hb2.mono (by have := hb.size; simp at this; omega))⟩
end Go.Proofs.YtemlobepnfpalaaDoor
