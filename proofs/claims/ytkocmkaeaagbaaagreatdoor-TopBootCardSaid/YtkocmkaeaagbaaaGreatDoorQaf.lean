/- Plain facts on keys as numbers: which keys may be, and how a key's parts lie in its number. · The walks of word.framesFit, word.badgeFits, word.Check. · The walks of word.parts and word.Pack. · The walk of word.Unpack. -/
import Derived.Test.YtkocmkaeaagbaaaGreatDoorChecked
import Derived.WalkKit
import Derived.WalkSpells
import Derived.WalkLawsBesides
import Derived.Laws.EntriesVeiled
import Derived.Laws.BitsLemmas
import Derived.Laws.Bits64
namespace Go.Proofs.YtkocmkaeaagbaaaGreatDoor
namespace KP
def fitsB (k b l m : Int) : Bool :=
 if l < 1 ∨ 24 < l ∨ b < 0 ∨ 24 - l < b then false
 else if k = 1 then decide (0 ≤ m ∧ m ≤ l) else decide (l = 1 ∧ m = 0)
def badgeB (k g : Int) : Bool :=
 if k = 7 ∨ k = 8 then decide (0 ≤ g ∧ g ≤ 65535) else decide (g = 0)
def chk (k b l m r g : Int) : Int :=
 if k < 0 ∨ 8 < k then 3
 else if k = 0 then (if b = 0 ∧ l = 0 ∧ m = 0 ∧ r = 0 ∧ g = 0 then 0 else 2)
 else if fitsB k b l m = false then 2
 else if r < 0 ∨ 7 < r then 4
 else if badgeB k g = false then 2
 else 0
/-- A key that may be has parts within their bits. -/
theorem chk_zero {k b l m r g : Int} (h : chk k b l m r g = 0) :
  0 ≤ k ∧ k ≤ 8 ∧ 0 ≤ b ∧ b ≤ 23 ∧ 0 ≤ l ∧ l ≤ 24 ∧ 0 ≤ m ∧ m ≤ 24 ∧ 0 ≤ r ∧ r ≤ 7 ∧ 0 ≤ g ∧ g ≤ 65535 := by
 unfold chk at h
 split at h
 ·omega
 split at h
 ·split at h <;> omega
 split at h
 ·omega
 rename_i h1 h2 h3
 split at h
 ·omega
 split at h
 ·omega
 rename_i h4 h5
 simp only [Bool.not_eq_false] at h3 h5
 unfold fitsB at h3
 unfold badgeB at h5
 split at h3
 ·simp at h3
 rename_i h6
 have h7 : (0 ≤ m ∧ m ≤ l) ∨ (l = 1 ∧ m = 0) := by
  split at h3
  ·exact Or.inl (of_decide_eq_true h3)
  ·exact Or.inr (of_decide_eq_true h3)
 have h8 : (0 ≤ g ∧ g ≤ 65535) ∨ g = 0 := by
  split at h5
  ·exact Or.inl (of_decide_eq_true h5)
  ·exact Or.inr (of_decide_eq_true h5)
 omega
theorem fitsB_iff (k b l m : Int) : fitsB k b l m = true ↔ (1 ≤ l ∧ l ≤ 24 ∧ 0 ≤ b ∧ b ≤ 24 - l ∧ (k = 1 → 0 ≤ m ∧ m ≤ l) ∧ (k ≠ 1 → l = 1 ∧ m = 0)) := by
 unfold fitsB
 split
 ·simp; omega
 ·split <;> simp <;> omega
theorem badgeB_iff (k g : Int) : badgeB k g = true ↔ (0 ≤ g ∧ g ≤ 65535 ∧ (k ≠ 7 → k ≠ 8 → g = 0)) := by
 unfold badgeB
 split <;> simp <;> omega
theorem chk_1 {k b l m r g : Int} (h : k < 0 ∨ 8 < k) : chk k b l m r g = 3 := by unfold chk; rw [if_pos h]
theorem chk_2 {b l m r g : Int} (h : b = 0 ∧ l = 0 ∧ m = 0 ∧ r = 0 ∧ g = 0) : chk 0 b l m r g = 0 := by unfold chk; simp [h]
theorem chk_3 {b l m r g : Int} (h : ¬ (b = 0 ∧ l = 0 ∧ m = 0 ∧ r = 0 ∧ g = 0)) : chk 0 b l m r g = 2 := by unfold chk; rw [if_neg (by omega), if_pos rfl, if_neg h]
theorem chk_4 {k b l m r g : Int} (h : 1 ≤ k) (h8 : k ≤ 8) (f : fitsB k b l m = false) : chk k b l m r g = 2 := by unfold chk; rw [if_neg (by omega), if_neg (by omega), if_pos f]
theorem chk_5 {k b l m r g : Int} (h : 1 ≤ k) (h8 : k ≤ 8) (f : fitsB k b l m = true) (hr : r < 0 ∨ 7 < r) : chk k b l m r g = 4 := by unfold chk; rw [if_neg (by omega), if_neg (by omega), if_neg (by simp [f]), if_pos hr]
theorem chk_6 {k b l m r g : Int} (h : 1 ≤ k) (h8 : k ≤ 8) (f : fitsB k b l m = true) (hr : ¬ (r < 0 ∨ 7 < r)) (hb : badgeB k g = false) : chk k b l m r g = 2 := by unfold chk; rw [if_neg (by omega), if_neg (by omega), if_neg (by simp [f]), if_neg hr, if_pos hb]
theorem chk_7 {k b l m r g : Int} (h : 1 ≤ k) (h8 : k ≤ 8) (f : fitsB k b l m = true) (hr : ¬ (r < 0 ∨ 7 < r)) (hb : badgeB k g = true) : chk k b l m r g = 0 := by unfold chk; rw [if_neg (by omega), if_neg (by omega), if_neg (by simp [f]), if_neg hr, if_neg (by simp [hb])]
end KP
end Go.Proofs.YtkocmkaeaagbaaaGreatDoor
namespace Go.Proofs.YtkocmkaeaagbaaaGreatDoor
open Go.RowKit
theorem ret_bool {a b : Bool} (h : a = b) : Ending.returned (.bool a) = .returned (.bool b) := by rw [h]
theorem bcell {W w1 : World} (hb : Below W.heap.size W w1) : (∀ b o, b < W.heap.size → w1.cell? ⟨b, o, none⟩ = W.cell? ⟨b, o, none⟩) ∧ (∀ b o, b < W.heap.size → w1.frozen? ⟨b, o, none⟩ = W.frozen? ⟨b, o, none⟩) :=
 ⟨fun b o h => hb.cell (p := ⟨b, o, none⟩) h, fun b o h => hb.frozen (p := ⟨b, o, none⟩) h⟩
/-- An error by its number: none, or api's. -/
def errV (n : Int) : Value := if n = 0 then .nilIface else .iface 29 (.int .i64 n)
set_option maxHeartbeats 400000 in
theorem frames_any (k b l m r g : Int) (w : World) :
  Calls Tryz.prog 182 #[.agg #[.int .i64 k, .int .i64 b, .int .i64 l, .int .i64 m, .int .i64 r, .int .i64 g]] w
   fun e w' => e = .returned (.bool (KP.fitsB k b l m)) ∧ Below w.heap.size w w' := by
 go_enter Tryz.func182, Tryz.ntmps182
 go_wp2
 all_goals
  go_ret
  exact ⟨ret_bool (by rw [Bool.eq_iff_iff, KP.fitsB_iff]; simp at *; omega), (Below.refl _ _).alloc (Nat.le_refl _) _⟩
set_option maxHeartbeats 400000 in
theorem badge_any (k b l m r g : Int) (w : World) :
  Calls Tryz.prog 183 #[.agg #[.int .i64 k, .int .i64 b, .int .i64 l, .int .i64 m, .int .i64 r, .int .i64 g]] w
   fun e w' => e = .returned (.bool (KP.badgeB k g)) ∧ Below w.heap.size w w' := by
 go_enter Tryz.func183, Tryz.ntmps183
 go_wp2
 all_goals
  go_ret
  exact ⟨ret_bool (by rw [Bool.eq_iff_iff, KP.badgeB_iff]; simp at *; omega), (Below.refl _ _).alloc (Nat.le_refl _) _⟩
set_option maxHeartbeats 1000000 in
theorem check_any (k b l m r g : Int) (w : World) :
  Calls Tryz.prog 136 #[.agg #[.int .i64 k, .int .i64 b, .int .i64 l, .int .i64 m, .int .i64 r, .int .i64 g]] w
   fun e w' => e = .returned (errV (KP.chk k b l m r g)) ∧ Below w.heap.size w w' := by
 by_cases h1 : k < 0 ∨ 8 < k
 ·rw [KP.chk_1 h1]
  rcases h1 with h1 | h1
  all_goals
   go_enter Tryz.func136, Tryz.ntmps136
   go_wp2_with fail
   go_ret
   exact ⟨rfl, (Below.refl _ _).alloc (Nat.le_refl _) _⟩
 have hk0 : 0 ≤ k := by omega
 have hk8 : k ≤ 8 := by omega
 clear h1
 by_cases h0 : k = 0
 ·subst h0
  by_cases hz : b = 0 ∧ l = 0 ∧ m = 0 ∧ r = 0 ∧ g = 0
  ·rw [KP.chk_2 hz]
   obtain ⟨rfl, rfl, rfl, rfl, rfl⟩ := hz
   go_enter Tryz.func136, Tryz.ntmps136
   go_wp2_with fail
   go_ret
   exact ⟨rfl, (Below.refl _ _).alloc (Nat.le_refl _) _⟩
  ·rw [KP.chk_3 hz]
   have HZ : Hid (¬ (b = 0 ∧ l = 0 ∧ m = 0 ∧ r = 0 ∧ g = 0)) := hz
   clear hz
   go_enter Tryz.func136, Tryz.ntmps136
   go_wp2_with fail
   all_goals first | (go_ret; exact ⟨rfl, (Below.refl _ _).alloc (Nat.le_refl _) _⟩) | exact absurd ⟨by assumption, by assumption, by assumption, by assumption, by assumption⟩ HZ.out
 have hk1 : 1 ≤ k := by omega
 have hke : (k == 0) = false := by simp [h0]
 clear h0 hk0
 cases hf : KP.fitsB k b l m with
 | false =>
  rw [KP.chk_4 hk1 hk8 hf]
  go_enter Tryz.func136, Tryz.ntmps136
  go_wp2_with (go_at_call 182; refine (frames_any _ _ _ _ _ _ _).mono ?_; rintro e w' ⟨rfl, hb⟩; obtain ⟨hc, hz⟩ := bcell hb)
  go_ret
  exact ⟨rfl, ((Below.refl _ _).alloc (Nat.le_refl _) _).trans (hb.mono (by simp))⟩
 | true =>
  by_cases hr : r < 0 ∨ 7 < r
  ·rw [KP.chk_5 hk1 hk8 hf hr]
   rcases hr with hr | hr
   all_goals
    go_enter Tryz.func136, Tryz.ntmps136
    go_wp2_with (go_at_call 182; refine (frames_any _ _ _ _ _ _ _).mono ?_; rintro e w' ⟨rfl, hb⟩; obtain ⟨hc, hz⟩ := bcell hb)
    go_ret
    exact ⟨rfl, ((Below.refl _ _).alloc (Nat.le_refl _) _).trans (hb.mono (by simp))⟩
  have hr0 : 0 ≤ r := by omega
  have hr7 : r ≤ 7 := by omega
  cases hg : KP.badgeB k g with
  | false =>
   rw [KP.chk_6 hk1 hk8 hf hr hg]
   clear hr
   go_enter Tryz.func136, Tryz.ntmps136
   go_wp2_with (first | (go_at_call 182; refine (frames_any _ _ _ _ _ _ _).mono ?_; rintro e w1 ⟨rfl, hb⟩; obtain ⟨hc, hz⟩ := bcell hb) | (go_at_call 183; refine (badge_any _ _ _ _ _ _ _).mono ?_; rintro e w2 ⟨rfl, hb2⟩))
   go_ret
   exact ⟨rfl, (((Below.refl _ _).alloc (Nat.le_refl _) _).trans (hb.mono (by simp))).trans (hb2.mono (by have := hb.size; simp at this; omega))⟩
  | true =>
   rw [KP.chk_7 hk1 hk8 hf hr hg]
   clear hr
   go_enter Tryz.func136, Tryz.ntmps136
   go_wp2_with (first | (go_at_call 182; refine (frames_any _ _ _ _ _ _ _).mono ?_; rintro e w1 ⟨rfl, hb⟩; obtain ⟨hc, hz⟩ := bcell hb) | (go_at_call 183; refine (badge_any _ _ _ _ _ _ _).mono ?_; rintro e w2 ⟨rfl, hb2⟩))
   go_ret
   exact ⟨rfl, (((Below.refl _ _).alloc (Nat.le_refl _) _).trans (hb.mono (by simp))).trans (hb2.mono (by have := hb.size; simp at this; omega))⟩
theorem wraps_u64 (n : Int) (h₀ : 0 ≤ n) (h₁ : n < 2 ^ 64) : IntKind.u64.wrap n = n := by rw [IntKind.wrap_u64]; omega
theorem cells_set {W : World} {B : Nat} {arr : Array Value} (h : ∀ o, W.cell? ⟨B, o, none⟩ = arr[o]?) (i : Nat) (hi : i < arr.size) (v : Value) :
  ∀ o, (W.setCell ⟨B, i, none⟩ v).cell? ⟨B, o, none⟩ = (arr.setIfInBounds i v)[o]? := by
 intro o
 by_cases ho : i = o
 ·subst ho
  rw [World.cell?_setCell_same W _ _ ((h i).trans (Array.getElem?_eq_getElem hi))]
  simp [hi]
 ·rw [World.cell?_setCell_other W _ _ _ (by intro e; cases e; exact ho rfl), h o]
  simp [ho]
theorem six_set {W : World} {B : Nat} {v0 v1 v2 v3 v4 v5 x0 x1 x2 x3 x4 x5 : Value} (h : ∀ o, W.cell? ⟨B, o, none⟩ = (#[x0, x1, x2, x3, x4, x5] : Array Value)[o]?) :
  ∀ o, ((((((W.setCell ⟨B, 0, none⟩ v0).setCell ⟨B, 1, none⟩ v1).setCell ⟨B, 2, none⟩ v2).setCell ⟨B, 3, none⟩ v3).setCell ⟨B, 4, none⟩ v4).setCell ⟨B, 5, none⟩ v5).cell? ⟨B, o, none⟩ = (#[v0, v1, v2, v3, v4, v5] : Array Value)[o]? :=
 cells_set (cells_set (cells_set (cells_set (cells_set (cells_set h 0 (by simp) v0) 1 (by simp) v1) 2 (by simp) v2) 3 (by simp) v3) 4 (by simp) v4) 5 (by simp) v5
theorem cells_far {W : World} {B C i : Nat} {arr : Array Value} (h : ∀ o, W.cell? ⟨C, o, none⟩ = arr[o]?) (hne : B ≠ C) (v : Value) :
  ∀ o, (W.setCell ⟨B, i, none⟩ v).cell? ⟨C, o, none⟩ = arr[o]? := by
 intro o
 rw [World.cell?_setCell_other W _ _ _ (by intro e; cases e; exact hne rfl), h o]
theorem cells_alloc {W : World} {C : Nat} {arr : Array Value} (h : ∀ o, W.cell? ⟨C, o, none⟩ = arr[o]?) (hlt : C < W.heap.size) (ob : Obj) :
  ∀ o, (W.alloc ob).cell? ⟨C, o, none⟩ = arr[o]? := by
 intro o
 rw [World.cell?_alloc_lt _ _ ⟨C, o, none⟩ hlt, h o]
theorem froz_alloc {W : World} {C : Nat} (h : ∀ o, W.frozen? ⟨C, o, none⟩ = false) (hlt : C < W.heap.size) (ob : Obj) :
  ∀ o, (W.alloc ob).frozen? ⟨C, o, none⟩ = false := by
 intro o
 rw [World.frozen?_alloc_old _ _ ⟨C, o, none⟩ (Nat.ne_of_lt hlt), h o]
end Go.Proofs.YtkocmkaeaagbaaaGreatDoor
