/- Plain facts on keys as numbers: which keys may be, and how a key's parts lie in its number. -/
namespace Go.Proofs.YtemlobepnfpalaaDoor
namespace KP

def fitsB (k b l m : Int) : Bool :=
  if l < 1 ∨ 24 < l ∨ b < 0 ∨ 24 - l < b then false
  else if k = 1 then decide (0 ≤ m ∧ m ≤ l) else decide (l = 1 ∧ m = 0)
def badgeB (k g : Int) : Bool :=
  if k = 7 ∨ k = 8 then decide (0 ≤ g ∧ g ≤ 65535) else decide (g = 0)
def chk (k b l m r g : Int) : Int :=
  if k < 0 ∨ 8 < k then 3
  else if k = 0 then (if b = 0 ∧ l = 0 ∧ m = 0 ∧ r = 0 ∧ g = 0 then 0 else 2)
  else if fitsB k b l m = false then 2
  else if r < 0 ∨ 7 < r then 4
  else if badgeB k g = false then 2
  else 0
/-- A key that may be has parts within their bits. -/
theorem chk_zero {k b l m r g : Int} (h : chk k b l m r g = 0) :
    0 ≤ k ∧ k ≤ 8 ∧ 0 ≤ b ∧ b ≤ 23 ∧ 0 ≤ l ∧ l ≤ 24 ∧ 0 ≤ m ∧ m ≤ 24 ∧ 0 ≤ r ∧ r ≤ 7 ∧ 0 ≤ g ∧ g ≤ 65535 := by
  unfold chk at h
  split at h
  · omega
  split at h
  · split at h <;> omega
  split at h
  · omega
  rename_i h1 h2 h3
  split at h
  · omega
  split at h
  · omega
  rename_i h4 h5
  simp only [Bool.not_eq_false] at h3 h5
  unfold fitsB at h3
  unfold badgeB at h5
  split at h3
  · simp at h3
  rename_i h6
  have h7 : (0 ≤ m ∧ m ≤ l) ∨ (l = 1 ∧ m = 0) := by
    split at h3
    · exact Or.inl (of_decide_eq_true h3)
    · exact Or.inr (of_decide_eq_true h3)
  have h8 : (0 ≤ g ∧ g ≤ 65535) ∨ g = 0 := by
    split at h5
    · exact Or.inl (of_decide_eq_true h5)
    · exact Or.inr (of_decide_eq_true h5)
  omega
theorem fitsB_iff (k b l m : Int) : fitsB k b l m = true ↔ (1 ≤ l ∧ l ≤ 24 ∧ 0 ≤ b ∧ b ≤ 24 - l ∧ (k = 1 → 0 ≤ m ∧ m ≤ l) ∧ (k ≠ 1 → l = 1 ∧ m = 0)) := by
  unfold fitsB
  split
  · simp; omega
  · split <;> simp <;> omega
theorem badgeB_iff (k g : Int) : badgeB k g = true ↔ (0 ≤ g ∧ g ≤ 65535 ∧ (k ≠ 7 → k ≠ 8 → g = 0)) := by
  unfold badgeB
  split <;> simp <;> omega
theorem chk_1 {k b l m r g : Int} (h : k < 0 ∨ 8 < k) : chk k b l m r g = 3 := by unfold chk; rw [if_pos h]
theorem chk_2 {b l m r g : Int} (h : b = 0 ∧ l = 0 ∧ m = 0 ∧ r = 0 ∧ g = 0) : chk 0 b l m r g = 0 := by unfold chk; simp [h]
theorem chk_3 {b l m r g : Int} (h : ¬ (b = 0 ∧ l = 0 ∧ m = 0 ∧ r = 0 ∧ g = 0)) : chk 0 b l m r g = 2 := by unfold chk; rw [if_neg (by omega), if_pos rfl, if_neg h]
theorem chk_4 {k b l m r g : Int} (h : 1 ≤ k) (h8 : k ≤ 8) (f : fitsB k b l m = false) : chk k b l m r g = 2 := by unfold chk; rw [if_neg (by omega), if_neg (by omega), if_pos f]
theorem chk_5 {k b l m r g : Int} (h : 1 ≤ k) (h8 : k ≤ 8) (f : fitsB k b l m = true) (hr : r < 0 ∨ 7 < r) : chk k b l m r g = 4 := by unfold chk; rw [if_neg (by omega), if_neg (by omega), if_neg (by simp [f]), if_pos hr]
theorem chk_6 {k b l m r g : Int} (h : 1 ≤ k) (h8 : k ≤ 8) (f : fitsB k b l m = true) (hr : ¬ (r < 0 ∨ 7 < r)) (hb : badgeB k g = false) : chk k b l m r g = 2 := by unfold chk; rw [if_neg (by omega), if_neg (by omega), if_neg (by simp [f]), if_neg hr, if_pos hb]
theorem chk_7 {k b l m r g : Int} (h : 1 ≤ k) (h8 : k ≤ 8) (f : fitsB k b l m = true) (hr : ¬ (r < 0 ∨ 7 < r)) (hb : badgeB k g = true) : chk k b l m r g = 0 := by unfold chk; rw [if_neg (by omega), if_neg (by omega), if_neg (by simp [f]), if_neg hr, if_neg (by simp [hb])]
def num (k b l m r g : Int) : Int := g + 65536 * r + 524288 * m + 16777216 * l + 536870912 * b + 17179869184 * k
theorem num_inj {k b l m r g k' b' l' m' r' g' : Int} (h : chk k b l m r g = 0) (h' : chk k' b' l' m' r' g' = 0)
    (e : num k b l m r g = num k' b' l' m' r' g') : k = k' ∧ b = b' ∧ l = l' ∧ m = m' ∧ r = r' ∧ g = g' := by
  have a := chk_zero h
  have b := chk_zero h'
  unfold num at e
  omega
theorem or_add (a x : Nat) (s : Nat) (h : a < 2 ^ s) : a ||| (x <<< s) = a + x * 2 ^ s := by
  rw [Nat.or_comm, Nat.shiftLeft_eq, Nat.mul_comm x, ← Nat.two_pow_add_eq_or_of_lt h, Nat.add_comm]
end KP
end Go.Proofs.YtemlobepnfpalaaDoor
