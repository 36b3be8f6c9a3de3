/- Digits, words as text, a text cut at a byte: what the walks of A3 say, in plain lists. -/
import Derived.WalkKit
import Derived.Lib.Split
import Derived.Lib.SplitLaws
namespace Go.Proofs.YtfpkbfhaipgibaaDoor.Hex

/-- The sixteen digits. -/
def hexes : ByteArray := ⟨#[48, 49, 50, 51, 52, 53, 54, 55, 56, 57, 97, 98, 99, 100, 101, 102]⟩
def dig (k : Int) : UInt8 := hexes.data.toList.getD k.toNat 0
def wordL (v : Int) : List UInt8 := [dig (v / 4096 % 16), dig (v / 256 % 16), dig (v / 16 % 16), dig (v % 16)]
/-- Words as text, a blank between. -/
def hexL : List Int → List UInt8
  | [] => []
  | z :: zs => wordL z ++ zs.flatMap fun v => 32 :: wordL v
def gap (k : Nat) : List UInt8 := if k = 0 then [] else [32]
theorem hexL_snoc (zs : List Int) (k : Nat) (h : k < zs.length) : hexL (zs.take (k + 1)) = hexL (zs.take k) ++ (gap k ++ wordL zs[k]) := by
  cases zs with
  | nil => simp at h
  | cons z zs =>
    cases k with
    | zero => simp [hexL, gap]
    | succ k =>
      have h2 : k < zs.length := by simpa using h
      rw [List.take_succ_cons, List.take_succ_cons, hexL, hexL, List.take_succ_eq_append_getElem h2, List.flatMap_append]
      simp [gap]
theorem hexL_len (zs : List Int) : (hexL zs).length ≤ 5 * zs.length := by
  cases zs with
  | nil => simp [hexL]
  | cons z zs =>
    have : (zs.flatMap fun v => 32 :: wordL v).length = 5 * zs.length := by
      induction zs with
      | nil => simp
      | cons y ys ih => rw [List.flatMap_cons, List.length_append, ih]; simp [wordL]; omega
    rw [hexL, List.length_append, this]
    simp [wordL]
    omega
theorem hexes_cut (k : Nat) (h : k < 16) : (hexes.extract k (k + 1)).data.toList = [dig k] := by
  have : k = 0 ∨ k = 1 ∨ k = 2 ∨ k = 3 ∨ k = 4 ∨ k = 5 ∨ k = 6 ∨ k = 7 ∨ k = 8 ∨ k = 9 ∨ k = 10 ∨ k = 11 ∨ k = 12 ∨ k = 13 ∨ k = 14 ∨ k = 15 := by omega
  rcases this with rfl | rfl | rfl | rfl | rfl | rfl | rfl | rfl | rfl | rfl | rfl | rfl | rfl | rfl | rfl | rfl <;> rfl
theorem bytes_ext {a b : ByteArray} (h : a.data.toList = b.data.toList) : a = b := by
  cases a; cases b
  simp only at h
  rw [Array.ext' h]
theorem app_list (a b : ByteArray) : (a ++ b).data.toList = a.data.toList ++ b.data.toList := by
  rw [ByteArray.data_append, Array.toList_append]
theorem size_list (a : ByteArray) : a.size = a.data.toList.length := rfl
/-- A text cut at each such byte. -/
def glue (c : UInt8) : List (List UInt8) → List (List UInt8)
  | [] => [[c]]
  | p :: ps => (c :: p) :: ps
def cutL (at_ : UInt8) : List UInt8 → List (List UInt8)
  | [] => [[]]
  | c :: s => if c = at_ then [] :: cutL at_ s else glue c (cutL at_ s)
/-- What is gathered so far, ahead of the first piece of what is left. -/
def ahead (p : List UInt8) : List (List UInt8) → List (List UInt8)
  | [] => [p]
  | q :: qs => (p ++ q) :: qs
theorem cutL_ne (a : UInt8) (s : List UInt8) : cutL a s ≠ [] := by
  cases s with
  | nil => simp [cutL]
  | cons c s =>
    rw [cutL]
    split
    · simp
    · unfold glue
      split <;> simp
theorem ahead_nil (a : UInt8) (s : List UInt8) : ahead [] (cutL a s) = cutL a s := by
  rcases h : cutL a s with _ | ⟨q, qs⟩
  · exact absurd h (cutL_ne a s)
  · rfl
theorem ahead_glue (p : List UInt8) (c : UInt8) (l : List (List UInt8)) : ahead p (glue c l) = ahead (p ++ [c]) l := by
  cases l <;> simp [glue, ahead]
theorem ahead_step_no (p : List UInt8) (a c : UInt8) (s : List UInt8) (h : c ≠ a) : ahead p (cutL a (c :: s)) = ahead (p ++ [c]) (cutL a s) := by
  rw [cutL, if_neg h, ahead_glue]
theorem ahead_step_yes (p : List UInt8) (a : UInt8) (s : List UInt8) : ahead p (cutL a (a :: s)) = p :: cutL a s := by
  rw [cutL, if_pos rfl, ahead]
  simp
theorem cutL_len (a : UInt8) (s : List UInt8) : (cutL a s).length ≤ s.length + 1 := by
  induction s with
  | nil => simp [cutL]
  | cons c s ih =>
    rw [cutL]
    split
    · simp; exact ih
    · have : (glue c (cutL a s)).length ≤ s.length + 1 + 1 := by
        unfold glue
        split
        · simp
        · rename_i h; rw [h] at ih; simp at ih ⊢; omega
      simpa using this
theorem cutL_mem_len (a : UInt8) (s : List UInt8) : ∀ p ∈ cutL a s, p.length ≤ s.length := by
  induction s with
  | nil => simp [cutL]
  | cons c s ih =>
    intro p hp
    rw [cutL] at hp
    split at hp
    · rcases List.mem_cons.1 hp with rfl | hp
      · simp
      · have := ih p hp; simp; omega
    · unfold glue at hp
      split at hp
      · simp at hp; subst hp; simp
      · rename_i q qs h
        rw [h] at ih
        rcases List.mem_cons.1 hp with rfl | hp
        · have := ih q (by simp); simp; omega
        · have := ih p (by simp [hp]); simp; omega
theorem splitK_ne (b c : UInt8) (h : b ≠ c) (k : Nat) (s : List UInt8) : Lib.splitK [c] 0 k (b :: s) = glue b (Lib.splitK [c] 0 k s) := by
  cases k with
  | zero => rfl
  | succ k =>
    have e : Lib.index (b :: s) [c] = if Lib.index s [c] == -1 then -1 else Lib.index s [c] + 1 := by
      rw [Lib.index]
      have : ([c] : List UInt8).isPrefixOf (b :: s) = false := by simp [List.isPrefixOf, Ne.symm h]
      rw [this]
      simp
    have hg := Lib.index_ge s [c]
    unfold Lib.splitK
    rw [e]
    by_cases h1 : (Lib.index s [c] == -1) = true
    · rw [if_pos h1, if_pos (by decide), if_pos h1]
      rfl
    · have h2 : Lib.index s [c] ≠ -1 := by simpa using h1
      have h3 : ¬ ((Lib.index s [c] + 1 == -1) = true) := by simp; omega
      rw [if_neg h1, if_neg h3, if_neg h1]
      have e2 : (Lib.index s [c] + 1).toNat = (Lib.index s [c]).toNat + 1 := by omega
      rw [e2]
      simp only [glue, Nat.add_zero, List.take_succ_cons, List.length_cons, List.length_nil, Nat.zero_add, List.drop_succ_cons]
theorem split_cut (c : UInt8) (s : List UInt8) : Lib.split s [c] = cutL c s := by
  unfold Lib.split
  induction s with
  | nil => rfl
  | cons b s ih =>
    by_cases h : b = c
    · subst h
      rw [Lib.count_cons_eq, Nat.add_comm, cutL, if_pos rfl, ← ih]
      have e : Lib.index (b :: s) [b] = 0 := by rw [Lib.index]; simp [List.isPrefixOf]
      rw [Lib.splitK, e]
      rfl
    · rw [Lib.count_cons_ne _ _ _ h, splitK_ne _ _ h, ih, cutL, if_neg h]
/-- The pieces, as texts. -/
def cutB (c : UInt8) (s : ByteArray) : List ByteArray := (cutL c s.data.toList).map fun l => ⟨l.toArray⟩
theorem splitB_cut (c : UInt8) (s : ByteArray) : Lib.splitB ⟨#[c]⟩ 0 (Lib.countB s ⟨#[c]⟩) s = cutB c s := by
  have h := Lib.splitB_data ⟨#[c]⟩ 0 (Lib.countB s ⟨#[c]⟩) s
  have e : Lib.splitK (⟨#[c]⟩ : ByteArray).data.toList 0 (Lib.countB s ⟨#[c]⟩) s.data.toList = cutL c s.data.toList := split_cut c s.data.toList
  rw [e] at h
  unfold cutB
  rw [← h, List.map_map]
  conv => lhs; rw [← List.map_id (Lib.splitB _ _ _ _)]
  apply List.map_congr_left
  intro x _
  cases x
  simp
theorem cutB_len (c : UInt8) (s : ByteArray) : Lib.countB s ⟨#[c]⟩ + 1 = (cutB c s).length := by
  rw [← splitB_cut, Lib.splitB_all ⟨#[c]⟩ (Nat.le_refl 1) 0 _ s rfl]
end Go.Proofs.YtfpkbfhaipgibaaDoor.Hex
