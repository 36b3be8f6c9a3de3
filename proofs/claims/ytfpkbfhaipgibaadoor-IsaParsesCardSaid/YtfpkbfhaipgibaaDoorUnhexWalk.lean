/- word.Unhex, walked. -/
import Derived.Test.YtfpkbfhaipgibaaDoorUnhexRef
namespace Go.Proofs.YtfpkbfhaipgibaaDoor.Hex
open Go.RowKit Go.Proofs.YtfpkbfhaipgibaaDoor.Mem Go.Proofs.YtfpkbfhaipgibaaDoor.Isa Go.Proofs.YtfpkbfhaipgibaaDoor.Txt

/-- The library's variable internal/bytealg.MaxLen holds some number. -/
def MLok (w : World) : Prop := ∃ m, w.cell? ⟨3, 0, none⟩ = some (.int .i64 m)
theorem MLok.below {w w' : World} (h : MLok w) (hb : Below w.heap.size w w') : MLok w' := by
  obtain ⟨m, hm⟩ := h
  exact ⟨m, cellB hm hb⟩
theorem split_any (s : ByteArray) (c : UInt8) (w : World) (hs : s.size ≤ 100000) (hM : MLok w) :
    Calls Tryd.prog 75 #[.string s, .string ⟨#[c]⟩] w fun e w' => ∃ b cap, e = .returned (.slice (some ⟨b, 0, none⟩) (cutB c s).length cap) ∧ StrsAt w' b 0 (cutB c s) ∧ Below w.heap.size w w' := by
  obtain ⟨m, hm⟩ := hM
  refine (Tryd.strings_Split s ⟨#[c]⟩ m w (by omega) hm (Nat.le_refl 1)).mono ?_
  rintro e w' ⟨rfl, rfl⟩
  refine ⟨w.heap.size, Lib.countB s ⟨#[c]⟩ + 1, by rw [← cutB_len], fun j hj => ?_, bal (Below.refl _ _) _⟩
  rw [Nat.zero_add, World.cell?_alloc_at _ _ _ _ rfl, splitB_cut]
  simp [List.getElem?_eq_getElem hj]
theorem split_cap (s : ByteArray) (c : UInt8) (w : World) (hs : s.size ≤ 100000) (hM : MLok w) :
    Calls Tryd.prog 75 #[.string s, .string ⟨#[c]⟩] w fun e w' => ∃ b cap, e = .returned (.slice (some ⟨b, 0, none⟩) (cutB c s).length cap) ∧ StrsAt w' b 0 (cutB c s) ∧ Below w.heap.size w w' ∧ (cutB c s).length ≤ cap := by
  obtain ⟨m, hm⟩ := hM
  refine (Tryd.strings_Split s ⟨#[c]⟩ m w (by omega) hm (Nat.le_refl 1)).mono ?_
  rintro e w' ⟨rfl, rfl⟩
  refine ⟨w.heap.size, Lib.countB s ⟨#[c]⟩ + 1, by rw [← cutB_len], fun j hj => ?_, bal (Below.refl _ _) _, by rw [← cutB_len]; exact Nat.le_refl _⟩
  rw [Nat.zero_add, World.cell?_alloc_at _ _ _ _ rfl, splitB_cut]
  simp [List.getElem?_eq_getElem hj]
theorem is_empty {s : ByteArray} (h : s.size = 0) : s.toList.isEmpty = true := by
  rw [List.isEmpty_iff, ByteArray.toList_eq, ← List.length_eq_zero_iff]
  exact h
/-- A list of numbers as a slice; none has no memory. -/
def Lists (w : World) (v : Value) (l : List Int) : Prop := (v = .slice none 0 0 ∧ l = []) ∨ (l ≠ [] ∧ l.length ≤ 100000 ∧ ∃ b cap, v = .slice (some ⟨b, 0, none⟩) l.length cap ∧ IntsAt w b 0 l)
theorem Lists.below {w w' : World} {v : Value} {l : List Int} (h : Lists w v l) (hb : Below w.heap.size w w') : Lists w' v l := by
  rcases h with h | ⟨h1, h2, b, cap, h3, h4⟩
  · exact .inl h
  · exact .inr ⟨h1, h2, b, cap, h3, h4.below hb⟩
theorem Lists.far {w : World} {v : Value} {l : List Int} (h : Lists w v l) {B i : Nat} (hB : ∀ b, v.ownBlock = some b → B ≠ b) (u : Value) : Lists (w.setCell ⟨B, i, none⟩ u) v l := by
  rcases h with h | ⟨h1, h2, b, cap, h3, h4⟩
  · exact .inl h
  · exact .inr ⟨h1, h2, b, cap, h3, h4.far (hB b (by rw [h3]; rfl)) u⟩
theorem same_any (v v2 : Value) (l : List Int) (w : World) (h1 : Lists w v l) (h2 : Lists w v2 l) :
    Calls Tryd.prog 66 #[v, v2] w fun e w' => e = .returned (.bool true) ∧ Below w.heap.size w w' := by
  rcases h1 with ⟨rfl, rfl⟩ | ⟨a1, a2, b, cap, rfl, a3⟩
  · rcases h2 with ⟨rfl, _⟩ | ⟨c1, _⟩
    · exact same_nil w
    · exact absurd rfl c1
  · rcases h2 with ⟨_, c1⟩ | ⟨_, _, b2, cap2, rfl, c3⟩
    · exact absurd c1 a1
    · exact same_yes l b 0 cap b2 0 cap2 w a3 c3 a2
theorem first_no (f : ByteArray → Bool) (zs : List ByteArray) : ∃ m, m ≤ zs.length ∧ (∀ j (h : j < zs.length), j < m → f zs[j] = true) ∧ (∀ h : m < zs.length, f zs[m] = false) := by
  induction zs with
  | nil => exact ⟨0, by simp, fun j h => by simp at h, fun h => by simp at h⟩
  | cons q zs ih =>
    by_cases hq : f q = true
    · obtain ⟨m, h1, h2, h3⟩ := ih
      refine ⟨m + 1, by simpa using h1, fun j hj hjm => ?_, fun h => ?_⟩
      · cases j with
        | zero => exact hq
        | succ j => exact h2 j (by simpa using hj) (by omega)
      · exact h3 (by simpa using h)
    · exact ⟨0, by omega, fun j _ h => by omega, fun _ => by simpa using hq⟩
theorem cut_size (s : ByteArray) (h : s.size ≤ 4000) : (cutB 32 s).length ≤ 4001 := by
  have := cutL_len 32 s.data.toList
  rw [← size_list] at this
  simp only [cutB, List.length_map]
  omega
theorem nums_ne (s : ByteArray) : nums (cutB 32 s) ≠ [] := by
  unfold nums cutB
  simp [cutL_ne]
end Go.Proofs.YtfpkbfhaipgibaaDoor.Hex
