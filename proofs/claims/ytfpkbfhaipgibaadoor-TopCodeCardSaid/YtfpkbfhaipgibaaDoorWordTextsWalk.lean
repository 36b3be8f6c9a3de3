/- keyholdlaw.WordTexts, walked. -/
import Derived.Test.YtfpkbfhaipgibaaDoorUnhexWalk
import Derived.Test.YtfpkbfhaipgibaaDoorHexWalk
namespace Go.Proofs.YtfpkbfhaipgibaaDoor.Hex
open Go.RowKit Go.Proofs.YtfpkbfhaipgibaaDoor.Mem Go.Proofs.YtfpkbfhaipgibaaDoor.Isa Go.Proofs.YtfpkbfhaipgibaaDoor.Txt

/-- What the law's road reads of the library's variables. -/
structure WW (w : World) : Prop where
  et : ETok w
  ml : MLok w
theorem WW.below {w w' : World} (h : WW w) (hb : Below w.heap.size w w') : WW w' := ⟨h.et.below hb, h.ml.below hb⟩
theorem first_far (zs : List Int) : ∃ m, m ≤ zs.length ∧ (∀ j (h : j < zs.length), j < m → okW zs[j]) ∧ (∀ h : m < zs.length, ¬ okW zs[m]) := by
  induction zs with
  | nil => exact ⟨0, by simp, fun j h => by simp at h, fun h => by simp at h⟩
  | cons q zs ih =>
    by_cases hq : okW q
    · obtain ⟨m, h1, h2, h3⟩ := ih
      refine ⟨m + 1, by simpa using h1, fun j hj hjm => ?_, fun h => ?_⟩
      · cases j with
        | zero => exact hq
        | succ j => exact h2 j (by simpa using hj) (by omega)
      · exact h3 (by simpa using h)
    · exact ⟨0, by omega, fun j _ h => by omega, fun _ => hq⟩
end Go.Proofs.YtfpkbfhaipgibaaDoor.Hex
