/- keyholdlaw.WordTexts, walked. -/
import Derived.Test.YtemlobepnfpalagDoorUnhexWalk
import Derived.Test.YtemlobepnfpalagDoorHexWalk
namespace Go.Proofs.YtemlobepnfpalagDoor.Hex
open Go.RowKit Go.Proofs.YtemlobepnfpalagDoor.Mem Go.Proofs.YtemlobepnfpalagDoor.Isa Go.Proofs.YtemlobepnfpalagDoor.Txt

theorem first_far (zs : List Int) : ∃ m, m ≤ zs.length ∧ (∀ j (h : j < zs.length), j < m → okW zs[j]) ∧ (∀ h : m < zs.length, ¬ okW zs[m]) := by
  induction zs with
  | nil => exact ⟨0, by simp, fun j h => by simp at h, fun h => by simp at h⟩
  | cons q zs ih =>
    by_cases hq : okW q
    · obtain ⟨m, h1, h2, h3⟩ := ih
      refine ⟨m + 1, by simpa using h1, fun j hj hjm => ?_, fun h => ?_⟩
      · cases j with
        | zero => exact hq
        | succ j => exact h2 j (by simpa using hj) (by omega)
      · exact h3 (by simpa using h)
    · exact ⟨0, by omega, fun j _ h => by omega, fun _ => hq⟩
end Go.Proofs.YtemlobepnfpalagDoor.Hex
