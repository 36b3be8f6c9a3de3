/- keyholdlaw.IsaTexts, walked. -/
import Derived.Test.YtfpkbfhaipgibaaDoorCodeText
import Derived.Test.YtfpkbfhaipgibaaDoorIsaSaysWalk
namespace Go.Proofs.YtfpkbfhaipgibaaDoor.Txt
open Go.RowKit Go.Proofs.YtfpkbfhaipgibaaDoor.Mem Go.Proofs.YtfpkbfhaipgibaaDoor.Isa

theorem fine_any (w : World) :
    Calls Tryd.prog 40 #[] w fun e w' => e = .returned (.agg #[.int .i64 0, .int .i64 (-1)]) ∧ Below w.heap.size w w' := by
  go_enter Tryd.func40, Tryd.ntmps40
  go_wp2
  refine bodyPost_ret (v := .agg #[.int .i64 0, .int .i64 (-1)]) (by simp [results, Tryd.results40, go_sem]) rfl ⟨rfl, ?_⟩
  exact bal (Below.refl _ _) _
/-- The first instruction that may not be, or none. -/
theorem first_bad (zs : List (Int × Int × Int × Int)) : ∃ m, m ≤ zs.length ∧ (∀ j (h : j < zs.length), j < m → mayQ zs[j] = 0) ∧ (∀ h : m < zs.length, mayQ zs[m] ≠ 0) := by
  induction zs with
  | nil => exact ⟨0, by simp, fun j h => by simp at h, fun h => by simp at h⟩
  | cons q zs ih =>
    by_cases hq : mayQ q = 0
    · obtain ⟨m, h1, h2, h3⟩ := ih
      refine ⟨m + 1, by simpa using h1, fun j hj hjm => ?_, fun h => ?_⟩
      · cases j with
        | zero => exact hq
        | succ j => exact h2 j (by simpa using hj) (by omega)
      · exact h3 (by simpa using h)
    · exact ⟨0, by omega, fun j _ h => by omega, fun _ => hq⟩
theorem text_long (n b off cap : Nat) (w : World) (h : 40 < n) :
    Calls Tryd.prog 33 #[.slice (some ⟨b, off, none⟩) n cap] w fun e w' => e = .returned (.tuple #[.string ⟨#[]⟩, .iface 23 (.int .i64 2)]) ∧ Below w.heap.size w w' := by
  go_enter Tryd.func33, Tryd.ntmps33
  go_wp2_with fail
  go_ret2
  exact ⟨rfl, Below.refl _ _⟩
theorem text_nil (w : World) :
    Calls Tryd.prog 33 #[.slice none 0 0] w fun e w' => e = .returned (.tuple #[.string ⟨#[]⟩, .nilIface]) ∧ Below w.heap.size w w' := by
  go_enter Tryd.func33, Tryd.ntmps33
  go_wp2_with fail
  refine wp_loop_rounds 1 ?_
  rw [rounds_succ]
  go_wp2_with fail
  refine (Tryd.Builder_String_any w.heap.size w.heap.size [] _ (Lib.fresh_isBuilder _ _ _) (by simp)).mono ?_
  rintro e w1 ⟨rfl, hb1⟩
  go_wp2_with fail
  go_ret2
  exact ⟨rfl, (bal (Below.refl _ _) _).trans hb1⟩
theorem size_one (W : World) (a : Addr) (v : Value) : (W.setCell a v).heap.size = W.heap.size := by simp [World.setCell]
theorem below_set2 {w W : World} {D : Nat} {v u : Value} (h : Below w.heap.size w W) (hD : w.heap.size ≤ D) : Below w.heap.size w ((W.setCell ⟨D, 0, none⟩ v).setCell ⟨D, 1, none⟩ u) :=
  bset (bset h hD v) hD u
end Go.Proofs.YtfpkbfhaipgibaaDoor.Txt
