/- keyholdlaw.IsaSays, walked. -/
import Derived.Test.YtemlobepnfpalagDoorDecWalk
import Derived.Test.YtemlobepnfpalagDoorRefIns
import Derived.Test.YtemlobepnfpalagDoorTell
namespace Go.Proofs.YtemlobepnfpalagDoor.Isa
open Go.RowKit Go.Proofs.YtemlobepnfpalagDoor.Mem

theorem tdiv256 (x : Int) : (0 ≤ x → x.tdiv 256 = x / 256) ∧ (x < 0 → x.tdiv 256 = -((-x) / 256)) :=
  ⟨fun h => Int.tdiv_eq_ediv_of_nonneg h, fun h => by
    have e : x.tdiv 256 = -((-x).tdiv 256) := by rw [Int.neg_tdiv, Int.neg_neg]
    rw [e, Int.tdiv_eq_ediv_of_nonneg (by omega)]⟩
theorem tdiv16 (x : Int) : (0 ≤ x → x.tdiv 16 = x / 16) ∧ (x < 0 → x.tdiv 16 = -((-x) / 16)) :=
  ⟨fun h => Int.tdiv_eq_ediv_of_nonneg h, fun h => by
    have e : x.tdiv 16 = -((-x).tdiv 16) := by rw [Int.neg_tdiv, Int.neg_neg]
    rw [e, Int.tdiv_eq_ediv_of_nonneg (by omega)]⟩
theorem tdiv_fits (x : Int) (hx : -9223372036854775808 ≤ x ∧ x ≤ 9223372036854775807) : wrap64 (x.tdiv 256) = x.tdiv 256 ∧ wrap64 (x.tdiv 16) = x.tdiv 16 := by
  have a := tdiv256 x
  have b := tdiv16 x
  generalize x.tdiv 256 = p at *
  generalize x.tdiv 16 = q at *
  rw [wrap64, wrap64]
  rcases Int.lt_or_le x 0 with h | h
  · have := a.2 h; have := b.2 h; constructor <;> omega
  · have := a.1 h; have := b.1 h; constructor <;> omega
theorem dec_of_word {x y : Int} (hw : IP.word x y) : dO x = x / 256 ∧ dA x = x / 16 % 16 ∧ dB x = x % 16 ∧ dY y = IP.dI y := by
  obtain ⟨x0, x1, y0, y1⟩ := hw
  have f := tdiv_fits x (by omega)
  unfold dO dA dB dY IP.dI
  rw [f.1, f.2, (tdiv256 x).1 x0, (tdiv16 x).1 x0, Int.tmod_eq_emod_of_nonneg (by omega), Int.tmod_eq_emod_of_nonneg x0]
  refine ⟨rfl, rfl, rfl, ?_⟩
  split
  · rw [wrap64]; omega
  · rfl
theorem size_two (W : World) (a b : Addr) (v u : Value) : ((W.setCell a v).setCell b u).heap.size = W.heap.size := by simp [World.setCell]
end Go.Proofs.YtemlobepnfpalagDoor.Isa
