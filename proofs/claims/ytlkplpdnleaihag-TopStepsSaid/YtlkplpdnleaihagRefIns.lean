/- keyholdref.CodeOf and keyholdref.InsOf, walked. -/
import Derived.Test.YtlkplpdnleaihagRefIsa
import Derived.Deep.RegionWith
namespace Go.Proofs.Ytlkplpdnleaihag.Isa
open Go.RowKit Go.Proofs.Ytlkplpdnleaihag.Mem

theorem cells_drew {W : World} {C : Nat} {arr : Array Value} (h : ∀ o, W.cell? ⟨C, o, none⟩ = arr[o]?) : ∀ o, W.drew.cell? ⟨C, o, none⟩ = arr[o]? := h
set_option maxHeartbeats 400000 in
theorem codeOf_ok (o a b i : Int) (w : World) (h : IP.may o a b i = 0) :
    Calls Try.prog 12 #[.agg #[.int .i64 o, .int .i64 a, .int .i64 b, .int .i64 i]] w
      fun e w' => e = .returned (.agg #[.int .i64 (IP.c0 o a b), .int .i64 (IP.c1 i)]) ∧ Below w.heap.size w w' := by
  obtain ⟨o0, o1, a0, a1, b0, b1, i0, i1⟩ := IP.may_zero h
  clear h
  by_cases hi : i < 0
  · rw [show IP.c1 i = i + 65536 from by unfold IP.c1; rw [if_pos hi]]
    go_enter Try.func12, Try.ntmps12
    go_wp2
    exact bodyPost_ret (v := .agg #[.int .i64 (o * 256 + a * 16 + b), .int .i64 (i + 65536)]) (by simp [results, Try.results12, go_sem]) rfl ⟨rfl, bal (bal (Below.refl _ _) _) _⟩
  · rw [show IP.c1 i = i from by unfold IP.c1; rw [if_neg hi]]
    go_enter Try.func12, Try.ntmps12
    go_wp2
    exact bodyPost_ret (v := .agg #[.int .i64 (o * 256 + a * 16 + b), .int .i64 i]) (by simp [results, Try.results12, go_sem]) rfl ⟨rfl, bal (bal (Below.refl _ _) _) _⟩
end Go.Proofs.Ytlkplpdnleaihag.Isa
