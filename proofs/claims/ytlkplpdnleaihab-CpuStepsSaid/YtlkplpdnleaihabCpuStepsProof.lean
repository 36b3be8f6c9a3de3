/- 'keyholdlaw.CpuSteps' answers true for every eight registers, place, list of numbers and lowest address: one instruction of cpu.Step does what the document's answer does. No condition. -/
import Derived.Test.YtlkplpdnleaihabRows
import Derived.Test.YtlkplpdnleaihabCpuSteps
import Derived.Test.YtlkplpdnleaihabOpenRaw
import Derived.ChangeOld
import Derived.Below
import Derived.Carry
namespace Go.Proofs.Ytlkplpdnleaihab
open Go.ChangeShapes Go.WideShapes Go.ChangeAt Go.RowKit

theorem own : ownKnob Try.prog.godebug = none := by kernel_rfl
theorem laidOut : laidOutB Try.prog = true := by kernel_rfl
theorem arrCells : Try.prog.cellsOf 22 = 8 := by kernel_rfl
theorem arrTypes : Try.prog.cellTypes Try.prog.depth 22 = some (List.replicate 8 3) := by kernel_rfl
namespace Cpu
open Go.Proofs.Ytlkplpdnleaihab.Nums
theorem cpuSteps_far (a : Array Value) (pc low : Int) (v : Value) (zs : List Int) (w : World) (hv : RawIn w v zs) (hl : 1000 < zs.length) (hm : zs.length ≤ maxLen) :
    Calls Try.prog 3 #[.agg a, .int .i64 pc, v, .int .i64 low] w fun e w' => e = .returned (.bool true) ∧ Below w.heap.size w w' := by
  obtain ⟨q, b, off, cap, rfl, -, -, -⟩ := hv
  unfold maxLen at hm
  have hl2 : (1000 : Int) < (zs.length : Int) := by omega
  go_enter Try.func3, Try.ntmps3
  go_wp2_with fail
  go_ret
  exact ⟨rfl, Mem.bal (Below.refl _ _) _⟩
end Cpu
set_option maxRecDepth 100000 in
theorem lifted (os : Os) (started : os.Started) (H : Type) (enc : TypeId × Value → H) :
    ReturnsInHanded {} Try.checked os 3 .any (Rows.cpuStepsSpec.pre6 enc Try.prog Try.f3 Rows.cpuStepsRow.domain false) (Rows.cpuStepsSpec.post enc Try.prog Try.f3 false true false false) := by
  refine returnsInHanded_of_change (C := Try.checked) own started (by kernel_rfl) Try.func3
    (ChangeSpec.witness6 (enc := enc) (C := Try.checked) false ⟨#[], #[.agg #[.int .i64 0, .int .i64 0, .int .i64 0, .int .i64 0, .int .i64 0, .int .i64 0, .int .i64 0, .int .i64 0], .int .i64 0, .slice none 0 0, .int .i64 0], []⟩ 8 (by kernel_rfl) (by kernel_rfl) (by kernel_rfl) (by kernel_rfl)) ?_
  intro W base args ds gs before hval0 hW hcnd _
  have hval : ∀ (j : Nat) t v, Try.f3.params[j]? = some t → args[j]? = some v → Value.okWide Try.prog W .any base t v := hval0
  have hW' := hW
  obtain ⟨p, q, hA0, hV, rfl, hfz, hnd⟩ := hW
  have hA : DataW.TrodAll enc Try.prog W 0 (fun _ => true) true Try.f3.params.toList args.toList ds p := hA0
  rw [Try.params3] at hA hval
  obtain ⟨v0, v1, v2, v3, d0, d1, d2, d3, p0, p1, p2, p3, rfl, rfl, rfl, h0, h1, h2, h3⟩ := trodAll_four hA
  obtain ⟨rfl, rfl⟩ := trodVars_none hV
  have lt0 : ∀ x ∈ p0, x.block < W.heap.size := by obtain ⟨m, hm⟩ := h0; exact DataW.trod_lt m _ _ _ hm
  have lt1 : ∀ x ∈ p1, x.block < W.heap.size := by obtain ⟨m, hm⟩ := h1; exact DataW.trod_lt m _ _ _ hm
  have lt2 : ∀ x ∈ p2, x.block < W.heap.size := by obtain ⟨m, hm⟩ := h2; exact DataW.trod_lt m _ _ _ hm
  have lt3 : ∀ x ∈ p3, x.block < W.heap.size := by obtain ⟨m, hm⟩ := h3; exact DataW.trod_lt m _ _ _ hm
  obtain ⟨f, rfl, hf⟩ := Nums.arr8_open Try.underlying22 arrCells arrTypes Try.underlying3 (hval 0 22 v0 rfl rfl)
  obtain ⟨pc, rfl, hpc⟩ := val_int Try.underlying3 (hval 1 3 v1 rfl rfl)
  obtain ⟨low, rfl, hlow⟩ := val_int Try.underlying3 (hval 3 3 v3 rfl rfl)
  obtain ⟨zs, hz, hm⟩ := Nums.open_raw (hval 2 23 v2 rfl rfl) h2
  clear hA0 hval0
  have hc : Calls Try.prog 3 #[.agg #[.int .i64 (f 0), .int .i64 (f 1), .int .i64 (f 2), .int .i64 (f 3), .int .i64 (f 4), .int .i64 (f 5), .int .i64 (f 6), .int .i64 (f 7)], .int .i64 pc, v2, .int .i64 low] W fun e w' => e = .returned (.bool true) ∧ Below W.heap.size W w' := by
    by_cases hl : zs.length ≤ 1000
    · exact Cpu.cpuSteps_main f pc low v2 zs W hz hl (fun k hk => has_i64 (hf k hk)) (has_i64 hpc) (has_i64 hlow)
    · exact Cpu.cpuSteps_far _ pc low v2 zs W hz (by omega) hm
  refine hc.mono fun e W' ⟨he, bel⟩ => ?_
  subst he
  exact ⟨_, rfl, _, _, _, [], _, [], hW', trodAll_mk1 (shut_bool Try.underlying4 _), trodAll_mk4 (Below.trod laidOut (by kernel_rfl) (of_decide_eq_true (by kernel_rfl)) h0 bel lt0) (Below.trod laidOut (by kernel_rfl) (of_decide_eq_true (by kernel_rfl)) h1 bel lt1) (Below.trod laidOut (by kernel_rfl) (of_decide_eq_true (by kernel_rfl)) h2 bel lt2) (Below.trod laidOut (by kernel_rfl) (of_decide_eq_true (by kernel_rfl)) h3 bel lt3), rfl, bel.frame _, fun h => by cases h⟩

theorem cpuSteps_holds : Rows.CpuStepsSaid :=
  OpenClaim.holds_of_wide 3 Try.f3 rfl rfl rfl rfl rfl rfl rfl ⟨rfl, rfl, rfl, rfl, rfl⟩ rfl rfl rfl rfl rfl (by kernel_rfl) Try.func3 (by kernel_rfl)
    (of_decide_eq_true (by kernel_rfl)) (by unfold Func.isWrapper; rw [if_neg (of_decide_eq_false (by kernel_rfl))]; exact ⟨rfl, rfl⟩)
    (fun os started H enc _ => lifted os started H enc)
#print axioms cpuSteps_holds
end Go.Proofs.Ytlkplpdnleaihab
