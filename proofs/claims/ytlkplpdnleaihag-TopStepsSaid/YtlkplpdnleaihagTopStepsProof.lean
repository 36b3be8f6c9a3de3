/- 'keyholdtop.TopSteps' answers true for every two lists of raw numbers and every two numbers: what can't be fetched changes nothing, and an instruction of registers alone changes at most register A and where it goes on. No condition. -/
import Derived.Test.YtlkplpdnleaihagRows
import Derived.Test.YtlkplpdnleaihagTopSteps
import Derived.Test.YtlkplpdnleaihagOpenRaw
import Derived.ChangeOld
import Derived.Below
import Derived.Carry
import Derived.SizedLaws
namespace Go.Proofs.Ytlkplpdnleaihag
open Go.ChangeShapes Go.WideShapes Go.ChangeAt Go.RowKit

theorem own : ownKnob Try.prog.godebug = none := by kernel_rfl
theorem laidOut : laidOutB Try.prog = true := by kernel_rfl
theorem bytesI : Try.prog.bytesOf 3 = 8 := by kernel_rfl
namespace Cpu
open Go.Proofs.Ytlkplpdnleaihag.Nums
theorem topSteps_far (v u : Value) (zs rs : List Int) (i pc : Int) (w : World) (hv : RawIn w v zs) (hu : RawIn w u rs) (hl : 256 < zs.length + rs.length) (h1 : zs.length ≤ 1000000000000000) (h2 : rs.length ≤ 1000000000000000) :
    Calls Try.prog 4 #[v, .int .i64 i, u, .int .i64 pc] w fun e w' => e = .returned (.bool true) ∧ Below w.heap.size w w' := by
  obtain ⟨q0, vb, voff, vcap, rfl, -, -, -⟩ := hv
  obtain ⟨q1, ub, uoff, ucap, rfl, -, -, -⟩ := hu
  have hl2 : (256 : Int) < (zs.length : Int) + (rs.length : Int) := by omega
  have k1 : (zs.length : Int) ≤ 1000000000000000 := by omega
  have k2 : (rs.length : Int) ≤ 1000000000000000 := by omega
  go_enter Try.func4, Try.ntmps4
  go_wp2_with fail
  go_ret
  exact ⟨rfl, Below.refl _ _⟩
end Cpu
set_option maxRecDepth 100000 in
theorem lifted (os : Os) (started : os.Started) (H : Type) (enc : TypeId × Value → H) :
    ReturnsInHanded {} Try.checked os 4 .any (Rows.topStepsSpec.pre6 enc Try.prog Try.f4 Rows.topStepsRow.domain false) (Rows.topStepsSpec.post enc Try.prog Try.f4 false true false false) := by
  refine returnsInHanded_of_change_sized (C := Try.checked) own started (by kernel_rfl) Try.func4
    (ChangeSpec.witness6 (enc := enc) (C := Try.checked) false ⟨#[], #[.slice none 0 0, .int .i64 0, .slice none 0 0, .int .i64 0], []⟩ 8 (by kernel_rfl) (by kernel_rfl) (by kernel_rfl) (by kernel_rfl)) ?_
  intro W base args ds gs before hval0 hW hcnd hsz0 _
  have hsz : (DataW.weightsEach Try.prog (Try.f4.params.toList ++ Rows.topStepsSpec.plain.varTypes Try.prog) (ds ++ gs)).all (· ≤ reachBytes) = true := hsz0
  clear hsz0
  have hval : ∀ (j : Nat) t v, Try.f4.params[j]? = some t → args[j]? = some v → Value.okWide Try.prog W .any base t v := hval0
  have hW' := hW
  obtain ⟨p, q, hA0, hV, rfl, hfz, hnd⟩ := hW
  have hA : DataW.TrodAll enc Try.prog W 0 (fun _ => true) true Try.f4.params.toList args.toList ds p := hA0
  rw [Try.params4] at hA hval hsz
  obtain ⟨v0, v1, v2, v3, d0, d1, d2, d3, p0, p1, p2, p3, rfl, rfl, rfl, h0, h1, h2, h3⟩ := trodAll_four hA
  obtain ⟨rfl, rfl⟩ := trodVars_none hV
  have lt0 : ∀ x ∈ p0, x.block < W.heap.size := by obtain ⟨m, hm⟩ := h0; exact DataW.trod_lt m _ _ _ hm
  have lt1 : ∀ x ∈ p1, x.block < W.heap.size := by obtain ⟨m, hm⟩ := h1; exact DataW.trod_lt m _ _ _ hm
  have lt2 : ∀ x ∈ p2, x.block < W.heap.size := by obtain ⟨m, hm⟩ := h2; exact DataW.trod_lt m _ _ _ hm
  have lt3 : ∀ x ∈ p3, x.block < W.heap.size := by obtain ⟨m, hm⟩ := h3; exact DataW.trod_lt m _ _ _ hm
  obtain ⟨i, rfl, hi⟩ := val_int Try.underlying3 (hval 1 3 v1 rfl rfl)
  obtain ⟨pc, rfl, hpc⟩ := val_int Try.underlying3 (hval 3 3 v3 rfl rfl)
  obtain ⟨zs, hz, _, hzd⟩ := Nums.open_rawD (hval 0 32 v0 rfl rfl) h0
  obtain ⟨rs, hr, _, hrd⟩ := Nums.open_rawD (hval 2 32 v2 rfl rfl) h2
  have bz : zs.length ≤ 1000000000000000 := by
    rcases hzd with rfl | ⟨es, sp, rfl, he⟩
    · simp
    · have := sized_slice hsz (j := 0) (t := 32) (e := 3) rfl rfl Try.underlying32
      rw [bytesI] at this
      unfold reachBytes at this
      omega
  have br : rs.length ≤ 1000000000000000 := by
    rcases hrd with rfl | ⟨es, sp, rfl, he⟩
    · simp
    · have := sized_slice hsz (j := 2) (t := 32) (e := 3) rfl rfl Try.underlying32
      rw [bytesI] at this
      unfold reachBytes at this
      omega
  clear hA0 hval0
  have hc : Calls Try.prog 4 #[v0, .int .i64 i, v2, .int .i64 pc] W fun e w' => e = .returned (.bool true) ∧ Below W.heap.size W w' := by
    by_cases hl : zs.length + rs.length ≤ 256
    · exact Cpu.topSteps_main v0 v2 zs rs i pc W hz hr hl (has_i64 hi) (has_i64 hpc)
    · exact Cpu.topSteps_far v0 v2 zs rs i pc W hz hr (by omega) bz br
  refine hc.mono fun e W' ⟨he, bel⟩ => ?_
  subst he
  exact ⟨_, rfl, _, _, _, [], _, [], hW', trodAll_mk1 (shut_bool Try.underlying4 _), trodAll_mk4 (Below.trod laidOut (by kernel_rfl) (of_decide_eq_true (by kernel_rfl)) h0 bel lt0) (Below.trod laidOut (by kernel_rfl) (of_decide_eq_true (by kernel_rfl)) h1 bel lt1) (Below.trod laidOut (by kernel_rfl) (of_decide_eq_true (by kernel_rfl)) h2 bel lt2) (Below.trod laidOut (by kernel_rfl) (of_decide_eq_true (by kernel_rfl)) h3 bel lt3), rfl, bel.frame _, fun h => by cases h⟩

theorem topSteps_holds : Rows.TopStepsSaid :=
  OpenClaim.holds_of_wide 4 Try.f4 rfl rfl rfl rfl rfl rfl rfl ⟨rfl, rfl, rfl, rfl, rfl⟩ rfl rfl rfl rfl rfl (by kernel_rfl) Try.func4 (by kernel_rfl)
    (of_decide_eq_true (by kernel_rfl)) (by unfold Func.isWrapper; rw [if_neg (of_decide_eq_false (by kernel_rfl))]; exact ⟨rfl, rfl⟩)
    (fun os started H enc _ => lifted os started H enc)
#print axioms topSteps_holds
end Go.Proofs.Ytlkplpdnleaihag
