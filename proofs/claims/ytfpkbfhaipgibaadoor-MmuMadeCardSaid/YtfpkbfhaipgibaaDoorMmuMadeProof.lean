/- 'keyholdlaw.MmuMade' answers true for every list of raw numbers, every two numbers and every right: MmuSays holds for tables that are made of raw numbers. Condition: errors.errorType starts as the program's text lays it (the card ties it). -/
import Derived.Test.YtfpkbfhaipgibaaDoorMmuMade
import Derived.Test.YtfpkbfhaipgibaaDoorOpenEnts
import Derived.Test.YtfpkbfhaipgibaaDoorHandle
import Derived.Test.YtfpkbfhaipgibaaDoorOpenInts
import Derived.Test.YtfpkbfhaipgibaaDoorCards
import Derived.Test.YtfpkbfhaipgibaaDoorTie
import Derived.SevenTiedAt
import Derived.Lay
import Derived.OpenShut
import Derived.ChangeOld
import Derived.Below
namespace Go.Proofs.YtfpkbfhaipgibaaDoor
open Go.ChangeShapes Go.WideShapes Go.RowKit
namespace Mmu
open Go.Proofs.YtfpkbfhaipgibaaDoor.Nums Go.Proofs.YtfpkbfhaipgibaaDoor.Mem Go.Proofs.YtfpkbfhaipgibaaDoor.Bw
set_option maxRecDepth 100000 in
theorem mmuMade_far (u : Value) (rs : List Int) (a : Int) (wr : Bool) (n : Int) (w : World) (hu : RawIn w u rs) (hf : 256 < rs.length) (h1 : rs.length ≤ maxLen) :
    Calls Tryd.prog 5 #[u, .int .i64 a, .bool wr, .int .i64 n] w fun r w' => r = .returned (.bool true) ∧ Below w.heap.size w w' := by
  obtain ⟨q0, b0, f0, c0, rfl, -, -, -⟩ := hu
  have hf2 : (256 : Int) < (rs.length : Int) := by omega
  have h2 : (rs.length : Int) ≤ 9223372036854775807 := by
    have : rs.length ≤ 9223372036854775807 := h1
    omega
  clear hf h1
  go_enter Tryd.func5, Tryd.ntmps5
  go_wp2_with fail
  go_ret
  exact ⟨rfl, Below.refl _ _⟩
theorem mmuMade_any (u : Value) (rs : List Int) (a : Int) (wr : Bool) (n : Int) (w : World) (hu : RawIn w u rs) (h1 : rs.length ≤ maxLen) (hg : ETok w) (ha : -9223372036854775808 ≤ a ∧ a ≤ 9223372036854775807) (hn : -9223372036854775808 ≤ n ∧ n ≤ 9223372036854775807) :
    Calls Tryd.prog 5 #[u, .int .i64 a, .bool wr, .int .i64 n] w fun r w' => r = .returned (.bool true) ∧ Below w.heap.size w w' := by
  by_cases hf : 256 < rs.length
  · exact mmuMade_far u rs a wr n w hu hf h1
  · exact mmuMade_main u rs a wr n w hu hg (by omega) ha hn
end Mmu
theorem mmuMade_met (os : Os) (args : Array Value) : laidMetH Tryd.prog Rows.mmuMadeRow.laid (({ World.holding Tryd.prog os ⟨#[], #[], []⟩ with heap := (World.holding Tryd.prog os ⟨#[], #[], []⟩).heap.modify 2 fun | .cells _ t frozen => .cells #[.iface 195 (.agg #[.pointer (some ⟨9, 29, none⟩)])] t frozen | o => o } : World).forCall (fun _ _ => 0) ⟨#[], args, []⟩).memory :=
  laidMetH_of_parts (laidMet_nil _ _) (by kernel_rfl)
set_option maxRecDepth 100000 in
theorem mmuMade_lifted (os : Os) (started : os.Started) (H : Type) (enc : TypeId × Value → H) :
    ReturnsInHanded {} Tryd.checked os 5 .any (fun w args => (Rows.mmuMadeSpec.pre enc Tryd.prog Tryd.f5 [] false w args ∧ laidMetH Tryd.prog Rows.mmuMadeRow.laid w) ∧ sizedMet enc Tryd.prog Tryd.f5 (OpenSpec.ofChange Rows.mmuMadeSpec) false w args)
      (Rows.mmuMadeSpec.post enc Tryd.prog Tryd.f5 false true false false) := by
  refine returnsInHanded_of_change_and (C := Tryd.checked) (X := fun w _ => laidMetH Tryd.prog Rows.mmuMadeRow.laid w) (fun _ _ _ hh h => h.of_heap hh) own started (by kernel_rfl) Tryd.func5
    (ChangeSpec.witness_at (enc := enc) (C := Tryd.checked) (os := os) (X := fun w _ => laidMetH Tryd.prog Rows.mmuMadeRow.laid w) false ({ World.holding Tryd.prog os ⟨#[], #[], []⟩ with heap := (World.holding Tryd.prog os ⟨#[], #[], []⟩).heap.modify 2 fun | .cells _ t frozen => .cells #[.iface 195 (.agg #[.pointer (some ⟨9, 29, none⟩)])] t frozen | o => o } : World) #[.slice none 0 0, .int .i64 0, .bool false, .int .i64 0] 8 rfl (by kernel_rfl) (by kernel_rfl) (by kernel_rfl) (by kernel_rfl) (by kernel_rfl) (mmuMade_met os _)) ?_
  intro W base args ds gs before hval0 hW _ _ hL _
  have hval : ∀ (j : Nat) t v, Tryd.f5.params[j]? = some t → args[j]? = some v → Value.okWide Tryd.prog W .any base t v := hval0
  have hW' := hW
  obtain ⟨p, q, hA0, hV0, rfl, hfz, hnd⟩ := hW
  have hA : DataW.TrodAll enc Tryd.prog W 0 (fun _ => true) true Tryd.f5.params.toList args.toList ds p := hA0
  rw [Tryd.params5] at hA hval
  obtain ⟨v0, v1, v2, v3, d0, d1, d2, d3, p0, p1, p2, p3, rfl, rfl, rfl, h0, h1, h2, h3⟩ := trodAll_four hA
  have hL2 : laidMet Tryd.prog [] W ∧ handlesMet Tryd.prog [("errors.errorType", Rows.laid_errors_errorType)] W := hL
  have hg := handle_of hL2.2
  obtain ⟨rfl, rfl⟩ := trodVars_none hV0
  have lt0 : ∀ x ∈ p0, x.block < W.heap.size := by obtain ⟨m, hm⟩ := h0; exact DataW.trod_lt m _ _ _ hm
  have lt1 : ∀ x ∈ p1, x.block < W.heap.size := by obtain ⟨m, hm⟩ := h1; exact DataW.trod_lt m _ _ _ hm
  have lt2 : ∀ x ∈ p2, x.block < W.heap.size := by obtain ⟨m, hm⟩ := h2; exact DataW.trod_lt m _ _ _ hm
  have lt3 : ∀ x ∈ p3, x.block < W.heap.size := by obtain ⟨m, hm⟩ := h3; exact DataW.trod_lt m _ _ _ hm
  obtain ⟨a, rfl, ha⟩ := val_int Tryd.underlying3 (hval 1 3 v1 rfl rfl)
  obtain ⟨wr, rfl⟩ := Mmu.val_bool Tryd.underlying4 (hval 2 4 v2 rfl rfl)
  obtain ⟨n, rfl, hn⟩ := val_int Tryd.underlying3 (hval 3 3 v3 rfl rfl)
  obtain ⟨rs, hu, hul⟩ := Nums.open_raw (hval 0 36 v0 rfl rfl) h0
  clear hA0 hval0
  refine (Mmu.mmuMade_any v0 rs a wr n W hu hul hg (has_i64 ha) (has_i64 hn)).mono fun e W' ⟨he, bel⟩ => ?_
  subst he
  exact ⟨_, rfl, _, _, _, [], _, [], hW', trodAll_mk1 (shut_bool Tryd.underlying4 true), trodAll_mk4 (Below.trod laidOut (by kernel_rfl) (of_decide_eq_true (by kernel_rfl)) h0 bel lt0) (Below.trod laidOut (by kernel_rfl) (of_decide_eq_true (by kernel_rfl)) h1 bel lt1) (Below.trod laidOut (by kernel_rfl) (of_decide_eq_true (by kernel_rfl)) h2 bel lt2) (Below.trod laidOut (by kernel_rfl) (of_decide_eq_true (by kernel_rfl)) h3 bel lt3), rfl, bel.frame _, fun h => by cases h⟩
theorem mmuMade_row : Rows.MmuMadeSaid :=
  OpenClaim.holds_of_wide 5 Tryd.f5 rfl rfl rfl rfl rfl rfl rfl ⟨rfl, rfl, rfl, rfl, rfl⟩ rfl rfl rfl rfl rfl (by kernel_rfl) Tryd.func5 (by kernel_rfl)
    (of_decide_eq_true (by kernel_rfl)) (by unfold Func.isWrapper; rw [if_neg (of_decide_eq_false (by kernel_rfl))]; exact ⟨rfl, rfl⟩)
    (fun os started H enc _ => mmuMade_lifted os started H enc)
theorem mmuMade_card : Rows.MmuMadeCardSaid :=
  Claim7.holds_tied_plain_at .later [] [.handle] true Rows.mmuMadeCard.stood.harness true
    mmuMade_row (fun _ h => by cases h) (by kernel_rfl) (fun _ h => by cases h) mmuMade_row_tie rfl ⟨rfl, rfl⟩ (by kernel_rfl) rfl
    (fun f fn hf hfn => by
      obtain rfl : f = 5 := Option.some.inj ((show Tryd.prog.funcNamed "keyhold/keyholdlaw.MmuMade" = some 5 by kernel_rfl).symm.trans hf) |>.symm
      obtain rfl : fn = Tryd.f5 := (Option.some.inj (Tryd.func5.symm.trans hfn)).symm
      exact ⟨by kernel_rfl, fun j t ht => by
        rw [Tryd.params5] at ht
        have hj : t = 36 ∨ t = 3 ∨ t = 4 := by
          match j, ht with
          | 0, ht => exact (Or.inl (by simpa using ht.symm))
          | 1, ht => exact (Or.inr (Or.inl (by simpa using ht.symm)))
          | 2, ht => exact (Or.inr (Or.inr (by simpa using ht.symm)))
          | 3, ht => exact (Or.inr (Or.inl (by simpa using ht.symm)))
          | j + 4, ht => simp at ht
        rcases hj with rfl | rfl | rfl
        · exact (show Tryd.prog.wantsStandIn 36 = false by kernel_rfl)
        · exact (show Tryd.prog.wantsStandIn 3 = false by kernel_rfl)
        · exact (show Tryd.prog.wantsStandIn 4 = false by kernel_rfl)⟩)
    (by kernel_rfl)
#print axioms mmuMade_card
end Go.Proofs.YtfpkbfhaipgibaaDoor
