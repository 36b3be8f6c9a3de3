/- 'keyholdlaw.WorldSays' answers true for every world: the first thing that is not sound is told as E3 to E9 say. Condition: errors.errorType starts as the program's text lays it (the card ties it). -/
import Derived.Test.YtojomhigdliipaaGreatDoorGMayMore
import Derived.Test.YtojomhigdliipaaGreatDoorGSl
import Derived.Test.YtojomhigdliipaaGreatDoorGOpenW
import Derived.Test.YtojomhigdliipaaGreatDoorHandle
import Derived.Test.YtojomhigdliipaaGreatDoorOpenInts
import Derived.Test.YtojomhigdliipaaGreatDoorCards
import Derived.Test.YtojomhigdliipaaGreatDoorTie
import Derived.SevenTiedAt
import Derived.Lay
import Derived.OpenShut
import Derived.ChangeOld
import Derived.Below
namespace Go.Proofs.YtojomhigdliipaaGreatDoor
open Go.ChangeShapes Go.WideShapes Go.RowKit
theorem worldSays_met (os : Os) (args : Array Value) : laidMetH Tryz.prog Rows.worldSaysRow.laid (({ World.holding Tryz.prog os ⟨#[], #[], []⟩ with heap := (World.holding Tryz.prog os ⟨#[], #[], []⟩).heap.modify 0 fun | .cells _ t frozen => .cells #[.iface 170 (.agg #[.pointer (some ⟨1, 32, none⟩)])] t frozen | o => o } : World).forCall (fun _ _ => 0) ⟨#[], args, []⟩).memory :=
 laidMetH_of_parts (laidMet_nil _ _) (by kernel_rfl)
set_option maxRecDepth 100000 in
theorem worldSays_lifted (os : Os) (started : os.Started) (H : Type) (enc : TypeId × Value → H) :
  ReturnsInHanded {} Tryz.checked os 3 .any (fun w args => (Rows.worldSaysSpec.pre enc Tryz.prog Tryz.f3 [] false w args ∧ laidMetH Tryz.prog Rows.worldSaysRow.laid w) ∧ sizedMet enc Tryz.prog Tryz.f3 (OpenSpec.ofChange Rows.worldSaysSpec) false w args)
   (Rows.worldSaysSpec.post enc Tryz.prog Tryz.f3 false true false false) := by
 refine returnsInHanded_of_change_and (C := Tryz.checked) (X := fun w _ => laidMetH Tryz.prog Rows.worldSaysRow.laid w) (fun _ _ _ hh h => h.of_heap hh) own started (by kernel_rfl) Tryz.func3
  (ChangeSpec.witness_at (enc := enc) (C := Tryz.checked) (os := os) (X := fun w _ => laidMetH Tryz.prog Rows.worldSaysRow.laid w) false ({ World.holding Tryz.prog os ⟨#[], #[], []⟩ with heap := (World.holding Tryz.prog os ⟨#[], #[], []⟩).heap.modify 0 fun | .cells _ t frozen => .cells #[.iface 170 (.agg #[.pointer (some ⟨1, 32, none⟩)])] t frozen | o => o } : World) #[.agg #[.slice none 0 0, .slice none 0 0, .slice none 0 0, .slice none 0 0, .slice none 0 0, .slice none 0 0, .slice none 0 0, .slice none 0 0, .slice none 0 0, .slice none 0 0, .int .i64 0]] 8 rfl (by kernel_rfl) (by kernel_rfl) (by kernel_rfl) (by kernel_rfl) (by kernel_rfl) (worldSays_met os _)) ?_
 intro W base args ds gs before hval0 hW _ _ hL _
 have hval : ∀ (j : Nat) t v, Tryz.f3.params[j]? = some t → args[j]? = some v → Value.okWide Tryz.prog W .any base t v := hval0
 have hW' := hW
 obtain ⟨p, q, hA0, hV0, rfl, hfz, hnd⟩ := hW
 have hA : DataW.TrodAll enc Tryz.prog W 0 (fun _ => true) true Tryz.f3.params.toList args.toList ds p := hA0
 rw [Tryz.params3] at hA hval
 obtain ⟨v0, d0, rfl, rfl, h0⟩ := trodAll_one hA
 have hL2 : laidMet Tryz.prog [] W ∧ handlesMet Tryz.prog [("errors.errorType", Rows.laid_errors_errorType)] W := hL
 have hg := handle_of hL2.2
 obtain ⟨rfl, rfl⟩ := trodVars_none hV0
 have lt0 : ∀ x ∈ p, x.block < W.heap.size := by obtain ⟨m, hm⟩ := h0; exact DataW.trod_lt m _ _ _ hm
 obtain ⟨wV, wP, rfl, hw⟩ := Wd.open_world (hval 0 28 v0 rfl rfl) h0
 clear hA0 hval0
 refine (Wd.worldSays_any wV wP W hw hg).mono fun e W' ⟨he, bel⟩ => ?_
 subst he
 exact ⟨_, rfl, _, _, _, [], _, [], hW', trodAll_mk1 (shut_bool Tryz.underlying4 true), trodAll_mk1 (Below.trod laidOut (by kernel_rfl) (of_decide_eq_true (by kernel_rfl)) h0 bel lt0), rfl, bel.frame _, fun h => by cases h⟩
theorem worldSays_row : Rows.WorldSaysSaid :=
 OpenClaim.holds_of_wide 3 Tryz.f3 rfl rfl rfl rfl rfl rfl rfl ⟨rfl, rfl, rfl, rfl, rfl⟩ rfl rfl rfl rfl rfl (by kernel_rfl) Tryz.func3 (by kernel_rfl)
  (of_decide_eq_true (by kernel_rfl)) (by unfold Func.isWrapper; rw [if_neg (of_decide_eq_false (by kernel_rfl))]; exact ⟨rfl, rfl⟩)
  (fun os started H enc _ => worldSays_lifted os started H enc)
theorem worldSays_card : Rows.WorldSaysCardSaid :=
 Claim7.holds_tied_plain_at .later [] [.handle] true Rows.worldSaysCard.stood.harness true
  worldSays_row (fun _ h => by cases h) (by kernel_rfl) (fun _ h => by cases h) worldSays_row_tie rfl ⟨rfl, rfl⟩ (by kernel_rfl) rfl
  (fun f fn hf hfn => by
   obtain rfl : f = 3 := Option.some.inj ((show Tryz.prog.funcNamed "keyhold/keyholdlaw.WorldSays" = some 3 by kernel_rfl).symm.trans hf) |>.symm
   obtain rfl : fn = Tryz.f3 := (Option.some.inj (Tryz.func3.symm.trans hfn)).symm
   exact ⟨by kernel_rfl, fun j t ht => by
    rw [Tryz.params3] at ht
    have hj : t = 28 := by
     match j, ht with
     | 0, ht => simpa using ht.symm
     | j + 1, ht => simp at ht
    rcases hj with rfl
    ·exact (show Tryz.prog.wantsStandIn 28 = false by kernel_rfl)⟩)
  (by kernel_rfl)
#print axioms worldSays_card
end Go.Proofs.YtojomhigdliipaaGreatDoor
