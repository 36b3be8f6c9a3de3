/- 'keyholdtop.TopCall' answers true for every list of raw numbers, all numbers and either order: a word that is sent comes to the one who takes, just once; who called gets the answer, and no one else does. Condition: the listed tables of names, and errors.errorType, start as the program's text lays them (the card ties them). -/
import Derived.Test.YtakmaeohhclngaaGreatDoorCards
import Derived.Test.YtakmaeohhclngaaGreatDoorTie
import Derived.SevenTiedAt
import Derived.Lay
import Derived.OpenShut
import Derived.ChangeOld
import Derived.Below
import Derived.Test.YtakmaeohhclngaaGreatDoorRbr
import Derived.Test.YtakmaeohhclngaaGreatDoorRbs
namespace Go.Proofs.YtakmaeohhclngaaGreatDoor
open Go.ChangeShapes Go.WideShapes Go.RowKit
open Go.Proofs.YtakmaeohhclngaaGreatDoor.Mem
abbrev dataLaid : List (String × DataW Unit) := [("keyhold/keyholdref.names", Rows.laid_keyhold_keyholdref_names), ("keyhold/keyholdref.kindNames", Rows.laid_keyhold_keyholdref_kindNames)]
theorem topCall_met (os : Os) (args : Array Value) : laidMetH Tryz.prog Rows.topCallRow.laid ((({ World.holding Tryz.prog os ⟨#[], #[], []⟩ with heap := (World.holding Tryz.prog os ⟨#[], #[], []⟩).heap.modify 0 fun | .cells _ t frozen => .cells #[.iface 147 (.agg #[.pointer (some ⟨3, 32, none⟩)])] t frozen | o => o } : World).layVars Tryz.prog dataLaid).forCall (fun _ _ => 0) ⟨#[], args, []⟩).memory := by
 refine laidMetH_of_parts ?_ (by kernel_rfl)
 have e1 : (dataLaid.filter fun x => (dataLaid.map (·.1)).contains x.1) = dataLaid := List.filter_eq_self.2 fun x hx => List.contains_iff_mem.2 (List.mem_map.2 ⟨x, hx, rfl⟩)
 have e2 : (dataLaid.filter fun x => !(dataLaid.map (·.1)).contains x.1) = [] := List.filter_eq_nil_iff.2 fun x hx => by rw [List.contains_iff_mem.2 (List.mem_map.2 ⟨x, hx, rfl⟩)]; simp
 have h : laidMet Tryz.prog dataLaid (({ World.holding Tryz.prog os ⟨#[], #[], []⟩ with heap := (World.holding Tryz.prog os ⟨#[], #[], []⟩).heap.modify 0 fun | .cells _ t frozen => .cells #[.iface 147 (.agg #[.pointer (some ⟨3, 32, none⟩)])] t frozen | o => o } : World).layVars Tryz.prog dataLaid) :=
  laidMet_layVars (w0 := ({ World.holding Tryz.prog os ⟨#[], #[], []⟩ with heap := (World.holding Tryz.prog os ⟨#[], #[], []⟩).heap.modify 0 fun | .cells _ t frozen => .cells #[.iface 147 (.agg #[.pointer (some ⟨3, 32, none⟩)])] t frozen | o => o } : World)) (dataLaid.map (·.1)) [] (by rw [e1]) (by rw [e1]; kernel_rfl) (by rw [e1]; kernel_rfl) (by rw [e2]; exact LaidIn.none)
 exact h.of_heap (by simp [World.memory, World.forCall, Input.heap])
set_option maxRecDepth 100000 in
theorem topCall_lifted (os : Os) (started : os.Started) (H : Type) (enc : TypeId × Value → H) :
  ReturnsInHanded {} Tryz.checked os 3 .any (fun w args => (Rows.topCallSpec.pre enc Tryz.prog Tryz.f3 [] false w args ∧ laidMetH Tryz.prog Rows.topCallRow.laid w) ∧ sizedMet enc Tryz.prog Tryz.f3 (OpenSpec.ofChange Rows.topCallSpec) false w args)
   (Rows.topCallSpec.post enc Tryz.prog Tryz.f3 false true false false) := by
 refine returnsInHanded_of_change_and (C := Tryz.checked) (X := fun w _ => laidMetH Tryz.prog Rows.topCallRow.laid w) (fun _ _ _ hh h => h.of_heap hh) own started (by kernel_rfl) Tryz.func3
  (ChangeSpec.witness_shaped (enc := enc) (C := Tryz.checked) (os := os) (X := fun w _ => laidMetH Tryz.prog Rows.topCallRow.laid w) false (({ World.holding Tryz.prog os ⟨#[], #[], []⟩ with heap := (World.holding Tryz.prog os ⟨#[], #[], []⟩).heap.modify 0 fun | .cells _ t frozen => .cells #[.iface 147 (.agg #[.pointer (some ⟨3, 32, none⟩)])] t frozen | o => o } : World).layVars Tryz.prog dataLaid) #[.slice none 0 0, .int .i64 0, .int .i64 0, .int .i64 0, .bool false] 8 ((World.layVars_os _ _ _).trans rfl) (World.shaped_of_ZipB (by kernel_rfl) (by kernel_rfl)) (by kernel_rfl) (by kernel_rfl) (by kernel_rfl) (topCall_met os _)) ?_
 intro W base args ds gs before hval0 hW _ _ hL _
 have hval : ∀ (j : Nat) t v, Tryz.f3.params[j]? = some t → args[j]? = some v → Value.okWide Tryz.prog W .any base t v := hval0
 have hW' := hW
 obtain ⟨p, q, hA0, hV0, rfl, hfz, hnd⟩ := hW
 have hA : DataW.TrodAll enc Tryz.prog W 0 (fun _ => true) true Tryz.f3.params.toList args.toList ds p := hA0
 rw [Tryz.params3] at hA hval
 obtain ⟨v0, v1, v2, v3, v4, d0, d1, d2, d3, d4, p0, p1, p2, p3, p4, rfl, rfl, rfl, h0, h1, h2, h3, h4⟩ := Wd.trodAll_five hA
 have hL2 : laidMet Tryz.prog dataLaid W ∧ handlesMet Tryz.prog [("errors.errorType", Rows.laid_errors_errorType)] W := hL
 have hg := handle_of hL2.2
 have kn : Wd.KnW W := by
  obtain ⟨ps, ⟨g1, t1, cs1, f1, p1, q1, _, _, _, _, ⟨g2, t2, cs2, f2, p2, q2, a2, b2, c2, d2, _, _⟩, _⟩, _⟩ := hL2.1
  exact Wd.kn_of a2 b2 c2 d2
 obtain ⟨rfl, rfl⟩ := trodVars_none hV0
 have lt0 : ∀ x ∈ p0, x.block < W.heap.size := by obtain ⟨m, hm⟩ := h0; exact DataW.trod_lt m _ _ _ hm
 have lt1 : ∀ x ∈ p1, x.block < W.heap.size := by obtain ⟨m, hm⟩ := h1; exact DataW.trod_lt m _ _ _ hm
 have lt2 : ∀ x ∈ p2, x.block < W.heap.size := by obtain ⟨m, hm⟩ := h2; exact DataW.trod_lt m _ _ _ hm
 have lt3 : ∀ x ∈ p3, x.block < W.heap.size := by obtain ⟨m, hm⟩ := h3; exact DataW.trod_lt m _ _ _ hm
 have lt4 : ∀ x ∈ p4, x.block < W.heap.size := by obtain ⟨m, hm⟩ := h4; exact DataW.trod_lt m _ _ _ hm
 obtain ⟨x, rfl, hx⟩ := val_int Tryz.underlying3 (hval 1 3 v1 rfl rfl)
 obtain ⟨y, rfl, hy⟩ := val_int Tryz.underlying3 (hval 2 3 v2 rfl rfl)
 obtain ⟨z, rfl, hz⟩ := val_int Tryz.underlying3 (hval 3 3 v3 rfl rfl)
 obtain ⟨t, rfl⟩ := Mmu.val_bool Tryz.underlying4 (hval 4 4 v4 rfl rfl)
 obtain ⟨rs, hr, _⟩ := Wd.open_rawK (hval 0 22 v0 rfl rfl) h0
 clear hA0 hval0
 refine (Wd.topCall_any v0 rs x y z t W hr (has_i64 hx) (has_i64 hy) (has_i64 hz) kn hg).mono fun e W' ⟨he, bel⟩ => ?_
 subst he
 exact ⟨_, rfl, _, _, _, [], _, [], hW', trodAll_mk1 (shut_bool Tryz.underlying4 true), Wd.trodAll_mk5 (Below.trod laidOut (by kernel_rfl) (of_decide_eq_true (by kernel_rfl)) h0 bel lt0) (Below.trod laidOut (by kernel_rfl) (of_decide_eq_true (by kernel_rfl)) h1 bel lt1) (Below.trod laidOut (by kernel_rfl) (of_decide_eq_true (by kernel_rfl)) h2 bel lt2) (Below.trod laidOut (by kernel_rfl) (of_decide_eq_true (by kernel_rfl)) h3 bel lt3) (Below.trod laidOut (by kernel_rfl) (of_decide_eq_true (by kernel_rfl)) h4 bel lt4), rfl, bel.frame _, fun h => by cases h⟩
theorem topCall_row : Rows.TopCallSaid :=
 OpenClaim.holds_of_wide 3 Tryz.f3 rfl rfl rfl rfl rfl rfl rfl ⟨rfl, rfl, rfl, rfl, rfl⟩ rfl rfl rfl rfl rfl (by kernel_rfl) Tryz.func3 (by kernel_rfl)
  (of_decide_eq_true (by kernel_rfl)) (by unfold Func.isWrapper; rw [if_neg (of_decide_eq_false (by kernel_rfl))]; exact ⟨rfl, rfl⟩)
  (fun os started H enc _ => topCall_lifted os started H enc)
theorem topCall_card : Rows.TopCallCardSaid :=
 Claim7.holds_tied_plain_at .later [] [.handle, .data, .data] true Rows.topCallCard.stood.harness Rows.topCallCard.stood.looks
  topCall_row (fun _ h => by cases h) (by kernel_rfl) (fun _ h => by cases h) topCall_row_tie rfl ⟨rfl, rfl⟩ (by kernel_rfl) rfl
  (fun f fn hf hfn => by
   obtain rfl : f = 3 := Option.some.inj ((show Tryz.prog.funcNamed "keyhold/keyholdtop.TopCall" = some 3 by kernel_rfl).symm.trans hf) |>.symm
   obtain rfl : fn = Tryz.f3 := (Option.some.inj (Tryz.func3.symm.trans hfn)).symm
   exact ⟨by kernel_rfl, fun j t ht => by
    rw [Tryz.params3] at ht
    have hj : t = 22 ∨ t = 3 ∨ t = 4 := by
     match j, ht with
     | 0, ht => exact Or.inl (by simpa using ht.symm)
     | 1, ht => exact Or.inr (Or.inl (by simpa using ht.symm))
     | 2, ht => exact Or.inr (Or.inl (by simpa using ht.symm))
     | 3, ht => exact Or.inr (Or.inl (by simpa using ht.symm))
     | 4, ht => exact Or.inr (Or.inr (by simpa using ht.symm))
     | j + 5, ht => simp at ht
    rcases hj with rfl | rfl | rfl
    ·exact (show Tryz.prog.wantsStandIn 22 = false by kernel_rfl)
    ·exact (show Tryz.prog.wantsStandIn 3 = false by kernel_rfl)
    ·exact (show Tryz.prog.wantsStandIn 4 = false by kernel_rfl)⟩)
  (by kernel_rfl)
#print axioms topCall_card
end Go.Proofs.YtakmaeohhclngaaGreatDoor
