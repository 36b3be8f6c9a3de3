/- 'keyholdlaw.MmuSays' answers true for every memory of words, entries, space, address and right: walking the tables, remembering, forgetting and looking up give what D1 to D3 say. Condition: errors.errorType starts as the program's text lays it (the card ties it). -/
import Derived.Test.YtfpkbfhaipgibaaDoorMmuSays
import Derived.Test.YtfpkbfhaipgibaaDoorOpenEnts
import Derived.Test.YtfpkbfhaipgibaaDoorHandle
import Derived.Test.YtfpkbfhaipgibaaDoorOpenInts
import Derived.Test.YtfpkbfhaipgibaaDoorCards
import Derived.Test.YtfpkbfhaipgibaaDoorTie
import Derived.SevenTiedAt
import Derived.Lay
import Derived.OpenShut
import Derived.ChangeOld
import Derived.Below
namespace Go.Proofs.YtfpkbfhaipgibaaDoor
open Go.ChangeShapes Go.WideShapes Go.RowKit
namespace Mmu
open Go.Proofs.YtfpkbfhaipgibaaDoor.Nums Go.Proofs.YtfpkbfhaipgibaaDoor.Mem Go.Proofs.YtfpkbfhaipgibaaDoor.Bw
set_option maxRecDepth 100000 in
theorem mmuSays_far (u v : Value) (rs : List Int) (q : Option Addr) (n cap : Nat) (s a : Int) (wr : Bool) (e0 e1 e2 : Int) (e3 : Bool) (w : World) (hu : RawIn w u rs) (hv : v = .slice q n cap) (hf : 600 < rs.length ∨ 50 < n) (h1 : rs.length ≤ maxLen) (h2 : n ≤ maxLen) :
    Calls Tryd.prog 4 #[u, v, .int .i64 s, .int .i64 a, .bool wr, .agg #[.int .i64 e0, .int .i64 e1, .int .i64 e2, .bool e3]] w fun r w' => r = .returned (.bool true) ∧ Below w.heap.size w w' := by
  obtain ⟨q0, b0, f0, c0, rfl, -, -, -⟩ := hu
  subst hv
  have HN := hid (decide_eq_true hf)
  have H1 := hid (show rs.length ≤ 9223372036854775807 from h1)
  have H2 := hid (show n ≤ 9223372036854775807 from h2)
  clear hf h1 h2
  go_enter Tryd.func4, Tryd.ntmps4
  go_wp2_with fail
  refine (hugeRam_any _ _ _ _ _ _ _ H1.out H2.out).mono ?_
  rintro r w0 ⟨rfl, rfl⟩
  rw [HN.out]
  go_wp2_with fail
  go_ret
  exact ⟨rfl, bal (Below.refl _ _) _⟩
theorem mmuSays_any (u : Value) (rs : List Int) (q : Option Addr) (b off cap : Nat) (l : List Ent) (s a : Int) (wr : Bool) (e0 e1 e2 : Int) (e3 : Bool) (w : World) (hu : RawIn w u rs) (h1 : rs.length ≤ maxLen) (hv : (0 < l.length → q = some ⟨b, off, none⟩) ∧ EntsAt w b off l) (hg : ETok w) (h2 : l.length ≤ maxLen) :
    Calls Tryd.prog 4 #[u, .slice q l.length cap, .int .i64 s, .int .i64 a, .bool wr, .agg #[.int .i64 e0, .int .i64 e1, .int .i64 e2, .bool e3]] w fun r w' => r = .returned (.bool true) ∧ Below w.heap.size w w' := by
  by_cases hf : 600 < rs.length ∨ 50 < l.length
  · exact mmuSays_far u _ rs q l.length cap s a wr e0 e1 e2 e3 w hu rfl hf h1 h2
  · exact mmuSays_main u _ rs l s a wr e0 e1 e2 e3 w hu ⟨q, b, off, cap, rfl, hv.1, hv.2, by omega⟩ hg (by omega) (by omega)
end Mmu
theorem mmuSays_met (os : Os) (args : Array Value) : laidMetH Tryd.prog Rows.mmuSaysRow.laid (({ World.holding Tryd.prog os ⟨#[], #[], []⟩ with heap := (World.holding Tryd.prog os ⟨#[], #[], []⟩).heap.modify 2 fun | .cells _ t frozen => .cells #[.iface 195 (.agg #[.pointer (some ⟨9, 29, none⟩)])] t frozen | o => o } : World).forCall (fun _ _ => 0) ⟨#[], args, []⟩).memory :=
  laidMetH_of_parts (laidMet_nil _ _) (by kernel_rfl)
set_option maxRecDepth 100000 in
theorem mmuSays_lifted (os : Os) (started : os.Started) (H : Type) (enc : TypeId × Value → H) :
    ReturnsInHanded {} Tryd.checked os 4 .any (fun w args => (Rows.mmuSaysSpec.pre enc Tryd.prog Tryd.f4 [] false w args ∧ laidMetH Tryd.prog Rows.mmuSaysRow.laid w) ∧ sizedMet enc Tryd.prog Tryd.f4 (OpenSpec.ofChange Rows.mmuSaysSpec) false w args)
      (Rows.mmuSaysSpec.post enc Tryd.prog Tryd.f4 false true false false) := by
  refine returnsInHanded_of_change_and (C := Tryd.checked) (X := fun w _ => laidMetH Tryd.prog Rows.mmuSaysRow.laid w) (fun _ _ _ hh h => h.of_heap hh) own started (by kernel_rfl) Tryd.func4
    (ChangeSpec.witness_at (enc := enc) (C := Tryd.checked) (os := os) (X := fun w _ => laidMetH Tryd.prog Rows.mmuSaysRow.laid w) false ({ World.holding Tryd.prog os ⟨#[], #[], []⟩ with heap := (World.holding Tryd.prog os ⟨#[], #[], []⟩).heap.modify 2 fun | .cells _ t frozen => .cells #[.iface 195 (.agg #[.pointer (some ⟨9, 29, none⟩)])] t frozen | o => o } : World) #[.slice none 0 0, .slice none 0 0, .int .i64 0, .int .i64 0, .bool false, .agg #[.int .i64 0, .int .i64 0, .int .i64 0, .bool false]] 8 rfl (by kernel_rfl) (by kernel_rfl) (by kernel_rfl) (by kernel_rfl) (by kernel_rfl) (mmuSays_met os _)) ?_
  intro W base args ds gs before hval0 hW _ _ hL _
  have hval : ∀ (j : Nat) t v, Tryd.f4.params[j]? = some t → args[j]? = some v → Value.okWide Tryd.prog W .any base t v := hval0
  have hW' := hW
  obtain ⟨p, q, hA0, hV0, rfl, hfz, hnd⟩ := hW
  have hA : DataW.TrodAll enc Tryd.prog W 0 (fun _ => true) true Tryd.f4.params.toList args.toList ds p := hA0
  rw [Tryd.params4] at hA hval
  obtain ⟨v0, v1, v2, v3, v4, v5, d0, d1, d2, d3, d4, d5, p0, p1, p2, p3, p4, p5, rfl, rfl, rfl, h0, h1, h2, h3, h4, h5⟩ := Mmu.trodAll_six hA
  have hL2 : laidMet Tryd.prog [] W ∧ handlesMet Tryd.prog [("errors.errorType", Rows.laid_errors_errorType)] W := hL
  have hg := handle_of hL2.2
  obtain ⟨rfl, rfl⟩ := trodVars_none hV0
  have lt0 : ∀ x ∈ p0, x.block < W.heap.size := by obtain ⟨m, hm⟩ := h0; exact DataW.trod_lt m _ _ _ hm
  have lt1 : ∀ x ∈ p1, x.block < W.heap.size := by obtain ⟨m, hm⟩ := h1; exact DataW.trod_lt m _ _ _ hm
  have lt2 : ∀ x ∈ p2, x.block < W.heap.size := by obtain ⟨m, hm⟩ := h2; exact DataW.trod_lt m _ _ _ hm
  have lt3 : ∀ x ∈ p3, x.block < W.heap.size := by obtain ⟨m, hm⟩ := h3; exact DataW.trod_lt m _ _ _ hm
  have lt4 : ∀ x ∈ p4, x.block < W.heap.size := by obtain ⟨m, hm⟩ := h4; exact DataW.trod_lt m _ _ _ hm
  have lt5 : ∀ x ∈ p5, x.block < W.heap.size := by obtain ⟨m, hm⟩ := h5; exact DataW.trod_lt m _ _ _ hm
  obtain ⟨s, rfl, hs⟩ := val_int Tryd.underlying3 (hval 2 3 v2 rfl rfl)
  obtain ⟨a, rfl, ha⟩ := val_int Tryd.underlying3 (hval 3 3 v3 rfl rfl)
  obtain ⟨wr, rfl⟩ := Mmu.val_bool Tryd.underlying4 (hval 4 4 v4 rfl rfl)
  obtain ⟨e0, e1, e2, e3, rfl⟩ := Mmu.ent_open (hval 5 39 v5 rfl rfl)
  obtain ⟨rs, hu, hul⟩ := Nums.open_raw (hval 0 36 v0 rfl rfl) h0
  obtain ⟨tq, tb, toff, tcap, l, rfl, tz1, tz2, tlen⟩ := Mmu.open_ents (hval 1 37 v1 rfl rfl) h1
  have tz := And.intro tz1 tz2
  clear hA0 hval0
  refine (Mmu.mmuSays_any v0 rs tq tb toff tcap l s a wr e0 e1 e2 e3 W hu hul tz hg tlen).mono fun e W' ⟨he, bel⟩ => ?_
  subst he
  exact ⟨_, rfl, _, _, _, [], _, [], hW', trodAll_mk1 (shut_bool Tryd.underlying4 true), Mmu.trodAll_mk6 (Below.trod laidOut (by kernel_rfl) (of_decide_eq_true (by kernel_rfl)) h0 bel lt0) (Below.trod laidOut (by kernel_rfl) (of_decide_eq_true (by kernel_rfl)) h1 bel lt1) (Below.trod laidOut (by kernel_rfl) (of_decide_eq_true (by kernel_rfl)) h2 bel lt2) (Below.trod laidOut (by kernel_rfl) (of_decide_eq_true (by kernel_rfl)) h3 bel lt3) (Below.trod laidOut (by kernel_rfl) (of_decide_eq_true (by kernel_rfl)) h4 bel lt4) (Below.trod laidOut (by kernel_rfl) (of_decide_eq_true (by kernel_rfl)) h5 bel lt5), rfl, bel.frame _, fun h => by cases h⟩
theorem mmuSays_row : Rows.MmuSaysSaid :=
  OpenClaim.holds_of_wide 4 Tryd.f4 rfl rfl rfl rfl rfl rfl rfl ⟨rfl, rfl, rfl, rfl, rfl⟩ rfl rfl rfl rfl rfl (by kernel_rfl) Tryd.func4 (by kernel_rfl)
    (of_decide_eq_true (by kernel_rfl)) (by unfold Func.isWrapper; rw [if_neg (of_decide_eq_false (by kernel_rfl))]; exact ⟨rfl, rfl⟩)
    (fun os started H enc _ => mmuSays_lifted os started H enc)
theorem mmuSays_card : Rows.MmuSaysCardSaid :=
  Claim7.holds_tied_plain_at .later [] [.handle] true Rows.mmuSaysCard.stood.harness true
    mmuSays_row (fun _ h => by cases h) (by kernel_rfl) (fun _ h => by cases h) mmuSays_row_tie rfl ⟨rfl, rfl⟩ (by kernel_rfl) rfl
    (fun f fn hf hfn => by
      obtain rfl : f = 4 := Option.some.inj ((show Tryd.prog.funcNamed "keyhold/keyholdlaw.MmuSays" = some 4 by kernel_rfl).symm.trans hf) |>.symm
      obtain rfl : fn = Tryd.f4 := (Option.some.inj (Tryd.func4.symm.trans hfn)).symm
      exact ⟨by kernel_rfl, fun j t ht => by
        rw [Tryd.params4] at ht
        have hj : t = 36 ∨ t = 37 ∨ t = 3 ∨ t = 4 ∨ t = 39 := by
          match j, ht with
          | 0, ht => exact (Or.inl (by simpa using ht.symm))
          | 1, ht => exact (Or.inr (Or.inl (by simpa using ht.symm)))
          | 2, ht => exact (Or.inr (Or.inr (Or.inl (by simpa using ht.symm))))
          | 3, ht => exact (Or.inr (Or.inr (Or.inl (by simpa using ht.symm))))
          | 4, ht => exact (Or.inr (Or.inr (Or.inr (Or.inl (by simpa using ht.symm)))))
          | 5, ht => exact (Or.inr (Or.inr (Or.inr (Or.inr (by simpa using ht.symm)))))
          | j + 6, ht => simp at ht
        rcases hj with rfl | rfl | rfl | rfl | rfl
        · exact (show Tryd.prog.wantsStandIn 36 = false by kernel_rfl)
        · exact (show Tryd.prog.wantsStandIn 37 = false by kernel_rfl)
        · exact (show Tryd.prog.wantsStandIn 3 = false by kernel_rfl)
        · exact (show Tryd.prog.wantsStandIn 4 = false by kernel_rfl)
        · exact (show Tryd.prog.wantsStandIn 39 = false by kernel_rfl)⟩)
    (by kernel_rfl)
#print axioms mmuSays_card
end Go.Proofs.YtfpkbfhaipgibaaDoor
