/- 'keyholdtop.TopCode' answers true for every list of raw numbers and every number: instructions that are written are read again as they were, and encoded ones are decoded. Condition: the listed tables start as the program's text lays them (the card ties them). -/
import Derived.Test.YtfpkbfhaipgibaaDoorTopCodeWalk
import Derived.Test.YtfpkbfhaipgibaaDoorOpenHex
import Derived.Test.YtfpkbfhaipgibaaDoorHandle
import Derived.Test.YtfpkbfhaipgibaaDoorOpenInts
import Derived.Test.YtfpkbfhaipgibaaDoorCards
import Derived.Test.YtfpkbfhaipgibaaDoorTie
import Derived.SevenTiedAt
import Derived.Lay
import Derived.OpenShut
import Derived.ChangeOld
import Derived.Below
namespace Go.Proofs.YtfpkbfhaipgibaaDoor
open Go.ChangeShapes Go.WideShapes Go.RowKit
open Go.Proofs.YtfpkbfhaipgibaaDoor.Txt Go.Proofs.YtfpkbfhaipgibaaDoor.Mem
abbrev dataLaid : List (String × DataW Unit) := [("math/bits.deBruijn32tab", Rows.laid_math_bits_deBruijn32tab), ("math/bits.deBruijn64tab", Rows.laid_math_bits_deBruijn64tab), ("internal/strconv.uint64pow10", Rows.laid_internal_strconv_uint64pow10), ("unicode/utf8.acceptRanges", Rows.laid_unicode_utf8_acceptRanges), ("keyhold/isa.names", Rows.laid_keyhold_isa_names), ("unicode/utf8.first", Rows.laid_unicode_utf8_first)]
namespace Made
open Go.Deep Go.Joins Go.Proofs.YtfpkbfhaipgibaaDoor.Hex
theorem one_int_in {P : Program} {w : World} {base : Nat} {spare : Nat → Bool} {held : Bool} {H : Type} {enc : TypeId × Value → H} {u : TypeId} {fuel : Nat} {a : Addr} {cs : List Value} {x : DataW H × List MemPlace} (hu : P.underlying u = some (.int .i64))
    (hc : w.cells? base a 1 = some cs) (h : DataW.trod enc P w base spare held fuel u cs = some x) : ∃ q : Int, w.cell? (a.add 0) = some (.int .i64 q) ∧ -9223372036854775808 ≤ q ∧ q ≤ 9223372036854775807 := by
  obtain ⟨_, hl, hcc⟩ := World.cells?_some hc
  match cs, hl with
  | [c0], _ =>
    obtain ⟨n0, k0, _, hw⟩ := DataW.trod_int hu h
    simp at k0
    subst k0
    refine ⟨n0, hcc 0 (by omega), ?_⟩
    simp [Lit.wf, IntKind.min, IntKind.max, IntKind.signed, IntKind.bits] at hw
    omega
set_option maxRecDepth 100000 in
/-- A slice of numbers that is read: nil, or a row of numbers that fit. -/
theorem open_raw {H : Type} {enc : TypeId × Value → H} {W : World} {r : Reach} {base : Nat} {v : Value} {d : DataW H} {p : List MemPlace}
    (hv : Value.okWide Tryd.prog W r base 36 v) (h : DataW.Trod enc Tryd.prog W 0 (fun _ => true) true 36 v d p) :
    v = .slice none 0 0 ∨ ∃ b off cap zs, v = .slice (some ⟨b, off, none⟩) zs.length cap ∧ zs.length ≤ maxLen ∧ IntsAt W b off zs ∧ ∀ z ∈ zs, -9223372036854775808 ≤ z ∧ z ≤ 9223372036854775807 := by
  obtain ⟨a0, len, cap, rfl⟩ := okWide_slice Tryd.underlying36 hv
  obtain ⟨fuel, hf⟩ := h
  rcases open_slice Tryd.underlying36 hf with ⟨hcs, _⟩ | ⟨a, len', cap', m, n, D, Pl, hcs, _, hl, hm, hmm, _, hc⟩
  · simp [Value.cells] at hcs
    obtain ⟨rfl, rfl, rfl⟩ := hcs
    exact .inl rfl
  · simp [Value.cells] at hcs
    obtain ⟨rfl, rfl, rfl⟩ := hcs
    have hsp := slice_spot Tryd.underlying36 hv
    obtain ⟨ab, ao, asp⟩ := a
    simp at hsp
    subst hsp
    have hml : len ≤ m := by rw [hmm]; split <;> omega
    obtain ⟨q, hq⟩ := choose_lt (α := Int) (n := len) (p := fun i q => W.cell? ⟨ab, ao + i, none⟩ = some (.int .i64 q) ∧ -9223372036854775808 ≤ q ∧ q ≤ 9223372036854775807) (fun i hi => by
      obtain ⟨cs', h1, h2⟩ := hc i (by omega)
      rw [intC] at h1
      obtain ⟨q, k0, k1⟩ := one_int_in Tryd.underlying3 h1 h2
      simp only [Txt.add_plain, Nat.mul_one, Nat.add_zero] at k0
      exact ⟨q, k0, k1⟩)
    refine .inr ⟨ab, ao, cap, (List.range len).map q, by simp, by simp; omega, fun j hj => ?_, fun z hz => ?_⟩
    · have hj' : j < len := by simpa using hj
      have e : ((List.range len).map q)[j] = q j := by simp
      rw [e]
      exact (hq j hj').1
    · obtain ⟨j, hj, rfl⟩ := List.mem_map.1 hz
      exact (hq j (List.mem_range.1 hj)).2
theorem topCode_any (v : Value) (y : Int) (w : World) (hq : QW w) (y0 : -9223372036854775808 ≤ y) (y1 : y ≤ 9223372036854775807)
    (h : v = .slice none 0 0 ∨ ∃ b off cap zs, v = .slice (some ⟨b, off, none⟩) zs.length cap ∧ zs.length ≤ maxLen ∧ IntsAt w b off zs ∧ ∀ z ∈ zs, -9223372036854775808 ≤ z ∧ z ≤ 9223372036854775807) :
    Calls Tryd.prog 7 #[v, .int .i64 y] w fun e w' => e = .returned (.bool true) ∧ Below w.heap.size w w' := by
  rcases h with rfl | ⟨b, off, cap, zs, rfl, hl, hz, hr⟩
  · exact topCode_main _ 0 y w hq (.inl ⟨rfl, rfl⟩) (by omega) (.inl rfl) y0 y1
  · by_cases h1 : 256 < zs.length
    · exact topCode_far _ b off cap y w h1 hl
    · exact topCode_main _ zs.length y w hq (.inr ⟨b, off, cap, rfl⟩) (by omega) (.inr ⟨b, off, cap, zs, rfl, by omega, hz, hr⟩) y0 y1
end Made
theorem topCode_met (os : Os) (args : Array Value) : laidMetH Tryd.prog Rows.topCodeRow.laid (((World.holding Tryd.prog os ⟨#[], #[], []⟩).layVars Tryd.prog dataLaid).forCall (fun _ _ => 0) ⟨#[], args, []⟩).memory := by
  refine laidMetH_of_parts ?_ (by kernel_rfl)
  have e1 : (dataLaid.filter fun x => (dataLaid.map (·.1)).contains x.1) = dataLaid := List.filter_eq_self.2 fun x hx => List.contains_iff_mem.2 (List.mem_map.2 ⟨x, hx, rfl⟩)
  have e2 : (dataLaid.filter fun x => !(dataLaid.map (·.1)).contains x.1) = [] := List.filter_eq_nil_iff.2 fun x hx => by rw [List.contains_iff_mem.2 (List.mem_map.2 ⟨x, hx, rfl⟩)]; simp
  have h : laidMet Tryd.prog dataLaid ((World.holding Tryd.prog os ⟨#[], #[], []⟩).layVars Tryd.prog dataLaid) :=
    laidMet_layVars (w0 := (World.holding Tryd.prog os ⟨#[], #[], []⟩)) (dataLaid.map (·.1)) [] (by rw [e1]) (by rw [e1]; kernel_rfl) (by rw [e1]; kernel_rfl) (by rw [e2]; exact LaidIn.none)
  exact h.of_heap (by simp [World.memory, World.forCall, Input.heap])
set_option maxRecDepth 100000 in
theorem topCode_lifted (os : Os) (started : os.Started) (H : Type) (enc : TypeId × Value → H) :
    ReturnsInHanded {} Tryd.checked os 7 .any (fun w args => (Rows.topCodeSpec.pre enc Tryd.prog Tryd.f7 [] false w args ∧ laidMetH Tryd.prog Rows.topCodeRow.laid w) ∧ sizedMet enc Tryd.prog Tryd.f7 (OpenSpec.ofChange Rows.topCodeSpec) false w args)
      (Rows.topCodeSpec.post enc Tryd.prog Tryd.f7 false true false false) := by
  refine handed_laid_shaped (C := Tryd.checked) (X := fun w _ => laidMetH Tryd.prog Rows.topCodeRow.laid w) (fun _ _ _ hh h => h.of_heap hh) own started (by kernel_rfl) Tryd.func7
    (ChangeSpec.witness_shaped (enc := enc) (C := Tryd.checked) (os := os) (X := fun w _ => laidMetH Tryd.prog Rows.topCodeRow.laid w) false ((World.holding Tryd.prog os ⟨#[], #[], []⟩).layVars Tryd.prog dataLaid) #[.slice none 0 0, .int .i64 0] 8 ((World.layVars_os _ _ _).trans rfl) (World.shaped_of_ZipB (by kernel_rfl) (by kernel_rfl)) (by kernel_rfl) (by kernel_rfl) (by kernel_rfl) (topCode_met os _)) ?_
  intro W base args ds gs before hval0 hW hL hsh
  have hval : ∀ (j : Nat) t v, Tryd.f7.params[j]? = some t → args[j]? = some v → Value.okWide Tryd.prog W .any base t v := hval0
  have hW' := hW
  obtain ⟨p, q, hA0, hV0, rfl, hfz, hnd⟩ := hW
  have hA : DataW.TrodAll enc Tryd.prog W 0 (fun _ => true) true Tryd.f7.params.toList args.toList ds p := hA0
  rw [Tryd.params7] at hA hval
  obtain ⟨v0, v1, d0, d1, p0, p1, rfl, rfl, rfl, h0, h1⟩ := trodAll_two hA
  have hL2 : laidMet Tryd.prog dataLaid W := hL
  have qw : Made.QW W := by
    obtain ⟨ps, ⟨g1, t1, cs1, f1, p1, q1, _, _, _, _, ⟨g2, t2, cs2, f2, p2, q2, _, _, _, _, ⟨g3, t3, cs3, f3, p3, q3, a3, b3, c3, d3, ⟨g4, t4, cs4, f4, p4, q4, _, _, _, _, ⟨g5, t5, cs5, f5, p5, q5, a5, b5, c5, d5, _, _⟩, _⟩, _⟩, _⟩, _⟩, _⟩ := hL2
    exact ⟨⟨nm_of a5 b5 c5 d5, tb_of a3 b3 c3 d3, var_lt inG c5, var_lt p10G c3⟩, Hex.mlok hsh⟩
  obtain ⟨rfl, rfl⟩ := trodVars_none hV0
  have lt0 : ∀ x ∈ p0, x.block < W.heap.size := by obtain ⟨m, hm⟩ := h0; exact DataW.trod_lt m _ _ _ hm
  have lt1 : ∀ x ∈ p1, x.block < W.heap.size := by obtain ⟨m, hm⟩ := h1; exact DataW.trod_lt m _ _ _ hm
  obtain ⟨y, rfl, hy⟩ := val_int Tryd.underlying3 (hval 1 3 v1 rfl rfl)
  have io := Made.open_raw (hval 0 36 v0 rfl rfl) h0
  clear hA0 hval0
  refine (Made.topCode_any v0 y W qw (has_i64 hy).1 (has_i64 hy).2 io).mono fun e W' ⟨he, bel⟩ => ?_
  subst he
  exact ⟨_, rfl, _, _, _, [], _, [], hW', trodAll_mk1 (shut_bool Tryd.underlying4 true), trodAll_mk2 (Below.trod laidOut (by kernel_rfl) (of_decide_eq_true (by kernel_rfl)) h0 bel lt0) (Below.trod laidOut (by kernel_rfl) (of_decide_eq_true (by kernel_rfl)) h1 bel lt1), rfl, bel.frame _, fun h => by cases h⟩
theorem topCode_row : Rows.TopCodeSaid :=
  OpenClaim.holds_of_wide 7 Tryd.f7 rfl rfl rfl rfl rfl rfl rfl ⟨rfl, rfl, rfl, rfl, rfl⟩ rfl rfl rfl rfl rfl (by kernel_rfl) Tryd.func7 (by kernel_rfl)
    (of_decide_eq_true (by kernel_rfl)) (by unfold Func.isWrapper; rw [if_neg (of_decide_eq_false (by kernel_rfl))]; exact ⟨rfl, rfl⟩)
    (fun os started H enc _ => topCode_lifted os started H enc)
theorem topCode_card : Rows.TopCodeCardSaid :=
  Claim7.holds_tied_plain_at .later [] [.data, .data, .data, .data, .data, .pinned] true Rows.topCodeCard.stood.harness Rows.topCodeCard.stood.looks
    topCode_row (fun _ h => by cases h) (by kernel_rfl) (fun _ h => by cases h) topCode_row_tie rfl ⟨rfl, rfl⟩ (by kernel_rfl) rfl
    (fun f fn hf hfn => by
      obtain rfl : f = 7 := Option.some.inj ((show Tryd.prog.funcNamed "keyhold/keyholdtop.TopCode" = some 7 by kernel_rfl).symm.trans hf) |>.symm
      obtain rfl : fn = Tryd.f7 := (Option.some.inj (Tryd.func7.symm.trans hfn)).symm
      exact ⟨by kernel_rfl, fun j t ht => by
        rw [Tryd.params7] at ht
        have hj : t = 36 ∨ t = 3 := by
          match j, ht with
          | 0, ht => exact Or.inl (by simpa using ht.symm)
          | 1, ht => exact Or.inr (by simpa using ht.symm)
          | j + 2, ht => simp at ht
        rcases hj with rfl | rfl
        · exact (show Tryd.prog.wantsStandIn 36 = false by kernel_rfl)
        · exact (show Tryd.prog.wantsStandIn 3 = false by kernel_rfl)⟩)
    (by kernel_rfl)
#print axioms topCode_card
end Go.Proofs.YtfpkbfhaipgibaaDoor
