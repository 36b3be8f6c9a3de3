/- isa.findLabels, walked. -/
import Derived.Test.YtfpkbfhaipgibaaDoorPrsLine
import Derived.Test.YtfpkbfhaipgibaaDoorPrsLines
namespace Go.Proofs.YtfpkbfhaipgibaaDoor.Prs
open Go.RowKit Go.Maps Go.Proofs.YtfpkbfhaipgibaaDoor.Mem Go.Proofs.YtfpkbfhaipgibaaDoor.Hex Go.Proofs.YtfpkbfhaipgibaaDoor.Txt Go.Proofs.YtfpkbfhaipgibaaDoor.Isa

theorem labN_size (t : ByteArray) : (labN t).size ≤ t.size := by
  have h1 : (labN t).size = (Lib.trimSuffix t.data.toList [58]).length := by simp [labN, ByteArray.size]
  rw [h1, size_list]
  unfold Lib.trimSuffix
  split
  · rw [List.length_take]; omega
  · exact Nat.le_refl _
/-- What is known of a line that is right, or of the first that is not. -/
theorem labE_zero {D : DataW Unit} {t : ByteArray} (h : labE D t = 0) : labB t = false ∨ (labB t = true ∧ nameB' (labN t) = true ∧ Maps.has D (str (labN t)) = false) := by
  unfold labE at h
  cases h1 : labB t with
  | false => exact .inl rfl
  | true =>
    rw [h1, if_pos rfl] at h
    cases h2 : nameB' (labN t) with
    | false => rw [h2, if_neg (by decide)] at h; exact absurd h (by decide)
    | true =>
      rw [h2, if_pos rfl] at h
      cases h3 : Maps.has D (str (labN t)) with
      | false => exact .inr ⟨rfl, rfl, rfl⟩
      | true => rw [h3, if_pos rfl] at h; exact absurd h (by decide)
theorem labE_not {D : DataW Unit} {t : ByteArray} (h : labE D t ≠ 0) : (labB t = true ∧ nameB' (labN t) = false ∧ labE D t = 11) ∨ (labB t = true ∧ nameB' (labN t) = true ∧ Maps.has D (str (labN t)) = true ∧ labE D t = 12) := by
  unfold labE at h ⊢
  cases h1 : labB t with
  | false => rw [h1, if_neg (by decide)] at h; exact absurd rfl h
  | true =>
    rw [h1, if_pos rfl] at h
    cases h2 : nameB' (labN t) with
    | false => exact .inl ⟨rfl, rfl, by rw [if_pos rfl, if_neg (by decide)]⟩
    | true =>
      rw [h2, if_pos rfl] at h
      cases h3 : Maps.has D (str (labN t)) with
      | false => rw [h3, if_neg (by decide)] at h; exact absurd rfl h
      | true => exact .inr ⟨rfl, rfl, rfl, by rw [if_pos rfl, if_pos rfl, if_pos rfl]⟩
theorem step_no {q : DataW Unit × Nat} {t : ByteArray} (h : labB t = false) : step q t = (q.1, q.2 + 1) := by unfold step; rw [if_neg (by rw [h]; decide)]
theorem step_yes {q : DataW Unit × Nat} {t : ByteArray} (h : labB t = true) : step q t = (q.1.put (str (labN t)) (.lit (.int .i64 (2 * (q.2 : Int)))), q.2) := by unfold step; rw [if_pos h]
theorem trim_any (t : ByteArray) (w : World) (hs : t.size ≤ 100000) :
    Calls Tryd.prog 76 #[.string t, .string ⟨#[58]⟩] w fun e w' => e = .returned (.string (labN t)) ∧ w = w' :=
  (Tryd.strings_TrimSuffix t ⟨#[58]⟩ w (by omega)).mono fun _ _ h => ⟨h.1, h.2.symm⟩
set_option maxHeartbeats 4000000 in
theorem findLabels_any (ls : List ByteArray) (lb cap m : Nat) (w : World) (hS : StrsAt w lb 0 ls) (hl : ls.length ≤ 100001) (hz : ∀ t ∈ ls, t.size ≤ 100000) (hm : m ≤ ls.length)
    (hv : ∀ j (h : j < ls.length), j < m → labE (upTo ls j).1 ls[j] = 0) (hx : ∀ h : m < ls.length, labE (upTo ls m).1 ls[m] ≠ 0) :
    Calls Tryd.prog 42 #[.slice (some ⟨lb, 0, none⟩) ls.length cap] w fun e w' => Below w.heap.size w w' ∧
      ((m = ls.length ∧ e = .returned (.tuple #[.map (some w.heap.size), .int .i64 (upTo ls m).2, .nilIface]) ∧ MapAt w' w.heap.size m (upTo ls m).1) ∨
       (∃ (h : m < ls.length) (ev : Value), e = .returned (.tuple #[.map none, .int .i64 0, ev]) ∧ Tells w' ev (labE (upTo ls m).1 ls[m]) m)) := by
  have HS := hid hS
  have HZ := hid hz
  have HV := hid hv
  have HX := hid hx
  clear hS hz hv hx
  have hmm := @run_makeMap Tryd.prog
  go_enter Tryd.func42, Tryd.ntmps42
  go_wp2_with fail
  go_loopw [6, 15] (fun v i wr => ∃ k : Nat, k ≤ m ∧ i = .int .i64 k ∧ v = .int .i64 (upTo ls k).2 ∧ MapAt wr w.heap.size k (upTo ls k).1 ∧ Below w.heap.size w wr) (fun _ i _ => ls.length - (intOf i).toNat)
  case atStart => exact ⟨0, by omega, rfl, rfl, World.ownsMap_made _ _ _ _, bal (Below.refl _ _) _⟩
  case round =>
    obtain ⟨k, hk, rfl, rfl, hM, hB⟩ := hrel
    have HM := hid hM
    have HB := hid hB
    clear hM hB
    have hn := upTo_le ls k
    by_cases hlt : k < ls.length
    · have hlt2 : (k : Int) < (ls.length : Int) := by omega
      have hc := (HS.out.below HB.out) k hlt
      rw [Nat.zero_add] at hc
      have hts := HZ.out ls[k] (List.getElem_mem hlt)
      have HU := hid (upTo_succ ls k hlt)
      have HV1 := hid (HV.out k hlt)
      have HX1 := hid (show k = m → labE (upTo ls k).1 ls[k] ≠ 0 from fun e => by subst e; exact HX.out hlt)
      have HE1 := hid (show ∀ e : k = m, ∀ h : m < ls.length, labE (upTo ls m).1 ls[m] = labE (upTo ls k).1 ls[k] from fun e h => by subst e; rfl)
      generalize ls[k] = t at hc hts HU HV1 HX1 HE1
      generalize upTo ls k = q at hn HM HU HV1 HX1 HE1 ⊢
      by_cases hkm : k < m
      · have hE := labE_zero (HV1.out hkm)
        rcases hE with hE | ⟨hE1, hE2, hE3⟩
        · go_wp2_with fail
          refine (isLabel_any t _ hts).mono ?_
          rintro e w1 ⟨rfl, hb1⟩
          have M1 := hid (HM.out.below hb1)
          have B1 := hid (btr HB.out hb1)
          clear hb1
          rw [hE]
          go_wp2_with fail
          refine ⟨⟨k + 1, by omega, by go_num, ?_, ?_, B1.out⟩, by simp [intOf]; omega⟩
          · rw [HU.out, step_no hE]; go_num
          · rw [HU.out, step_no hE]; exact World.ownsMap.mono M1.out (by omega)
        · go_wp2_with fail
          refine (isLabel_any t _ hts).mono ?_
          rintro e w1 ⟨rfl, hb1⟩
          have M1 := hid (HM.out.below hb1)
          have B1 := hid (btr HB.out hb1)
          clear hb1
          rw [hE1]
          go_wp2_with fail
          refine (trim_any t _ hts).mono ?_
          rintro e w' ⟨rfl, rfl⟩
          go_wp2_with fail
          refine (isName_any _ _).mono ?_
          rintro e w2 ⟨rfl, hb2⟩
          have M2 := hid (M1.out.below hb2)
          have B2 := hid (btr B1.out hb2)
          have HK := hid (key_of (labN t) (by have := labN_size t; omega))
          clear hb2
          rw [hE2]
          go_wp2_with (first | (at_lookup; refine wpList_lookup_own_ok_int _ rfl _ _ 86 rfl 9 3 .i64 law Tryd.underlying86 Tryd.underlying3 (zeroE _) w.heap.size k q.1 rfl M2.out _ _ rfl HK.out ?_; intro c hat hwc; clear hat) | (at_mapUpdate; refine wpList_mapUpdate_own _ rfl _ _ _ 86 rfl 9 3 law Tryd.underlying86 _ w.heap.size k q.1 rfl M2.out (by unfold maxLen; omega) _ _ _ rfl rfl HK.out _ [] (plainElem_int Tryd.underlying3 (a := 2 * (q.2 : Int)) (WalkArith.wf_i64 (by omega))) ?_; intro w3 hown3 hgrow3))
          have B3 := hid (B2.out.grown hgrow3 (by have := B2.out.size; omega) (fun j hj => by cases hj; exact Nat.le_refl _))
          refine ⟨⟨k + 1, by omega, by go_num, ?_, ?_, B3.out⟩, by simp [intOf]; omega⟩
          · rw [HU.out, step_yes hE1]
          · rw [HU.out, step_yes hE1]; exact hown3
      · obtain rfl : k = m := by omega
        have hE := labE_not (HX1.out rfl)
        rcases hE with ⟨hE1, hE2, hE9⟩ | ⟨hE1, hE2, hE3, hE9⟩
        · go_wp2_with fail
          refine (isLabel_any t _ hts).mono ?_
          rintro e w1 ⟨rfl, hb1⟩
          have M1 := hid (HM.out.below hb1)
          have B1 := hid (btr HB.out hb1)
          clear hb1
          rw [hE1]
          go_wp2_with fail
          refine (trim_any t _ hts).mono ?_
          rintro e w' ⟨rfl, rfl⟩
          go_wp2_with fail
          refine (isName_any _ _).mono ?_
          rintro e w2 ⟨rfl, hb2⟩
          have M2 := hid (M1.out.below hb2)
          have B2 := hid (btr B1.out hb2)
          have HK := hid (key_of (labN t) (by have := labN_size t; omega))
          clear hb2
          rw [hE2]
          go_wp2_with fail
          go_ret3
          refine ⟨bal B2.out _, .inr ⟨hlt, _, rfl, ?_⟩⟩
          rw [HE1.out (by trivial) hlt, hE9]
          refine .inr (.inr ⟨w2.heap.size, 0, rfl, World.cell?_alloc_at _ _ _ _ rfl, ?_⟩)
          rw [World.cell?_alloc_at _ _ _ _ rfl]
          rfl
        · go_wp2_with fail
          refine (isLabel_any t _ hts).mono ?_
          rintro e w1 ⟨rfl, hb1⟩
          have M1 := hid (HM.out.below hb1)
          have B1 := hid (btr HB.out hb1)
          clear hb1
          rw [hE1]
          go_wp2_with fail
          refine (trim_any t _ hts).mono ?_
          rintro e w' ⟨rfl, rfl⟩
          go_wp2_with fail
          refine (isName_any _ _).mono ?_
          rintro e w2 ⟨rfl, hb2⟩
          have M2 := hid (M1.out.below hb2)
          have B2 := hid (btr B1.out hb2)
          have HK := hid (key_of (labN t) (by have := labN_size t; omega))
          clear hb2
          rw [hE2]
          go_wp2_with (at_lookup; refine wpList_lookup_own_ok_int _ rfl _ _ 86 rfl 9 3 .i64 law Tryd.underlying86 Tryd.underlying3 (zeroE _) w.heap.size k q.1 rfl M2.out _ _ rfl HK.out ?_; intro c hat hwc; clear hat)
          go_ret3
          refine ⟨bal B2.out _, .inr ⟨hlt, _, rfl, ?_⟩⟩
          rw [HE1.out (by trivial) hlt, hE9]
          refine .inr (.inr ⟨w2.heap.size, 0, rfl, World.cell?_alloc_at _ _ _ _ rfl, ?_⟩)
          rw [World.cell?_alloc_at _ _ _ _ rfl]
          rfl
    · obtain rfl : k = ls.length := by omega
      obtain rfl : m = ls.length := by omega
      have hge : ¬ ((ls.length : Int) < (ls.length : Int)) := by omega
      go_wp2_with fail
      go_ret3
      exact ⟨HB.out, .inl ⟨rfl, HM.out⟩⟩
end Go.Proofs.YtfpkbfhaipgibaaDoor.Prs
