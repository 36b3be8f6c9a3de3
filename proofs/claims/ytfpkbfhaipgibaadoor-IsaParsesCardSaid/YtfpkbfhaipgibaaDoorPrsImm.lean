/- isa.parseImm, keyholdref.immRead, walked: a number, or what a label stands for. -/
import Derived.Test.YtfpkbfhaipgibaaDoorPrsNum2
import Derived.Test.YtfpkbfhaipgibaaDoorPrsRef
import Derived.Maps.OwnSet
import Derived.StringKeys
namespace Go.Proofs.YtfpkbfhaipgibaaDoor.Prs
open Go.RowKit Go.Maps Go.Proofs.YtfpkbfhaipgibaaDoor.Mem Go.Proofs.YtfpkbfhaipgibaaDoor.Hex Go.Proofs.YtfpkbfhaipgibaaDoor.Txt

theorem law : Keyed Tryd.prog 9 := string_keyed Tryd.underlying9
theorem zeroE (w : World) : (zeroValue 3).run Tryd.prog w = .ok (.int .i64 0) w := by kernel_rfl
/-- Block b is a map of at most n entries that reads as D. -/
def MapAt (w : World) (b n : Nat) (D : DataW Unit) : Prop := w.ownsMap Tryd.prog 9 (plainElem Tryd.prog 3) b n D
theorem MapAt.keep {w w' : World} {b n B : Nat} {D : DataW Unit} (h : MapAt w b n D) (hb : Below B w w') (hB : b < B) : MapAt w' b n D := by
  obtain ⟨es, clock, h1, h2⟩ := h
  exact ⟨es, clock, (hb.block b hB).trans h1, h2⟩
theorem MapAt.below {w w' : World} {b n : Nat} {D : DataW Unit} (h : MapAt w b n D) (hb : Below w.heap.size w w') : MapAt w' b n D := h.keep hb h.lt
theorem key_of (t : ByteArray) (h : t.size ≤ 100000) : keyOf Tryd.prog 9 (.string t) = some (str t) := WideMaps.keyOf_string_mk Tryd.underlying9 (by unfold maxLen; omega)
theorem parseImm_none (b : Nat) (w : World) :
    Calls Tryd.prog 102 #[.string ⟨#[]⟩, .bool false, .map (some b)] w fun e w' => e = .returned (.tuple #[.int .i64 0, .iface 23 (.int .i64 10)]) ∧ Below w.heap.size w w' := by
  go_enter Tryd.func102, Tryd.ntmps102
  go_wp2_with fail
  go_ret2
  exact ⟨rfl, Below.refl _ _⟩
theorem immR_has {D : DataW Unit} {t : ByteArray} {c : Int} (h : Maps.has D (str t) = true) (hc : D.atKey (str t) (.lit (.int .i64 0)) = .lit (.int .i64 c)) : immR D t = (c, 0) := by
  unfold immR; rw [if_pos h, valOf_at hc]
theorem immR_not {D : DataW Unit} {t : ByteArray} (h : Maps.has D (str t) = false) : immR D t = immN t := by
  unfold immR; rw [if_neg (by rw [h]; decide)]
theorem immN_name {t : ByteArray} (h : nameB' t = true) : immN t = (0, 11) := by unfold immN; rw [if_pos h]
theorem immN_no {t : ByteArray} (h : nameB' t = false) (h2 : (numR t).2 = false) : immN t = (0, 1) := by unfold immN; rw [if_neg (by rw [h]; decide), if_pos h2]
theorem immN_far {t : ByteArray} (h : nameB' t = false) (h2 : (numR t).2 = true) (h3 : (numR t).1 < -32768 ∨ 32767 < (numR t).1) : immN t = (0, 2) := by
  unfold immN; rw [if_neg (by rw [h]; decide), if_neg (by rw [h2]; decide), if_pos h3]
theorem immN_ok {t : ByteArray} (h : nameB' t = false) (h2 : (numR t).2 = true) (h3 : ¬ ((numR t).1 < -32768 ∨ 32767 < (numR t).1)) : immN t = ((numR t).1, 0) := by
  unfold immN; rw [if_neg (by rw [h]; decide), if_neg (by rw [h2]; decide), if_neg h3]
set_option maxRecDepth 100000 in
set_option maxHeartbeats 2000000 in
theorem parseImm_some (t : ByteArray) (b n : Nat) (D : DataW Unit) (w : World) (hm : MapAt w b n D) (hs : t.size ≤ 100000) :
    Calls Tryd.prog 102 #[.string t, .bool true, .map (some b)] w fun e w' => e = .returned (.tuple #[.int .i64 (immR D t).1, errV (immR D t).2]) ∧ Below w.heap.size w w' := by
  have HM := hid hm
  have HK := hid (key_of t hs)
  clear hm
  cases hh : Maps.has D (str t) with
  | true =>
    go_enter Tryd.func102, Tryd.ntmps102
    go_wp2_with (at_lookup; refine wpList_lookup_own_ok_int _ rfl _ _ 86 rfl 9 3 .i64 law Tryd.underlying86 Tryd.underlying3 (zeroE _) b n D rfl HM.out _ _ rfl HK.out ?_; intro c hat hwc; have HA := hid hat; clear hat)
    go_ret2
    exact ⟨by rw [immR_has hh HA.out]; rfl, Below.refl _ _⟩
  | false =>
    have HI := hid (immR_not hh)
    go_enter Tryd.func102, Tryd.ntmps102
    go_wp2_with (at_lookup; refine wpList_lookup_own_ok_int _ rfl _ _ 86 rfl 9 3 .i64 law Tryd.underlying86 Tryd.underlying3 (zeroE _) b n D rfl HM.out _ _ rfl HK.out ?_; intro c hat hwc; clear hat)
    refine (isName_any _ _).mono ?_
    rintro e w1 ⟨rfl, hb1⟩
    have B1 := hid hb1
    clear hb1 hh
    cases hn : nameB' t with
    | true =>
      go_wp2_with fail
      go_ret2
      exact ⟨by rw [HI.out, immN_name hn]; rfl, B1.out⟩
    | false =>
      go_wp2_with fail
      refine (readNumber_any _ _).mono ?_
      rintro e w2 ⟨rfl, hb2⟩
      have B2 := hid (btr B1.out hb2)
      clear hb2
      have HN := hid hn
      cases h2 : (numR t).2 with
      | false =>
        go_wp2_with fail
        go_ret2
        exact ⟨by rw [HI.out, immN_no HN.out h2]; rfl, B2.out⟩
      | true =>
        generalize hv : (numR t).1 = v
        have HV := hid hv
        have H2 := hid h2
        clear hv h2
        by_cases h3 : v < -32768
        · have HF := hid (immN_far HN.out H2.out (.inl (by rw [HV.out]; exact h3)))
          go_wp2_with fail
          go_ret2
          exact ⟨by rw [HI.out, HF.out]; rfl, B2.out⟩
        · by_cases h4 : 32767 < v
          · have HF := hid (immN_far HN.out H2.out (.inr (by rw [HV.out]; exact h4)))
            go_wp2_with fail
            go_ret2
            exact ⟨by rw [HI.out, HF.out]; rfl, B2.out⟩
          · have HF := hid (immN_ok HN.out H2.out (by rw [HV.out]; omega))
            go_wp2_with fail
            go_ret2
            exact ⟨by rw [HI.out, HF.out, HV.out]; rfl, B2.out⟩
theorem head_list {t : ByteArray} (h : 0 < t.size) : t.data.toList = t[0] :: t.data.toList.drop 1 := by
  have := List.drop_eq_getElem_cons (l := t.data.toList) (i := 0) (by rw [← size_list]; exact h)
  show t.data.toList = t.data[0] :: t.data.toList.drop 1
  simpa using this
theorem minus_yes {t : ByteArray} (h : 0 < t.size) (h0 : t[0].toNat = 45) : minusB t = true ∧ bodyB t = t.extract 1 t.size := by
  have e := head_list h
  have e0 : t[0] = 45 := by rw [← UInt8.toNat_inj]; exact h0
  have hm : minusB t = true := by unfold minusB Lib.hasPrefix; rw [e, e0]; rfl
  refine ⟨hm, ?_⟩
  unfold minusB at hm
  unfold bodyB Lib.trimPrefix
  rw [if_pos hm]
  apply bytes_ext
  rw [Lib.extract_data, List.take_of_length_le (by rw [List.length_drop, ← size_list]; omega)]
  rfl
theorem minus_no {t : ByteArray} (h : ∀ h : 0 < t.size, t[0].toNat ≠ 45) : minusB t = false ∧ bodyB t = t := by
  have hm : minusB t = false := by
    unfold minusB Lib.hasPrefix
    by_cases hp : 0 < t.size
    · rw [head_list hp]
      have : (45 : UInt8) ≠ t[0] := fun e => h hp (by rw [← e]; rfl)
      simp [List.isPrefixOf, this]
    · have : t.data.toList = [] := List.length_eq_zero_iff.1 (by rw [← size_list]; omega)
      rw [this]
      rfl
  refine ⟨hm, ?_⟩
  unfold minusB at hm
  unfold bodyB Lib.trimPrefix
  rw [if_neg (by rw [hm]; decide)]
end Go.Proofs.YtfpkbfhaipgibaaDoor.Prs
