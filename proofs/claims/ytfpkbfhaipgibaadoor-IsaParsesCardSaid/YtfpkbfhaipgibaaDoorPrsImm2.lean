/- keyholdref.immRead, isa.opOf, walked. -/
import Derived.Test.YtfpkbfhaipgibaaDoorPrsImm
namespace Go.Proofs.YtfpkbfhaipgibaaDoor.Prs
open Go.RowKit Go.Maps Go.Proofs.YtfpkbfhaipgibaaDoor.Mem Go.Proofs.YtfpkbfhaipgibaaDoor.Hex Go.Proofs.YtfpkbfhaipgibaaDoor.Txt

theorem immN_of (t : ByteArray) (h : nameB' t = false) {v : Int} (hn : numR t = (v, true)) : immN t = if v < -32768 ∨ 32767 < v then (0, 2) else (v, 0) := by
  by_cases h3 : v < -32768 ∨ 32767 < v
  · rw [if_pos h3]; exact immN_far h (by rw [hn]) (by rw [hn]; exact h3)
  · rw [if_neg h3, immN_ok h (by rw [hn]) (by rw [hn]; exact h3), hn]
set_option maxRecDepth 100000 in
set_option maxHeartbeats 4000000 in
theorem immRead_any (t : ByteArray) (b n : Nat) (D : DataW Unit) (w : World) (hm : MapAt w b n D) (hs : t.size ≤ 100000) :
    Calls Tryd.prog 74 #[.string t, .map (some b)] w fun e w' => e = .returned (.tuple #[.int .i64 (immR D t).1, .int .i64 (immR D t).2]) ∧ Below w.heap.size w w' := by
  have HM := hid hm
  have HK := hid (key_of t hs)
  clear hm
  cases hh : Maps.has D (str t) with
  | true =>
    go_enter Tryd.func74, Tryd.ntmps74
    go_wp2_with (at_lookup; refine wpList_lookup_own_ok_int _ rfl _ _ 86 rfl 9 3 .i64 law Tryd.underlying86 Tryd.underlying3 (zeroE _) b n D rfl HM.out _ _ rfl HK.out ?_; intro c hat hwc; have HA := hid hat; clear hat)
    go_ret2
    exact ⟨by rw [immR_has hh HA.out]; rfl, Below.refl _ _⟩
  | false =>
    have HI := hid (immR_not hh)
    go_enter Tryd.func74, Tryd.ntmps74
    go_wp2_with (at_lookup; refine wpList_lookup_own_ok_int _ rfl _ _ 86 rfl 9 3 .i64 law Tryd.underlying86 Tryd.underlying3 (zeroE _) b n D rfl HM.out _ _ rfl HK.out ?_; intro c hat hwc; clear hat)
    refine (refLabel_any _ _).mono ?_
    rintro e w1 ⟨rfl, hb1⟩
    have B1 := hid hb1
    clear hb1 hh
    cases hn : nameB' t with
    | true =>
      go_wp2_with fail
      go_ret2
      exact ⟨by rw [HI.out, immN_name hn]; rfl, B1.out⟩
    | false =>
      have HN := hid hn
      clear hn
      by_cases hmin : ∃ h : 0 < t.size, t[0].toNat = 45
      · obtain ⟨hp, h45⟩ := hmin
        obtain ⟨hm1, hm2⟩ := minus_yes hp h45
        have he := not_empty' (s := t) (by omega)
        have hp2 : (0 : Int) < (t.size : Int) := by omega
        have hp3 : (1 : Int) ≤ (t.size : Int) := by omega
        have h45i : (t[0].toNat : Int) = 45 := by omega
        have HDG := hid (show ∀ w, Calls Tryd.prog 93 #[.string (t.extract 1 t.size)] w fun e w' => e = .returned (.int .i64 (decV (bodyB t))) ∧ Below w.heap.size w w' by rw [← hm2]; exact fun w => digits_any _ w)
        have HR := hid (show numR t = numD true (bodyB t) by unfold numR; rw [hm1])
        clear hm1 hm2 h45
        go_wp2_with fail
        refine (HDG.out _).mono ?_
        rintro e w2 ⟨rfl, hb2⟩
        have B2 := hid (btr B1.out hb2)
        clear hb2 h45i
        by_cases hnp : NumP true (bodyB t)
        · obtain ⟨hd1, hd2⟩ := dec_of_num hnp
          have hd3 := hd2 rfl
          have HI2 := hid (immN_of t HN.out (HR.out.trans (num_yes hnp)))
          rw [hd1]
          have hlt := decN_take_lt (bodyB t) (bodyB t).size (Nat.le_refl _) hnp.1.2.1 (fun j h _ => hnp.1.2.2.2 j h)
          rw [size_list, List.take_length] at hlt
          clear hd1 hd2 hnp
          generalize decN (bodyB t).data.toList = q at hd3 HI2 hlt
          by_cases h3 : -(q : Int) < -32768
          · have HF := hid (show immN t = (0, 2) by rw [HI2.out, if_pos (.inl (by simpa using h3))])
            go_wp2_with fail
            go_ret2
            exact ⟨by rw [HI.out, HF.out]; rfl, B2.out⟩
          · have h4 : ¬ (32767 : Int) < -(q : Int) := by omega
            have HF := hid (show immN t = (-(q : Int), 0) by rw [HI2.out, if_neg (by rw [if_pos rfl]; omega), if_pos rfl])
            go_wp2_with fail
            go_ret2
            exact ⟨by rw [HI.out, HF.out]; simp, B2.out⟩
        · have HI2 := hid (immN_no HN.out (by rw [HR.out, num_no hnp]))
          rcases dec_not_num hnp with hd | ⟨hd, _⟩
          all_goals
            rw [hd]
            clear hd
            go_wp2_with fail
            go_ret2
            exact ⟨by rw [HI.out, HI2.out]; rfl, B2.out⟩
      · obtain ⟨hm1, hm2⟩ := minus_no (t := t) (fun h e => hmin ⟨h, e⟩)
        have HR := hid (show numR t = numD false t by unfold numR; rw [hm1, hm2])
        have hz : t.size = 0 ∨ (∃ h : 0 < t.size, t[0].toNat ≠ 45) := by
          by_cases h : t.size = 0
          · exact .inl h
          · exact .inr ⟨by omega, fun e => hmin ⟨by omega, e⟩⟩
        clear hm1 hm2 hmin
        have hz2 : (t.toList.isEmpty = true) ∨ (t.toList.isEmpty = false ∧ ∃ h : 0 < t.size, t[0].toNat ≠ 45) := by
          rcases hz with h | ⟨h, e⟩
          · exact .inl (is_empty h)
          · exact .inr ⟨not_empty' (by omega), h, e⟩
        clear hz
        rcases hz2 with he | ⟨he, hp, h45⟩
        · go_wp2_with fail
          refine (digits_any _ _).mono ?_
          rintro e w2 ⟨rfl, hb2⟩
          have B2 := hid (btr B1.out hb2)
          clear hb2
          have hnp : ¬ NumP false t := fun e => e.1.1 (by rw [List.isEmpty_iff, ByteArray.toList_eq, ← List.length_eq_zero_iff] at he; exact he)
          have HI2 := hid (immN_no HN.out (by rw [HR.out, num_no hnp]))
          rcases dec_not_num hnp with hd | ⟨_, hd⟩
          · rw [hd]
            clear hd
            go_wp2_with fail
            go_ret2
            exact ⟨by rw [HI.out, HI2.out]; rfl, B2.out⟩
          · cases hd
        · have hp2 : (0 : Int) < (t.size : Int) := by omega
          have h45i : (t[0].toNat : Int) ≠ 45 := by omega
          go_wp2_with fail
          refine (digits_any _ _).mono ?_
          rintro e w2 ⟨rfl, hb2⟩
          have B2 := hid (btr B1.out hb2)
          clear hb2 h45 h45i
          by_cases hnp : NumP false t
          · have hd1 := (dec_of_num hnp).1
            have HI2 := hid (immN_of t HN.out (HR.out.trans (num_yes hnp)))
            rw [hd1]
            have hlt := decN_take_lt t t.size (Nat.le_refl _) hnp.1.2.1 (fun j h _ => hnp.1.2.2.2 j h)
            rw [size_list, List.take_length] at hlt
            clear hd1 hnp
            generalize decN t.data.toList = q at HI2 hlt
            by_cases h3 : (32767 : Int) < (q : Int)
            · have HF := hid (show immN t = (0, 2) by rw [HI2.out, if_pos (.inr (by simpa using h3))])
              go_wp2_with fail
              go_ret2
              exact ⟨by rw [HI.out, HF.out]; rfl, B2.out⟩
            · have h4 : ¬ (q : Int) < -32768 := by omega
              have HF := hid (show immN t = ((q : Int), 0) by rw [HI2.out, if_neg (by rw [if_neg (by decide)]; omega), if_neg (by decide)])
              go_wp2_with fail
              all_goals
                go_ret2
                refine ⟨?_, B2.out⟩
                rw [HI.out, HF.out]
                first
                | rfl
                | (simp; done)
                | (simp; omega)
          · have HI2 := hid (immN_no HN.out (by rw [HR.out, num_no hnp]))
            rcases dec_not_num hnp with hd | ⟨_, hd⟩
            · rw [hd]
              clear hd
              go_wp2_with fail
              go_ret2
              exact ⟨by rw [HI.out, HI2.out]; rfl, B2.out⟩
            · cases hd
end Go.Proofs.YtfpkbfhaipgibaaDoor.Prs
