/- keyholdref.CodeRead, walked. -/
import Derived.Test.YtfpkbfhaipgibaaDoorPrsParse
import Derived.Test.YtfpkbfhaipgibaaDoorPrsIns
namespace Go.Proofs.YtfpkbfhaipgibaaDoor.Prs
open Go.RowKit Go.Maps Go.Proofs.YtfpkbfhaipgibaaDoor.Mem Go.Proofs.YtfpkbfhaipgibaaDoor.Hex Go.Proofs.YtfpkbfhaipgibaaDoor.Txt Go.Proofs.YtfpkbfhaipgibaaDoor.Isa

theorem last_list {t : ByteArray} {L : Nat} (hL : t.size = L + 1) : t.data.toList = t.data.toList.take L ++ [t[L]] := by
  have h : L < t.data.toList.length := by rw [← size_list]; omega
  have := List.take_succ_eq_append_getElem h
  rw [List.take_of_length_le (by rw [← size_list]; omega)] at this
  exact this
theorem suf_yes {t : ByteArray} {L : Nat} (hL : t.size = L + 1) (h58 : t[L].toNat = 58) : Lib.hasSuffix t.data.toList [58] = true ∧ labN t = t.extract 0 L := by
  have e0 : t[L] = 58 := by rw [← UInt8.toNat_inj]; exact h58
  have h1 : Lib.hasSuffix t.data.toList [58] = true := by
    unfold Lib.hasSuffix
    rw [List.isSuffixOf_iff_suffix, last_list hL, e0]
    exact ⟨_, rfl⟩
  refine ⟨h1, ?_⟩
  unfold labN Lib.trimSuffix
  rw [if_pos h1]
  apply bytes_ext
  rw [Lib.extract_data, ← size_list, hL]
  simp
theorem suf_no {t : ByteArray} {L : Nat} (hL : t.size = L + 1) (h58 : t[L].toNat ≠ 58) : Lib.hasSuffix t.data.toList [58] = false := by
  rw [← Bool.not_eq_true]
  intro h
  unfold Lib.hasSuffix at h
  rw [List.isSuffixOf_iff_suffix] at h
  obtain ⟨k, hk⟩ := h
  rw [last_list hL] at hk
  have := (List.append_inj' hk rfl).2
  simp at this
  exact h58 (by rw [← this]; rfl)
theorem suf_empty {t : ByteArray} (h : t.size = 0) : Lib.hasSuffix t.data.toList [58] = false := by
  rw [size_list] at h
  rw [List.length_eq_zero_iff.1 h]
  rfl
theorem codeRead_long (s : ByteArray) (w : World) (h : 4000 < s.size) :
    Calls Tryd.prog 8 #[.string s] w fun e w' => e = .returned (.tuple #[.slice none 0 0, .agg #[.int .i64 2, .int .i64 (-1)]]) ∧ Below w.heap.size w w' := by
  have h2 : 4000 < (s.size : Int) := by omega
  go_enter Tryd.func8, Tryd.ntmps8
  go_wp2_with fail
  refine (err_any _ _).mono ?_
  rintro e w1 ⟨rfl, hb1⟩
  have c1 := cells_next (cells_new w #[.int .i64 0, .int .i64 0] 25) (by simp) hb1
  have f1 : ∀ o, w1.frozen? ⟨w.heap.size, o, none⟩ = false := fun o => (hb1.frozen (p := ⟨w.heap.size, o, none⟩) (by simp)).trans (World.frozen?_alloc_at _ _ _ _ rfl)
  have B1 := hid (btr (bal (Below.refl _ _) _) hb1)
  clear hb1
  go_wp2_with fail
  have q := two_set (v0 := .int .i64 2) (v1 := .int .i64 (-1)) c1
  exact bodyPost_ret (v := .tuple #[.slice none 0 0, .agg #[.int .i64 2, .int .i64 (-1)]]) (by simp [results, Tryd.results8, go_sem, q 0, q 1]) rfl ⟨rfl, bset (bset B1.out (Nat.le_refl _) _) (Nat.le_refl _) _⟩
theorem insRead_line (t : ByteArray) (cb cc b n : Nat) (D : DataW Unit) (w : World) (hS : StrsAt w cb 0 (cutB 32 t)) (hD : MapAt w b n D) (hR : RN w) (ht : t.size ≤ 99999) :
    Calls Tryd.prog 39 #[.slice (some ⟨cb, 0, none⟩) (cutB 32 t).length cc, .map (some b)] w fun e w' => e = .returned (.tuple #[insA (insR D t).2, .int .i64 (insR D t).1]) ∧ Below w.heap.size w w' := by
  obtain ⟨x, rs, hx⟩ := cutB_cons t
  have hl : (cutB 32 t).length ≤ 100000 := by
    have := cutL_len 32 t.data.toList
    rw [← size_list] at this
    simp only [cutB, List.length_map]
    omega
  have hy : ∀ y ∈ cutB 32 t, y.size ≤ 100000 := fun y h => by
    unfold cutB at h
    obtain ⟨l, hl, rfl⟩ := List.mem_map.1 h
    have := cutL_mem_len 32 t.data.toList l hl
    simp only [ByteArray.size, List.size_toArray]
    rw [← size_list] at this
    omega
  unfold insR
  rw [hx] at hS hl hy ⊢
  exact insRead_any x rs _ cb 0 cc b n D w rfl hl hS hD hR hy
theorem Rows4.far {w : World} {v : Value} {l : List (Int × Int × Int × Int)} (h : Rows4 w v l) {B i : Nat} (hB : ∀ b, v.ownBlock = some b → B ≠ b) (u : Value) : Rows4 (w.setCell ⟨B, i, none⟩ u) v l := by
  obtain ⟨p, cap, h1, h2, h3⟩ := h
  refine ⟨p, cap, h1, h2, fun hl => ?_⟩
  obtain ⟨b, h4, h5⟩ := h3 hl
  have hne : B ≠ b := hB b (by rw [h1, h4]; rfl)
  refine ⟨b, h4, fun j hj => ?_⟩
  obtain ⟨e0, e1, e2, e3⟩ := h5 j hj
  refine ⟨?_, ?_, ?_, ?_⟩
  · rw [World.cell?_setCell_other _ _ _ _ (fun e => hne (congrArg Addr.block e))]; exact e0
  · rw [World.cell?_setCell_other _ _ _ _ (fun e => hne (congrArg Addr.block e))]; exact e1
  · rw [World.cell?_setCell_other _ _ _ _ (fun e => hne (congrArg Addr.block e))]; exact e2
  · rw [World.cell?_setCell_other _ _ _ _ (fun e => hne (congrArg Addr.block e))]; exact e3
/-- What CodeRead answers. -/
def Read (ls : List ByteArray) (m m2 : Nat) (w' : World) (v : Value) (x y : Int) : Prop :=
  (∃ h : m < ls.length, v = .slice none 0 0 ∧ x = labE (upTo ls m).1 ls[m] ∧ y = m) ∨
  (m = ls.length ∧ 40 < (upTo ls ls.length).2 ∧ v = .slice none 0 0 ∧ x = 2 ∧ y = -1) ∨
  (m = ls.length ∧ ¬ 40 < (upTo ls ls.length).2 ∧ ∃ h : m2 < ls.length, v = .slice none 0 0 ∧ x = lineE (upTo ls ls.length).1 ls[m2] ∧ y = m2) ∨
  (m = ls.length ∧ ¬ 40 < (upTo ls ls.length).2 ∧ m2 = ls.length ∧ x = 0 ∧ y = -1 ∧ Rows4 w' v (codeL (upTo ls ls.length).1 ls))
set_option maxRecDepth 100000 in
set_option maxHeartbeats 8000000 in
theorem codeRead_some (s : ByteArray) (m m2 : Nat) (w : World) (hR : RN w) (h40 : s.size ≤ 4000) (hE : Ends (linesB s) m m2) (hl : (linesB s).length ≤ 100001) (hz : ∀ t ∈ linesB s, t.size ≤ 99999) :
    Calls Tryd.prog 8 #[.string s] w fun e w' => ∃ v x y, e = .returned (.tuple #[v, .agg #[.int .i64 x, .int .i64 y]]) ∧ Below w.heap.size w w' ∧ Read (linesB s) m m2 w' v x y := by
  obtain ⟨i0, hi, hz0, hz1, hz2⟩ := info_parts infoIns
  have h4i : ¬ (4000 : Int) < (s.size : Int) := by omega
  have hmle := hE.hm
  have HR := hid hR
  have HE := hid hE
  have HZ := hid hz
  have HL := hid (refLines_any s (w.alloc (.cells #[.int .i64 0, .int .i64 0] 25)) (by omega))
  clear hR hE hz h40
  generalize linesB s = ls at *
  have hmm := @run_makeMap Tryd.prog
  go_enter Tryd.func8, Tryd.ntmps8
  go_wp2_with fail
  refine HL.out.mono ?_
  rintro e w1 ⟨lb, lc, rfl, hS, hb1⟩
  have S1 := hid hS
  have c1 := cells_next (cells_new w #[.int .i64 0, .int .i64 0] 25) (by simp) hb1
  have f1 : ∀ o, w1.frozen? ⟨w.heap.size, o, none⟩ = false := fun o => (hb1.frozen (p := ⟨w.heap.size, o, none⟩) (by simp)).trans (World.frozen?_alloc_at _ _ _ _ rfl)
  have B1 := hid (btr (bal (Below.refl _ _) _) hb1)
  have z1 : w.heap.size < w1.heap.size := by have := hb1.size; simp at this; omega
  have hlb : ls = [] ∨ lb < w1.heap.size := by
    cases ls with
    | nil => exact .inl rfl
    | cons a r => exact .inr (World.block_lt_of_cell? _ _ (hS 0 (by simp)))
  clear hS hb1 HL
  go_wp2_with fail
  go_loopw [6, 7] (fun v i wr => ∃ k : Nat, k ≤ m ∧ i = .int .i64 k ∧ v = .int .i64 (upTo ls k).2 ∧ MapAt wr w1.heap.size k (upTo ls k).1 ∧ Below w1.heap.size w1 wr) (fun _ i _ => ls.length - (intOf i).toNat)
  case atStart => exact ⟨0, by omega, rfl, rfl, World.ownsMap_made _ _ _ _, bal (Below.refl _ _) _⟩
  case round =>
    obtain ⟨k, hk, rfl, rfl, hM, hB⟩ := hrel
    have HM := hid hM
    have HB := hid hB
    have zr : w1.heap.size ≤ wr.heap.size := hB.size
    have cr := cells_next c1 z1 hB
    have fr : ∀ o, wr.frozen? ⟨w.heap.size, o, none⟩ = false := fun o => (hB.frozen (p := ⟨w.heap.size, o, none⟩) z1).trans (f1 o)
    clear hM hB
    have hn := upTo_le ls k
    by_cases hlt : k < ls.length
    · have hlt2 : (k : Int) < (ls.length : Int) := by omega
      have hc := (S1.out.below HB.out) k hlt
      rw [Nat.zero_add] at hc
      have hts := HZ.out ls[k] (List.getElem_mem hlt)
      have HU := hid (upTo_succ ls k hlt)
      have HV1 := hid (HE.out.hv k hlt)
      have HX1 := hid (show k = m → labE (upTo ls k).1 ls[k] ≠ 0 from fun e => by subst e; exact HE.out.hx hlt)
      have HE1 := hid (show ∀ e : k = m, ∀ h : m < ls.length, labE (upTo ls m).1 ls[m] = labE (upTo ls k).1 ls[k] from fun e h => by subst e; rfl)
      generalize ls[k] = t at hc hts HU HV1 HX1 HE1
      generalize upTo ls k = q at hn HM HU HV1 HX1 HE1 ⊢
      by_cases ht0 : t.size = 0
      · have hLF : labB t = false := by unfold labB; rw [suf_empty ht0]; rfl
        have he := is_empty ht0
        have hkm : k < m := by
          by_cases h : k < m
          · exact h
          · rcases labE_not (HX1.out (by omega)) with ⟨h, _⟩ | ⟨h, _⟩
            · rw [hLF] at h; cases h
            · rw [hLF] at h; cases h
        go_wp2_with fail
        refine ⟨⟨k + 1, by omega, by go_num, ?_, ?_, HB.out⟩, by simp [intOf]; omega⟩
        · rw [HU.out, step_no hLF]; go_num
        · rw [HU.out, step_no hLF]; exact World.ownsMap.mono HM.out (by omega)
      · obtain ⟨L, hL⟩ : ∃ L, t.size = L + 1 := ⟨t.size - 1, by omega⟩
        have he := not_empty' ht0
        have hLi : (t.size : Int) = (L : Int) + 1 := by omega
        have hLt : L < t.size := by omega
        by_cases h58 : t[L].toNat = 58
        · have h58i : (t[L].toNat : Int) = 58 := by omega
          obtain ⟨hs1, hs2⟩ := suf_yes hL h58
          have HLN := hid (show ∀ w, Calls Tryd.prog 38 #[.string (t.extract 0 L)] w fun e w' => e = .returned (.bool (nameB' (labN t))) ∧ Below w.heap.size w w' by rw [hs2]; exact fun w => refLabel_any _ w)
          have HK := hid (show keyOf Tryd.prog 9 (.string (t.extract 0 L)) = some (str (labN t)) by rw [← hs2]; exact key_of (labN t) (by have := labN_size t; omega))
          have HLB := hid (show labB t = !decide (0 ≤ Lib.indexByte t.data.toList 32) by unfold labB; rw [hs1]; rfl)
          have HCM := hid (cut_more t)
          have HCL := hid (show (cutB 32 t).length ≤ 100001 by
            have := cutL_len 32 t.data.toList
            rw [← size_list] at this
            simp only [cutB, List.length_map]
            omega)
          clear hs1 hs2 h58
          go_wp2_with fail
          refine (cut_any t 32 _ (by omega)).mono ?_
          rintro e w3 ⟨cb, cc, rfl, _, hb3⟩
          have M3 := hid (HM.out.below hb3)
          have B3 := hid (HB.out.trans (hb3.mono HB.out.size))
          have z3 : w1.heap.size ≤ w3.heap.size := by have := hb3.size; omega
          have c3 := cells_next cr (by omega) hb3
          have f3 : ∀ o, w3.frozen? ⟨w.heap.size, o, none⟩ = false := fun o => (hb3.frozen (p := ⟨w.heap.size, o, none⟩) (by show w.heap.size < _; omega)).trans (fr o)
          clear hb3 cr fr
          by_cases hmore : 1 < (cutB 32 t).length
          · have hLF : labB t = false := by rw [HLB.out, decide_eq_true (HCM.out.1 hmore)]; rfl
            have hmi : (1 : Int) < ((cutB 32 t).length : Int) := by omega
            have hkm : k < m := by
              by_cases h : k < m
              · exact h
              · rcases labE_not (HX1.out (by omega)) with ⟨h, _⟩ | ⟨h, _⟩
                · rw [hLF] at h; cases h
                · rw [hLF] at h; cases h
            go_wp2_with fail
            refine ⟨⟨k + 1, by omega, by go_num, ?_, ?_, B3.out⟩, by simp [intOf]; omega⟩
            · rw [HU.out, step_no hLF]; go_num
            · rw [HU.out, step_no hLF]; exact World.ownsMap.mono M3.out (by omega)
          · have hLT : labB t = true := by rw [HLB.out, decide_eq_false (fun h => hmore (HCM.out.2 h))]; rfl
            have hmi : ¬ (1 : Int) < ((cutB 32 t).length : Int) := by omega
            go_wp2_with fail
            refine (HLN.out _).mono ?_
            rintro e w4 ⟨rfl, hb4⟩
            have M4 := hid (M3.out.below hb4)
            have B4 := hid (B3.out.trans (hb4.mono B3.out.size))
            have c4 := cells_next c3 (by omega) hb4
            have f4 : ∀ o, w4.frozen? ⟨w.heap.size, o, none⟩ = false := fun o => (hb4.frozen (p := ⟨w.heap.size, o, none⟩) (by show w.heap.size < _; omega)).trans (f3 o)
            clear hb4 c3 f3
            by_cases hkm : k < m
            · rcases labE_zero (HV1.out hkm) with hE | ⟨_, hE2, hE3⟩
              · rw [hLT] at hE; cases hE
              · rw [hE2]
                go_wp2_with (first | (at_lookup; refine wpList_lookup_own_ok_int _ rfl _ _ 86 rfl 9 3 .i64 law Tryd.underlying86 Tryd.underlying3 (zeroE _) w1.heap.size k q.1 rfl M4.out _ _ rfl HK.out ?_; intro c hat hwc; clear hat) | (at_mapUpdate; refine wpList_mapUpdate_own _ rfl _ _ _ 86 rfl 9 3 law Tryd.underlying86 _ w1.heap.size k q.1 rfl M4.out (by unfold maxLen; omega) _ _ _ rfl rfl HK.out _ [] (plainElem_int Tryd.underlying3 (a := 2 * (q.2 : Int)) (WalkArith.wf_i64 (by omega))) ?_; intro w5 hown5 hgrow5))
                have B5 := hid (B4.out.grown hgrow5 (by have := B4.out.size; omega) (fun j hj => by cases hj; exact Nat.le_refl _))
                refine ⟨⟨k + 1, by omega, by go_num, ?_, ?_, B5.out⟩, by simp [intOf]; omega⟩
                · rw [HU.out, step_yes hLT]
                · rw [HU.out, step_yes hLT]; exact hown5
            · obtain rfl : k = m := by omega
              rcases labE_not (HX1.out (by trivial)) with ⟨_, hE2, hE9⟩ | ⟨_, hE2, hE3, hE9⟩
              · rw [hE2]
                go_wp2_with fail
                have q2 := two_set (v0 := .int .i64 11) (v1 := .int .i64 k) c4
                exact bodyPost_ret (v := .tuple #[.slice none 0 0, .agg #[.int .i64 11, .int .i64 k]]) (by simp [results, Tryd.results8, go_sem, q2 0, q2 1]) rfl ⟨_, _, _, rfl, bset (bset (B1.out.trans (B4.out.mono (by omega))) (Nat.le_refl _) _) (Nat.le_refl _) _, .inl ⟨hlt, rfl, by rw [HE1.out (by trivial) hlt, hE9], rfl⟩⟩
              · rw [hE2]
                go_wp2_with (at_lookup; refine wpList_lookup_own_ok_int _ rfl _ _ 86 rfl 9 3 .i64 law Tryd.underlying86 Tryd.underlying3 (zeroE _) w1.heap.size k q.1 rfl M4.out _ _ rfl HK.out ?_; intro c hat hwc; clear hat)
                have q2 := two_set (v0 := .int .i64 12) (v1 := .int .i64 k) c4
                exact bodyPost_ret (v := .tuple #[.slice none 0 0, .agg #[.int .i64 12, .int .i64 k]]) (by simp [results, Tryd.results8, go_sem, q2 0, q2 1]) rfl ⟨_, _, _, rfl, bset (bset (B1.out.trans (B4.out.mono (by omega))) (Nat.le_refl _) _) (Nat.le_refl _) _, .inl ⟨hlt, rfl, by rw [HE1.out (by trivial) hlt, hE9], rfl⟩⟩
        · have hLF : labB t = false := by unfold labB; rw [suf_no hL h58]; rfl
          have h58i : (t[L].toNat : Int) ≠ 58 := by omega
          have hkm : k < m := by
            by_cases h : k < m
            · exact h
            · rcases labE_not (HX1.out (by omega)) with ⟨h, _⟩ | ⟨h, _⟩
              · rw [hLF] at h; cases h
              · rw [hLF] at h; cases h
          go_wp2_with fail
          refine ⟨⟨k + 1, by omega, by go_num, ?_, ?_, HB.out⟩, by simp [intOf]; omega⟩
          · rw [HU.out, step_no hLF]; go_num
          · rw [HU.out, step_no hLF]; exact World.ownsMap.mono HM.out (by omega)
    · obtain rfl : k = ls.length := by omega
      obtain rfl : m = ls.length := by omega
      have hge : ¬ ((ls.length : Int) < (ls.length : Int)) := by omega
      by_cases hn40 : (40 : Int) < ((upTo ls ls.length).2 : Int)
      · have HQ := hid (show 40 < (upTo ls ls.length).2 by omega)
        go_wp2_with fail
        refine (err_any _ _).mono ?_
        rintro e w3 ⟨rfl, hb3⟩
        have c3 := cells_next cr (by omega) hb3
        have f3 : ∀ o, w3.frozen? ⟨w.heap.size, o, none⟩ = false := fun o => (hb3.frozen (p := ⟨w.heap.size, o, none⟩) (by show w.heap.size < _; omega)).trans (fr o)
        have B3 := hid (HB.out.trans (hb3.mono HB.out.size))
        clear hb3
        go_wp2_with fail
        have q2 := two_set (v0 := .int .i64 2) (v1 := .int .i64 (-1)) c3
        exact bodyPost_ret (v := .tuple #[.slice none 0 0, .agg #[.int .i64 2, .int .i64 (-1)]]) (by simp [results, Tryd.results8, go_sem, q2 0, q2 1]) rfl ⟨_, _, _, rfl, bset (bset (B1.out.trans (B3.out.mono (by omega))) (Nat.le_refl _) _) (Nat.le_refl _) _, .inr (.inl ⟨rfl, HQ.out, rfl, rfl, rfl⟩)⟩
      · have HQ := hid (show ¬ 40 < (upTo ls ls.length).2 by omega)
        have B2 := hid (B1.out.trans (HB.out.mono (by omega)))
        have S2 := hid (S1.out.below HB.out)
        have hbm : w1.heap.size < wr.heap.size := HM.out.lt
        have HV2 := hid HE.out.hv2
        have HX2 := hid HE.out.hx2
        have hm2 := HE.out.hm2
        have c2 := cr
        have f2 := fr
        clear HE HB c1 f1 cr fr
        generalize wr = w2 at *
        go_wp2_with fail
        go_loopw [11, 12] (fun v i wr => ∃ k : Nat, k ≤ m2 ∧ i = .int .i64 k ∧ wr.ownsRow w2.heap.size 34 4 v (codeL (upTo ls ls.length).1 (ls.take k)).length (cells4 (codeL (upTo ls ls.length).1 (ls.take k))) ∧ Below w2.heap.size w2 wr) (fun _ i _ => ls.length - (intOf i).toNat)
        case atStart => exact ⟨0, by omega, rfl, by simpa [codeL, cells4] using World.ownsRow_nil w2 w2.heap.size 34 4, Below.refl _ _⟩
        case round =>
          obtain ⟨k, hk, rfl, hO, hB⟩ := hrel
          have HO := hid hO
          have HB := hid hB
          clear hO hB
          have hcl := codeL_len (upTo ls ls.length).1 ls k
          by_cases hlt : k < ls.length
          · have hlt2 : (k : Int) < (ls.length : Int) := by omega
            have hc := (S2.out.below HB.out) k hlt
            rw [Nat.zero_add] at hc
            have hts := HZ.out ls[k] (List.getElem_mem hlt)
            have HTK := hid (List.take_succ_eq_append_getElem hlt)
            have HV1 := hid (HV2.out k hlt)
            have HX1 := hid (show k = m2 → lineE (upTo ls ls.length).1 ls[k] ≠ 0 from fun e => by subst e; exact HX2.out hlt)
            have HE1 := hid (show ∀ e : k = m2, ∀ h : m2 < ls.length, lineE (upTo ls ls.length).1 ls[m2] = lineE (upTo ls ls.length).1 ls[k] from fun e h => by subst e; rfl)
            generalize ls[k] = t at hc hts HTK HV1 HX1 HE1
            by_cases ht0 : t.size = 0
            · have hLF : labB t = false := by unfold labB; rw [suf_empty ht0]; rfl
              have he0 := is_empty ht0
              go_wp2_with fail
              refine (cut_any t 32 _ (by omega)).mono ?_
              rintro e wc ⟨cb, cc, rfl, hSc, hbc⟩
              have Oc := hid (Bld.own_below HO.out hbc)
              have Bc := hid (HB.out.trans (hbc.mono HB.out.size))
              have SC := hid hSc
              clear hSc hbc
              go_wp2_with fail
              refine (insRead_line t cb cc w1.heap.size ls.length (upTo ls ls.length).1 wc SC.out (HM.out.keep Bc.out hbm) (HR.out.below (B2.out.trans (Bc.out.mono (by omega)))) (by omega)).mono ?_
              rintro e w4 ⟨rfl, hb4⟩
              have O4 := hid (Bld.own_below Oc.out hb4)
              have B4 := hid (Bc.out.trans (hb4.mono Bc.out.size))
              clear hb4
              generalize hqq : insR (upTo ls ls.length).1 t = qq
              obtain ⟨er, qo, qa, qb, qi⟩ := qq
              have HQQ := hid hqq
              clear hqq
              by_cases hkm : k < m2
              · have he : er = 0 := by
                  rcases lineE_zero (HV1.out hkm) with h | ⟨_, h⟩
                  · rw [hLF] at h; cases h
                  · rw [HQQ.out] at h; exact h
                subst he
                unfold insA
                go_wp2_with (at_builtin; refine wpList_append_own _ rfl _ _ 22 rfl w2.heap.size 34 i0 (.agg #[.int .i64 0, .int .i64 0, .int .i64 0, .int .i64 0]) 4 32 Tryd.underlying22 hi hz0 hz1 hz2 rfl (by decide) _ _ _ rfl ((O4.out.alloc _).alloc _) ⟨w4.heap.size + 1, 0, none⟩ 1 1 [.int .i64 qo, .int .i64 qa, .int .i64 qb, .int .i64 qi] rfl rfl ?c1 (four_cell _ _ _ _) ?c3 ?c4 ?c5 ?_)
                case c1 => exact four_new' _ _ (by simp) _ _ _ _ _
                case c3 => unfold maxLen; omega
                case c4 => omega
                case c5 => have := B4.out.size; simp; omega
                intro v' w5 hown' hgrow _
                have B5 := hid (((B4.out.alloc B4.out.size _).alloc (by have := B4.out.size; simp; omega) _).grown hgrow (by have := B4.out.size; simp; omega) (fun k hk => (O4.out.lt k hk).1))
                have O5 := hid hown'
                clear hown' hgrow
                go_wp2_with fail
                refine ⟨⟨k + 1, by omega, by go_num, ?_, B5.out⟩, by simp [intOf]; omega⟩
                rw [HTK.out, codeL_snoc, if_neg (by rw [hLF]; decide), HQQ.out, cells4_snoc, List.length_append]
                exact O5.out
              · obtain rfl : k = m2 := by omega
                have hx := lineE_not (HX1.out (by trivial))
                rw [HQQ.out] at hx
                have he : er ≠ 0 := hx.2.1
                have heb : (er != 0) = true := by simpa using he
                have HEL := hid hx.2.2
                clear hx
                have z4 : w2.heap.size ≤ w4.heap.size := B4.out.size
                have c4 : ∀ o, w4.cell? ⟨w.heap.size, o, none⟩ = (#[.int .i64 0, .int .i64 0] : Array Value)[o]? := fun o => (B4.out.cell (p := ⟨w.heap.size, o, none⟩) (by show w.heap.size < _; omega)).trans (c2 o)
                have f4 : ∀ o, w4.frozen? ⟨w.heap.size, o, none⟩ = false := fun o => (B4.out.frozen (p := ⟨w.heap.size, o, none⟩) (by show w.heap.size < _; omega)).trans (f2 o)
                have c5 := cells_alloc c4 (by omega) (.cells #[.int .i64 qo, .int .i64 qa, .int .i64 qb, .int .i64 qi] 34)
                have f5 := froz_alloc f4 (by omega) (.cells #[.int .i64 qo, .int .i64 qa, .int .i64 qb, .int .i64 qi] 34)
                unfold insA
                go_wp2_with fail
                have q2 := two_set (v0 := .int .i64 er) (v1 := .int .i64 k) c5
                exact bodyPost_ret (v := .tuple #[.slice none 0 0, .agg #[.int .i64 er, .int .i64 k]]) (by simp [results, Tryd.results8, go_sem, q2 0, q2 1]) rfl ⟨_, _, _, rfl, bset (bset (bal (B2.out.trans (B4.out.mono (by omega))) _) (Nat.le_refl _) _) (Nat.le_refl _) _, .inr (.inr (.inl ⟨rfl, HQ.out, hlt, rfl, by rw [HE1.out (by trivial) hlt, HEL.out], rfl⟩))⟩
            · obtain ⟨L, hL⟩ : ∃ L, t.size = L + 1 := ⟨t.size - 1, by omega⟩
              have he0 := not_empty' ht0
              have hLi : (t.size : Int) = (L : Int) + 1 := by omega
              have hLt : L < t.size := by omega
              by_cases h58 : t[L].toNat = 58
              · have h58i : (t[L].toNat : Int) = 58 := by omega
                have HLB := hid (show labB t = !decide (0 ≤ Lib.indexByte t.data.toList 32) by unfold labB; rw [(suf_yes hL h58).1]; rfl)
                have HCM := hid (cut_more t)
                have hcp : 0 < (cutB 32 t).length := by obtain ⟨x, r, h⟩ := cutB_cons t; rw [h]; simp
                clear h58
                go_wp2_with fail
                refine (cut_any t 32 _ (by omega)).mono ?_
                rintro e w3 ⟨cb, cc, rfl, _, hb3⟩
                have O3 := hid (Bld.own_below HO.out hb3)
                have B3 := hid (HB.out.trans (hb3.mono HB.out.size))
                have hc := (S2.out.below B3.out)
                clear hb3
                by_cases hmore : 1 < (cutB 32 t).length
                · have hLF : labB t = false := by rw [HLB.out, decide_eq_true (HCM.out.1 hmore)]; rfl
                  have hmi : (((cutB 32 t).length : Int) == 1) = false := by simp; omega
                  have hmi2 : ((cutB 32 t).length : Int) ≠ 1 := by omega
                  go_wp2_with fail
                  refine (cut_any t 32 _ (by omega)).mono ?_
                  rintro e wc ⟨cb, cc, rfl, hSc, hbc⟩
                  have Oc := hid (Bld.own_below O3.out hbc)
                  have Bc := hid (B3.out.trans (hbc.mono B3.out.size))
                  have SC := hid hSc
                  clear hSc hbc
                  go_wp2_with fail
                  refine (insRead_line t cb cc w1.heap.size ls.length (upTo ls ls.length).1 wc SC.out (HM.out.keep Bc.out hbm) (HR.out.below (B2.out.trans (Bc.out.mono (by omega)))) (by omega)).mono ?_
                  rintro e w4 ⟨rfl, hb4⟩
                  have O4 := hid (Bld.own_below Oc.out hb4)
                  have B4 := hid (Bc.out.trans (hb4.mono Bc.out.size))
                  clear hb4
                  generalize hqq : insR (upTo ls ls.length).1 t = qq
                  obtain ⟨er, qo, qa, qb, qi⟩ := qq
                  have HQQ := hid hqq
                  clear hqq
                  by_cases hkm : k < m2
                  · have he : er = 0 := by
                      rcases lineE_zero (HV1.out hkm) with h | ⟨_, h⟩
                      · rw [hLF] at h; cases h
                      · rw [HQQ.out] at h; exact h
                    subst he
                    unfold insA
                    go_wp2_with (at_builtin; refine wpList_append_own _ rfl _ _ 22 rfl w2.heap.size 34 i0 (.agg #[.int .i64 0, .int .i64 0, .int .i64 0, .int .i64 0]) 4 32 Tryd.underlying22 hi hz0 hz1 hz2 rfl (by decide) _ _ _ rfl ((O4.out.alloc _).alloc _) ⟨w4.heap.size + 1, 0, none⟩ 1 1 [.int .i64 qo, .int .i64 qa, .int .i64 qb, .int .i64 qi] rfl rfl ?c1 (four_cell _ _ _ _) ?c3 ?c4 ?c5 ?_)
                    case c1 => exact four_new' _ _ (by simp) _ _ _ _ _
                    case c3 => unfold maxLen; omega
                    case c4 => omega
                    case c5 => have := B4.out.size; simp; omega
                    intro v' w5 hown' hgrow _
                    have B5 := hid (((B4.out.alloc B4.out.size _).alloc (by have := B4.out.size; simp; omega) _).grown hgrow (by have := B4.out.size; simp; omega) (fun k hk => (O4.out.lt k hk).1))
                    have O5 := hid hown'
                    clear hown' hgrow
                    go_wp2_with fail
                    refine ⟨⟨k + 1, by omega, by go_num, ?_, B5.out⟩, by simp [intOf]; omega⟩
                    rw [HTK.out, codeL_snoc, if_neg (by rw [hLF]; decide), HQQ.out, cells4_snoc, List.length_append]
                    exact O5.out
                  · obtain rfl : k = m2 := by omega
                    have hx := lineE_not (HX1.out (by trivial))
                    rw [HQQ.out] at hx
                    have he : er ≠ 0 := hx.2.1
                    have heb : (er != 0) = true := by simpa using he
                    have HEL := hid hx.2.2
                    clear hx
                    have z4 : w2.heap.size ≤ w4.heap.size := B4.out.size
                    have c4 : ∀ o, w4.cell? ⟨w.heap.size, o, none⟩ = (#[.int .i64 0, .int .i64 0] : Array Value)[o]? := fun o => (B4.out.cell (p := ⟨w.heap.size, o, none⟩) (by show w.heap.size < _; omega)).trans (c2 o)
                    have f4 : ∀ o, w4.frozen? ⟨w.heap.size, o, none⟩ = false := fun o => (B4.out.frozen (p := ⟨w.heap.size, o, none⟩) (by show w.heap.size < _; omega)).trans (f2 o)
                    have c5 := cells_alloc c4 (by omega) (.cells #[.int .i64 qo, .int .i64 qa, .int .i64 qb, .int .i64 qi] 34)
                    have f5 := froz_alloc f4 (by omega) (.cells #[.int .i64 qo, .int .i64 qa, .int .i64 qb, .int .i64 qi] 34)
                    unfold insA
                    go_wp2_with fail
                    have q2 := two_set (v0 := .int .i64 er) (v1 := .int .i64 k) c5
                    exact bodyPost_ret (v := .tuple #[.slice none 0 0, .agg #[.int .i64 er, .int .i64 k]]) (by simp [results, Tryd.results8, go_sem, q2 0, q2 1]) rfl ⟨_, _, _, rfl, bset (bset (bal (B2.out.trans (B4.out.mono (by omega))) _) (Nat.le_refl _) _) (Nat.le_refl _) _, .inr (.inr (.inl ⟨rfl, HQ.out, hlt, rfl, by rw [HE1.out (by trivial) hlt, HEL.out], rfl⟩))⟩
                · have hLT : labB t = true := by rw [HLB.out, decide_eq_false (fun h => hmore (HCM.out.2 h))]; rfl
                  have hmi : ((cutB 32 t).length : Int) = 1 := by omega
                  have hkm : k < m2 := by
                    by_cases h : k < m2
                    · exact h
                    · have := lineE_not (HX1.out (by omega))
                      rw [hLT] at this
                      cases this.1
                  go_wp2_with fail
                  refine ⟨⟨k + 1, by omega, by go_num, ?_, B3.out⟩, by simp [intOf]; omega⟩
                  rw [HTK.out, codeL_snoc, if_pos hLT, List.append_nil]
                  exact O3.out
              · have hLF : labB t = false := by unfold labB; rw [suf_no hL h58]; rfl
                have h58i : (t[L].toNat : Int) ≠ 58 := by omega
                go_wp2_with fail
                refine (cut_any t 32 _ (by omega)).mono ?_
                rintro e wc ⟨cb, cc, rfl, hSc, hbc⟩
                have Oc := hid (Bld.own_below HO.out hbc)
                have Bc := hid (HB.out.trans (hbc.mono HB.out.size))
                have SC := hid hSc
                clear hSc hbc
                go_wp2_with fail
                refine (insRead_line t cb cc w1.heap.size ls.length (upTo ls ls.length).1 wc SC.out (HM.out.keep Bc.out hbm) (HR.out.below (B2.out.trans (Bc.out.mono (by omega)))) (by omega)).mono ?_
                rintro e w4 ⟨rfl, hb4⟩
                have O4 := hid (Bld.own_below Oc.out hb4)
                have B4 := hid (Bc.out.trans (hb4.mono Bc.out.size))
                clear hb4
                generalize hqq : insR (upTo ls ls.length).1 t = qq
                obtain ⟨er, qo, qa, qb, qi⟩ := qq
                have HQQ := hid hqq
                clear hqq
                by_cases hkm : k < m2
                · have he : er = 0 := by
                    rcases lineE_zero (HV1.out hkm) with h | ⟨_, h⟩
                    · rw [hLF] at h; cases h
                    · rw [HQQ.out] at h; exact h
                  subst he
                  unfold insA
                  go_wp2_with (at_builtin; refine wpList_append_own _ rfl _ _ 22 rfl w2.heap.size 34 i0 (.agg #[.int .i64 0, .int .i64 0, .int .i64 0, .int .i64 0]) 4 32 Tryd.underlying22 hi hz0 hz1 hz2 rfl (by decide) _ _ _ rfl ((O4.out.alloc _).alloc _) ⟨w4.heap.size + 1, 0, none⟩ 1 1 [.int .i64 qo, .int .i64 qa, .int .i64 qb, .int .i64 qi] rfl rfl ?c1 (four_cell _ _ _ _) ?c3 ?c4 ?c5 ?_)
                  case c1 => exact four_new' _ _ (by simp) _ _ _ _ _
                  case c3 => unfold maxLen; omega
                  case c4 => omega
                  case c5 => have := B4.out.size; simp; omega
                  intro v' w5 hown' hgrow _
                  have B5 := hid (((B4.out.alloc B4.out.size _).alloc (by have := B4.out.size; simp; omega) _).grown hgrow (by have := B4.out.size; simp; omega) (fun k hk => (O4.out.lt k hk).1))
                  have O5 := hid hown'
                  clear hown' hgrow
                  go_wp2_with fail
                  refine ⟨⟨k + 1, by omega, by go_num, ?_, B5.out⟩, by simp [intOf]; omega⟩
                  rw [HTK.out, codeL_snoc, if_neg (by rw [hLF]; decide), HQQ.out, cells4_snoc, List.length_append]
                  exact O5.out
                · obtain rfl : k = m2 := by omega
                  have hx := lineE_not (HX1.out (by trivial))
                  rw [HQQ.out] at hx
                  have he : er ≠ 0 := hx.2.1
                  have heb : (er != 0) = true := by simpa using he
                  have HEL := hid hx.2.2
                  clear hx
                  have z4 : w2.heap.size ≤ w4.heap.size := B4.out.size
                  have c4 : ∀ o, w4.cell? ⟨w.heap.size, o, none⟩ = (#[.int .i64 0, .int .i64 0] : Array Value)[o]? := fun o => (B4.out.cell (p := ⟨w.heap.size, o, none⟩) (by show w.heap.size < _; omega)).trans (c2 o)
                  have f4 : ∀ o, w4.frozen? ⟨w.heap.size, o, none⟩ = false := fun o => (B4.out.frozen (p := ⟨w.heap.size, o, none⟩) (by show w.heap.size < _; omega)).trans (f2 o)
                  have c5 := cells_alloc c4 (by omega) (.cells #[.int .i64 qo, .int .i64 qa, .int .i64 qb, .int .i64 qi] 34)
                  have f5 := froz_alloc f4 (by omega) (.cells #[.int .i64 qo, .int .i64 qa, .int .i64 qb, .int .i64 qi] 34)
                  unfold insA
                  go_wp2_with fail
                  have q2 := two_set (v0 := .int .i64 er) (v1 := .int .i64 k) c5
                  exact bodyPost_ret (v := .tuple #[.slice none 0 0, .agg #[.int .i64 er, .int .i64 k]]) (by simp [results, Tryd.results8, go_sem, q2 0, q2 1]) rfl ⟨_, _, _, rfl, bset (bset (bal (B2.out.trans (B4.out.mono (by omega))) _) (Nat.le_refl _) _) (Nat.le_refl _) _, .inr (.inr (.inl ⟨rfl, HQ.out, hlt, rfl, by rw [HE1.out (by trivial) hlt, HEL.out], rfl⟩))⟩
          · obtain rfl : k = ls.length := by omega
            obtain rfl : m2 = ls.length := by omega
            have hge : ¬ ((ls.length : Int) < (ls.length : Int)) := by omega
            have O := HO.out
            rw [List.take_length] at O hcl
            have z3 : w2.heap.size ≤ wr.heap.size := HB.out.size
            have c3 : ∀ o, wr.cell? ⟨w.heap.size, o, none⟩ = (#[.int .i64 0, .int .i64 0] : Array Value)[o]? := fun o => (HB.out.cell (p := ⟨w.heap.size, o, none⟩) (by show w.heap.size < _; omega)).trans (c2 o)
            have f3 : ∀ o, wr.frozen? ⟨w.heap.size, o, none⟩ = false := fun o => (HB.out.frozen (p := ⟨w.heap.size, o, none⟩) (by show w.heap.size < _; omega)).trans (f2 o)
            obtain ⟨hRR, p, n', cap', hv, hob⟩ := own_rows O (by omega)
            have HRR := hid hRR
            have HOB := hid hob
            subst hv
            clear O hRR hob
            go_wp2_with fail
            refine (fine_any _).mono ?_
            rintro e w6 ⟨rfl, hb6⟩
            have c6 := cells_next c3 (by omega) hb6
            have f6 : ∀ o, w6.frozen? ⟨w.heap.size, o, none⟩ = false := fun o => (hb6.frozen (p := ⟨w.heap.size, o, none⟩) (by show w.heap.size < _; omega)).trans (f3 o)
            have R6 := hid (HRR.out.below hb6)
            have B6 := hid (B2.out.trans ((HB.out.trans (hb6.mono HB.out.size)).mono (by omega)))
            clear hb6
            go_wp2_with fail
            have q6 := two_set (v0 := .int .i64 0) (v1 := .int .i64 (-1)) c6
            refine bodyPost_ret (v := .tuple #[.slice p n' cap', .agg #[.int .i64 0, .int .i64 (-1)]]) (by simp [results, Tryd.results8, go_sem, q6 0, q6 1]) rfl ⟨_, _, _, rfl, bset (bset B6.out (Nat.le_refl _) _) (Nat.le_refl _) _, .inr (.inr (.inr ⟨rfl, HQ.out, rfl, rfl, rfl, ?_⟩))⟩
            exact (R6.out.far (fun b h => by have := HOB.out b h; omega) _).far (fun b h => by have := HOB.out b h; omega) _
end Go.Proofs.YtfpkbfhaipgibaaDoor.Prs
