/- keyholdlaw.IsaParses, walked. -/
import Derived.Test.YtfpkbfhaipgibaaDoorPrsRead
import Derived.Test.YtfpkbfhaipgibaaDoorPrsParse
import Derived.Test.YtfpkbfhaipgibaaDoorIsaTextsWalk
namespace Go.Proofs.YtfpkbfhaipgibaaDoor.Prs
open Go.RowKit Go.Maps Go.Proofs.YtfpkbfhaipgibaaDoor.Mem Go.Proofs.YtfpkbfhaipgibaaDoor.Hex Go.Proofs.YtfpkbfhaipgibaaDoor.Txt Go.Proofs.YtfpkbfhaipgibaaDoor.Isa

theorem linesB_mem (s : ByteArray) (t : ByteArray) (h : t ∈ linesB s) : t.size ≤ s.size := by
  have h1 : t ∈ cutB 10 s := by
    unfold linesB at h
    split at h
    · exact List.dropLast_subset _ h
    · exact h
  unfold cutB at h1
  obtain ⟨l, hl, rfl⟩ := List.mem_map.1 h1
  have := cutL_mem_len 10 s.data.toList l hl
  simp only [ByteArray.size, List.size_toArray]
  rw [← size_list] at this
  exact this
theorem linesB_len (s : ByteArray) : (linesB s).length ≤ s.size + 1 := by
  have h1 : (cutB 10 s).length ≤ s.size + 1 := by
    have := cutL_len 10 s.data.toList
    rw [← size_list] at this
    simpa only [cutB, List.length_map] using this
  unfold linesB
  split
  · rw [List.length_dropLast]; omega
  · exact h1
theorem ends_of (ls : List ByteArray) : ∃ m m2, Ends ls m m2 := by
  obtain ⟨m, a1, a2, a3⟩ := first_not ls.length (fun j => ∀ h : j < ls.length, labE (upTo ls j).1 ls[j] = 0)
  obtain ⟨m2, b1, b2, b3⟩ := first_not ls.length (fun j => ∀ h : j < ls.length, lineE (upTo ls ls.length).1 ls[j] = 0)
  exact ⟨m, m2, a1, fun j h hj => a2 j hj h, fun h e => a3 h (fun _ => e), b1, fun j h hj => b2 j hj h, fun h e => b3 h (fun _ => e)⟩
/-- Both sides answer one list and one error. -/
theorem parse_both (s : ByteArray) (hs : s.size ≤ 1500 ∨ 4000 < s.size) : ∃ (x y : Int) (l : List (Int × Int × Int × Int)),
    (∀ w, RN w → Calls Tryd.prog 8 #[.string s] w fun e w' => ∃ v, e = .returned (.tuple #[v, .agg #[.int .i64 x, .int .i64 y]]) ∧ Below w.heap.size w w' ∧ Rows4 w' v l) ∧
    (∀ w, MLok w → NamesAt w → Calls Tryd.prog 9 #[.string s] w fun e w' => ∃ v ev, e = .returned (.tuple #[v, ev]) ∧ Below w.heap.size w w' ∧ Rows4 w' v l ∧ Tells w' ev x y) := by
  rcases hs with hs | hs
  · obtain ⟨m, m2, hE⟩ := ends_of (linesB s)
    have h1 := linesB_len s
    have h2 := linesB_mem s
    by_cases hm : m < (linesB s).length
    · refine ⟨labE (upTo (linesB s) m).1 (linesB s)[m], m, [], fun w hR => (codeRead_some s m m2 w hR (by omega) hE (by omega) (fun t h => by have := h2 t h; omega)).mono ?_, fun w hM hN => (parse_some s m m2 w hM hN (by omega) hE (by omega) (fun t h => by have := h2 t h; omega)).mono ?_⟩
      · rintro e w' ⟨v, x, y, rfl, hb, h⟩
        rcases h with ⟨_, rfl, rfl, rfl⟩ | ⟨h, _⟩ | ⟨h, _⟩ | ⟨h, _⟩
        · exact ⟨_, rfl, hb, Rows4.nil _⟩
        all_goals omega
      · rintro e w' ⟨v, ev, rfl, hb, h⟩
        rcases h with ⟨_, rfl, h⟩ | ⟨h, _⟩ | ⟨h, _⟩ | ⟨h, _⟩
        · exact ⟨_, _, rfl, hb, Rows4.nil _, h⟩
        all_goals omega
    · by_cases hn : 40 < (upTo (linesB s) (linesB s).length).2
      · refine ⟨2, -1, [], fun w hR => (codeRead_some s m m2 w hR (by omega) hE (by omega) (fun t h => by have := h2 t h; omega)).mono ?_, fun w hM hN => (parse_some s m m2 w hM hN (by omega) hE (by omega) (fun t h => by have := h2 t h; omega)).mono ?_⟩
        · rintro e w' ⟨v, x, y, rfl, hb, h⟩
          rcases h with ⟨h, _⟩ | ⟨_, _, rfl, rfl, rfl⟩ | ⟨_, h, _⟩ | ⟨_, h, _⟩
          · omega
          · exact ⟨_, rfl, hb, Rows4.nil _⟩
          all_goals omega
        · rintro e w' ⟨v, ev, rfl, hb, h⟩
          rcases h with ⟨h, _⟩ | ⟨_, _, rfl, h⟩ | ⟨_, h, _⟩ | ⟨_, h, _⟩
          · omega
          · exact ⟨_, _, rfl, hb, Rows4.nil _, h⟩
          all_goals omega
      · by_cases hm2 : m2 < (linesB s).length
        · refine ⟨lineE (upTo (linesB s) (linesB s).length).1 (linesB s)[m2], m2, [], fun w hR => (codeRead_some s m m2 w hR (by omega) hE (by omega) (fun t h => by have := h2 t h; omega)).mono ?_, fun w hM hN => (parse_some s m m2 w hM hN (by omega) hE (by omega) (fun t h => by have := h2 t h; omega)).mono ?_⟩
          · rintro e w' ⟨v, x, y, rfl, hb, h⟩
            rcases h with ⟨h, _⟩ | ⟨_, h, _⟩ | ⟨_, _, _, rfl, rfl, rfl⟩ | ⟨_, _, h, _⟩
            · omega
            · omega
            · exact ⟨_, rfl, hb, Rows4.nil _⟩
            · omega
          · rintro e w' ⟨v, ev, rfl, hb, h⟩
            rcases h with ⟨h, _⟩ | ⟨_, h, _⟩ | ⟨_, _, _, rfl, h⟩ | ⟨_, _, h, _⟩
            · omega
            · omega
            · exact ⟨_, _, rfl, hb, Rows4.nil _, h⟩
            · omega
        · refine ⟨0, -1, codeL (upTo (linesB s) (linesB s).length).1 (linesB s), fun w hR => (codeRead_some s m m2 w hR (by omega) hE (by omega) (fun t h => by have := h2 t h; omega)).mono ?_, fun w hM hN => (parse_some s m m2 w hM hN (by omega) hE (by omega) (fun t h => by have := h2 t h; omega)).mono ?_⟩
          · rintro e w' ⟨v, x, y, rfl, hb, h⟩
            rcases h with ⟨h, _⟩ | ⟨_, h, _⟩ | ⟨_, _, h, _⟩ | ⟨_, _, _, rfl, rfl, h⟩
            · omega
            · omega
            · omega
            · exact ⟨_, rfl, hb, h⟩
          · rintro e w' ⟨v, ev, rfl, hb, h⟩
            rcases h with ⟨h, _⟩ | ⟨_, h, _⟩ | ⟨_, _, h, _⟩ | ⟨_, _, _, h, h3⟩
            · omega
            · omega
            · omega
            · exact ⟨_, _, rfl, hb, h3, .inl ⟨h, rfl, rfl⟩⟩
  · refine ⟨2, -1, [], fun w _ => (codeRead_long s w hs).mono ?_, fun w _ _ => (parse_long s w hs).mono ?_⟩
    · rintro e w' ⟨rfl, hb⟩
      exact ⟨_, rfl, hb, Rows4.nil _⟩
    · rintro e w' ⟨rfl, hb⟩
      exact ⟨_, _, rfl, hb, Rows4.nil _, .inr (.inl ⟨rfl, rfl⟩)⟩
/-- What the law's road reads of the variables. -/
structure PW (w : World) : Prop where
  et : ETok w
  ml : MLok w
  nm : NamesAt w
  rn : RN w
theorem PW.below {w w' : World} (h : PW w) (hb : Below w.heap.size w w') : PW w' := ⟨h.et.below hb, h.ml.below hb, h.nm.below hb, h.rn.below hb⟩
theorem isaParses_mid (s : ByteArray) (w : World) (h2 : 1500 < s.size) (h3 : s.size ≤ 4000) :
    Calls Tryd.prog 3 #[.string s] w fun e w' => e = .returned (.bool true) ∧ Below w.heap.size w w' := by
  have h4 : 1500 < (s.size : Int) := by omega
  have h5 : (s.size : Int) ≤ 4000 := by omega
  go_enter Tryd.func3, Tryd.ntmps3
  go_wp2_with fail
  go_ret
  exact ⟨rfl, Below.refl _ _⟩
set_option maxHeartbeats 4000000 in
theorem isaParses_main (s : ByteArray) (w : World) (ht : PW w) (hs : s.size ≤ 1500 ∨ 4000 < s.size) :
    Calls Tryd.prog 3 #[.string s] w fun e w' => e = .returned (.bool true) ∧ Below w.heap.size w w' := by
  obtain ⟨x, y, l, hU1, hU2⟩ := parse_both s hs
  have HU1 := hid hU1
  have HU2 := hid hU2
  have HT := hid ht
  clear hU1 hU2 ht
  have hss : (s.size : Int) ≤ 1500 ∨ 4000 < (s.size : Int) := by omega
  rcases hss with hs1 | hs1
  all_goals
    go_enter Tryd.func3, Tryd.ntmps3
    go_wp2_with fail
    refine (HU1.out _ HT.out.rn).mono ?_
    rintro e w1 ⟨v1, rfl, hb1, hr1⟩
    have R1 := hid hr1
    have B1 := hid hb1
    have N1 := hid (bal (Below.refl w1.heap.size w1) (.cells #[.int .i64 x, .int .i64 y] 25))
    have B2 := hid (btr B1.out N1.out)
    clear hb1
    go_wp2_with fail
    refine (HU2.out _ (HT.out.below B2.out).ml (HT.out.below B2.out).nm).mono ?_
    rintro e w3 ⟨v3, ev, rfl, hb3, hr3, hT3⟩
    have c3 := cells_next (cells_new w1 #[.int .i64 x, .int .i64 y] 25) (by simp) hb3
    have B3 := hid (btr B2.out hb3)
    have Q1 := hid ((R1.out.below N1.out).below hb3)
    have Q3 := hid hr3
    have T3 := hid hT3
    clear hb3 hT3
    go_wp2_with fail
    refine (is_yes _ _ _ _ (HT.out.below B3.out).et T3.out).mono ?_
    rintro e w4 ⟨rfl, hb4⟩
    have B4 := hid (btr B3.out hb4)
    obtain ⟨p1, cap1, h11, hll, h12⟩ := Q1.out.below hb4
    obtain ⟨p3, cap3, h31, _, h32⟩ := Q3.out.below hb4
    subst h11 h31
    clear hb4 c3 hr1 hr3
    cases l with
    | nil =>
      go_wp2_with fail
      refine wp_loop_rounds 1 ?_
      rw [rounds_succ]
      go_wp2_with fail
      go_ret
      exact ⟨rfl, B4.out⟩
    | cons q0 l0 =>
      obtain ⟨b1, rfl, hI1⟩ := h12 (by simp)
      obtain ⟨b3, rfl, hI3⟩ := h32 (by simp)
      generalize q0 :: l0 = l at *
      have I1 := hid hI1
      have I3 := hid hI3
      clear hI1 hI3 h12 h32
      go_wp2_with fail
      go_loopw [7] (fun i wr => ∃ k : Nat, k ≤ l.length ∧ i = .int .i64 k ∧ Below w4.heap.size w4 wr) (fun i _ => l.length - (intOf i).toNat)
      case atStart => exact ⟨0, by omega, rfl, Below.refl _ _⟩
      case round =>
        obtain ⟨k, hk, rfl, hB⟩ := hrel
        have HB := hid hB
        clear hB
        by_cases hlt : k < l.length
        · have hlt2 : (k : Int) < (l.length : Int) := by omega
          obtain ⟨a0, a1, a2, a3⟩ := (I1.out.below HB.out) k hlt
          obtain ⟨d0, d1, d2, d3⟩ := (I3.out.below HB.out) k hlt
          rw [Nat.zero_add] at a0 a1 a2 a3 d0 d1 d2 d3
          generalize l[k] = q at *
          go_wp2_with fail
          go_quiet (fail)
          go_wp2_with fail
          exact ⟨⟨k + 1, by omega, by go_num, below_drewN HB.out nq⟩, by simp [intOf]; omega⟩
        · obtain rfl : k = l.length := by omega
          have hge : ¬ ((l.length : Int) < (l.length : Int)) := by omega
          go_wp2_with fail
          go_ret
          exact ⟨rfl, B4.out.trans (HB.out.mono B4.out.size)⟩
theorem isaParses_any (s : ByteArray) (w : World) (ht : PW w) :
    Calls Tryd.prog 3 #[.string s] w fun e w' => e = .returned (.bool true) ∧ Below w.heap.size w w' := by
  by_cases h2 : 1500 < s.size ∧ s.size ≤ 4000
  · exact isaParses_mid s w h2.1 h2.2
  · exact isaParses_main s w ht (by omega)
end Go.Proofs.YtfpkbfhaipgibaaDoor.Prs
