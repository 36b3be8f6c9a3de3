/- keyholdlaw.IsaTexts, walked. -/
import Derived.Test.YtemlobepnfpalaaDoorCodeText
import Derived.Test.YtemlobepnfpalaaDoorIsaSaysWalk
namespace Go.Proofs.YtemlobepnfpalaaDoor.Txt
open Go.RowKit Go.Proofs.YtemlobepnfpalaaDoor.Mem Go.Proofs.YtemlobepnfpalaaDoor.Isa

theorem fine_any (w : World) :
    Calls Tryd.prog 18 #[] w fun e w' => e = .returned (.agg #[.int .i64 0, .int .i64 (-1)]) ∧ Below w.heap.size w w' := by
  go_enter Tryd.func18, Tryd.ntmps18
  go_wp2
  refine bodyPost_ret (v := .agg #[.int .i64 0, .int .i64 (-1)]) (by simp [results, Tryd.results18, go_sem]) rfl ⟨rfl, ?_⟩
  exact bal (Below.refl _ _) _
/-- The first instruction that may not be, or none. -/
theorem first_bad (zs : List (Int × Int × Int × Int)) : ∃ m, m ≤ zs.length ∧ (∀ j (h : j < zs.length), j < m → mayQ zs[j] = 0) ∧ (∀ h : m < zs.length, mayQ zs[m] ≠ 0) := by
  induction zs with
  | nil => exact ⟨0, by simp, fun j h => by simp at h, fun h => by simp at h⟩
  | cons q zs ih =>
    by_cases hq : mayQ q = 0
    · obtain ⟨m, h1, h2, h3⟩ := ih
      refine ⟨m + 1, by simpa using h1, fun j hj hjm => ?_, fun h => ?_⟩
      · cases j with
        | zero => exact hq
        | succ j => exact h2 j (by simpa using hj) (by omega)
      · exact h3 (by simpa using h)
    · exact ⟨0, by omega, fun j _ h => by omega, fun _ => hq⟩
theorem text_long (n b off cap : Nat) (w : World) (h : 40 < n) :
    Calls Tryd.prog 32 #[.slice (some ⟨b, off, none⟩) n cap] w fun e w' => e = .returned (.tuple #[.string ⟨#[]⟩, .iface 22 (.int .i64 2)]) ∧ Below w.heap.size w w' := by
  go_enter Tryd.func32, Tryd.ntmps32
  go_wp2_with fail
  go_ret2
  exact ⟨rfl, Below.refl _ _⟩
theorem codeText_nil (w : World) :
    Calls Tryd.prog 31 #[.slice none 0 0] w fun e w' => e = .returned (.string ⟨#[]⟩) ∧ Below w.heap.size w w' := by
  go_enter Tryd.func31, Tryd.ntmps31
  go_wp2_with fail
  refine wp_loop_rounds 1 ?_
  rw [rounds_succ]
  go_wp2_with fail
  go_ret
  exact ⟨rfl, Below.refl _ _⟩
theorem text_nil (w : World) :
    Calls Tryd.prog 32 #[.slice none 0 0] w fun e w' => e = .returned (.tuple #[.string ⟨#[]⟩, .nilIface]) ∧ Below w.heap.size w w' := by
  go_enter Tryd.func32, Tryd.ntmps32
  go_wp2_with fail
  refine wp_loop_rounds 1 ?_
  rw [rounds_succ]
  go_wp2_with fail
  refine (Tryd.Builder_String_any w.heap.size w.heap.size [] _ (Lib.fresh_isBuilder _ _ _) (by simp)).mono ?_
  rintro e w1 ⟨rfl, hb1⟩
  go_wp2_with fail
  go_ret2
  exact ⟨rfl, (bal (Below.refl _ _) _).trans hb1⟩
set_option maxHeartbeats 1000000 in
theorem isaTexts_long (n b off cap : Nat) (w : World) (ht : TW w) (h : 40 < n) (hM : n ≤ maxLen) :
    Calls Tryd.prog 7 #[.slice (some ⟨b, off, none⟩) n cap] w fun e w' => e = .returned (.bool true) ∧ Below w.heap.size w w' := by
  unfold maxLen at hM
  have HT := hid ht
  clear ht
  by_cases h2 : 100 < n
  · go_enter Tryd.func7, Tryd.ntmps7
    go_wp2_with fail
    go_ret
    exact ⟨rfl, Below.refl _ _⟩
  · go_enter Tryd.func7, Tryd.ntmps7
    go_wp2_with fail
    refine (fine_any _).mono ?_
    rintro e w1 ⟨rfl, hb1⟩
    go_wp2_with fail
    refine (err_any _ _).mono ?_
    rintro e w2 ⟨rfl, hb2⟩
    obtain ⟨hc2, hz2⟩ := bcell hb2
    have y2 : w1.heap.size < w2.heap.size := by have := hb2.size; simp at this; omega
    go_wp2_with fail
    have q2 := two_set (v0 := .int .i64 2) (v1 := .int .i64 (-1)) (cells_next (cells_new w1 #[.int .i64 0, .int .i64 (-1)] 41) (by simp) hb2)
    have B2 := hid (bset (bset (btr (bal hb1 _) hb2) (o := 0) hb1.size (.int .i64 2)) (o := 1) hb1.size (.int .i64 (-1)))
    refine wp_loop_rounds 1 ?_
    rw [rounds_succ]
    go_wp2_with fail
    refine (text_long _ _ _ _ _ h).mono ?_
    rintro e w3 ⟨rfl, hb3⟩
    have q3 := cells_next q2 (by rw [size_two]; exact y2) hb3
    have B3 := hid (btr B2.out hb3)
    clear hb2 hb3 hc2 hz2
    go_wp2_with fail
    refine (is_yes _ _ _ _ (HT.out.below B3.out).et (.inr (.inl ⟨rfl, rfl⟩))).mono ?_
    rintro e w4 ⟨rfl, hb4⟩
    go_wp2_with fail
    go_ret
    exact ⟨rfl, btr B3.out hb4⟩
theorem size_one (W : World) (a : Addr) (v : Value) : (W.setCell a v).heap.size = W.heap.size := by simp [World.setCell]
theorem below_set2 {w W : World} {D : Nat} {v u : Value} (h : Below w.heap.size w W) (hD : w.heap.size ≤ D) : Below w.heap.size w ((W.setCell ⟨D, 0, none⟩ v).setCell ⟨D, 1, none⟩ u) :=
  bset (bset h hD v) hD u
set_option maxHeartbeats 2000000 in
theorem isaTexts_short (zs : List (Int × Int × Int × Int)) (b off cap : Nat) (w : World) (ht : TW w) (hz : InsAt w b off zs) (hlen : zs.length ≤ 40) :
    Calls Tryd.prog 7 #[.slice (some ⟨b, off, none⟩) zs.length cap] w fun e w' => e = .returned (.bool true) ∧ Below w.heap.size w w' := by
  obtain ⟨m, hm, hv, hx⟩ := first_bad zs
  have HT := hid ht
  have HZ := hid hz
  have HV := hid hv
  have HX := hid hx
  clear ht hz hv hx
  have hl40 : (zs.length : Int) ≤ 40 := by omega
  go_enter Tryd.func7, Tryd.ntmps7
  go_wp2_with fail
  refine (fine_any _).mono ?_
  rintro e w1 ⟨rfl, hb1⟩
  have hD : w.heap.size ≤ w1.heap.size := hb1.size
  go_wp2_with fail
  go_loopw [4] (fun i wr => ((∃ k : Nat, k ≤ m ∧ i = .int .i64 k ∧ ∀ o, wr.cell? ⟨w1.heap.size, o, none⟩ = (#[.int .i64 0, .int .i64 (-1)] : Array Value)[o]?) ∨ (∃ h : m < zs.length, i = .int .i64 ((m : Int) + 1) ∧ ∀ o, wr.cell? ⟨w1.heap.size, o, none⟩ = (#[.int .i64 (mayQ zs[m]), .int .i64 m] : Array Value)[o]?)) ∧ (∀ o, wr.frozen? ⟨w1.heap.size, o, none⟩ = false) ∧ Below w.heap.size w wr ∧ w1.heap.size < wr.heap.size) (fun i _ => zs.length + 1 - (intOf i).toNat)
  case atStart => exact ⟨.inl ⟨0, by omega, rfl, cells_new _ _ _⟩, fun o => World.frozen?_alloc_at _ _ _ _ rfl, bal hb1 _, by simp⟩
  case round =>
    obtain ⟨hr, hf, hB, hs⟩ := hrel
    have HB := hid hB
    have TR := hid (HT.out.below hB)
    have ZR := hid (HZ.out.below hB)
    clear hB
    rcases hr with ⟨k, hk, rfl, hc⟩ | ⟨hml, rfl, hc⟩
    · by_cases hlt : k < zs.length
      · obtain ⟨c0, c1, c2, c3⟩ := ZR.out k hlt
        rcases hq : zs[k] with ⟨o, a, c, i⟩
        rw [hq] at c0 c1 c2 c3
        have HQ := hid hq
        clear hq
        have hlt2 : (k : Int) < (zs.length : Int) := by omega
        by_cases hkm : k < m
        · have hv : IP.may o a c i = 0 := by have := HV.out k hlt hkm; rw [HQ.out] at this; exact this
          have HM := hid hv
          clear hv
          go_wp2_with fail
          refine (insMay_ok _ _ _ _ _ HM).mono ?_
          rintro e w2 ⟨rfl, hb2⟩
          have d2 := cells_next hc hs hb2
          have f2 : ∀ o, w2.frozen? ⟨w1.heap.size, o, none⟩ = false := fun o => (hb2.frozen (p := ⟨w1.heap.size, o, none⟩) hs).trans (hf o)
          have y2 : w1.heap.size < w2.heap.size := by have := hb2.size; omega
          have B2 := hid (btr HB.out hb2)
          clear hc hf hb2
          go_wp2_with fail
          exact ⟨⟨.inl ⟨k + 1, by omega, by go_num, d2⟩, f2, B2.out, y2⟩, by simp [intOf]; omega⟩
        · obtain rfl : k = m := by omega
          have hx : IP.may o a c i ≠ 0 := by have := HX.out hlt; rw [HQ.out] at this; exact this
          have hne : (IP.may o a c i != 0) = true := by simpa using hx
          clear hx
          go_wp2_with fail
          refine (insMay_any _ _ _ _ _).mono ?_
          rintro e w2 ⟨rfl, hb2⟩
          have d2 := cells_next hc hs hb2
          have f2 : ∀ o, w2.frozen? ⟨w1.heap.size, o, none⟩ = false := fun o => (hb2.frozen (p := ⟨w1.heap.size, o, none⟩) hs).trans (hf o)
          have y2 : w1.heap.size < w2.heap.size := by have := hb2.size; omega
          have B2 := hid (btr HB.out hb2)
          clear hc hf hb2
          go_wp2_with fail
          refine ⟨⟨.inr ⟨hlt, rfl, ?_⟩, fun o => by simpa using f2 o, below_set2 B2.out hD, by rw [size_two]; exact y2⟩, by simp [intOf]; omega⟩
          rw [HQ.out]
          exact two_set d2
      · obtain rfl : k = zs.length := by omega
        have hge : ¬ ((zs.length : Int) < (zs.length : Int)) := by omega
        go_wp2_with fail
        refine (codeText_some zs b off cap _ TR.out ZR.out hlen (fun j h => HV.out j h (by omega))).mono ?_
        rintro e w2 ⟨rfl, hb2⟩
        have d2 := cells_next hc hs hb2
        have y2 : w1.heap.size < w2.heap.size := by have := hb2.size; omega
        have T2 := hid (TR.out.below hb2)
        have Z2 := hid (ZR.out.below hb2)
        have B2 := hid (btr HB.out hb2)
        clear hb2 hc hf
        go_wp2_with fail
        refine (text_some zs b off cap m _ T2.out Z2.out hlen hm HV.out HX.out).mono ?_
        rintro e w3 ⟨s, ev, rfl, hb3, hd⟩
        have hd2 : s = textB zs ∧ ev = .nilIface := by
          rcases hd with ⟨_, h1, h2⟩ | ⟨h1, _⟩
          · exact ⟨h1, h2⟩
          · omega
        obtain ⟨rfl, rfl⟩ := hd2
        have d3 := cells_next d2 y2 hb3
        have T3 := hid (T2.out.below hb3)
        have B3 := hid (btr B2.out hb3)
        clear hb3 d2 hd
        go_wp2_with fail
        refine (is_yes _ _ _ _ T3.out.et (.inl ⟨rfl, rfl, rfl⟩)).mono ?_
        rintro e w4 ⟨rfl, hb4⟩
        go_wp2_with fail
        go_ret
        exact ⟨rfl, btr B3.out hb4⟩
    · have hx := HX.out hml
      have hne : (mayQ zs[m] == 0) = false := beq_eq_false_iff_ne.2 hx
      have HP := hid (text_some zs b off cap m wr TR.out ZR.out hlen hm HV.out HX.out)
      clear hx
      generalize hQ : mayQ zs[m] = Q at hne hc
      have HQ2 := hid hQ
      clear hQ
      by_cases hl : (m : Int) + 1 < (zs.length : Int)
      all_goals
        go_wp2_with fail
        refine HP.out.mono ?_
        rintro e w3 ⟨s, ev, rfl, hb3, hd⟩
        have hd2 : s = ⟨#[]⟩ ∧ Tells w3 ev Q m := by
          rcases hd with ⟨h1, _⟩ | ⟨_, h1, h2⟩
          · omega
          · exact ⟨h1, by rw [← HQ2.out]; exact h2⟩
        obtain ⟨rfl, hT⟩ := hd2
        have HT3 := hid hT
        have d3 := cells_next hc hs hb3
        have T3 := hid (TR.out.below hb3)
        have B3 := hid (btr HB.out hb3)
        clear hb3 hc hf hd hT
        go_wp2_with fail
        refine (is_yes _ _ _ _ T3.out.et HT3.out).mono ?_
        rintro e w4 ⟨rfl, hb4⟩
        go_wp2_with fail
        go_ret
        exact ⟨rfl, btr B3.out hb4⟩
set_option maxHeartbeats 1000000 in
theorem isaTexts_nil (w : World) (ht : TW w) :
    Calls Tryd.prog 7 #[.slice none 0 0] w fun e w' => e = .returned (.bool true) ∧ Below w.heap.size w w' := by
  have HT := hid ht
  clear ht
  go_enter Tryd.func7, Tryd.ntmps7
  go_wp2_with fail
  refine (fine_any _).mono ?_
  rintro e w1 ⟨rfl, hb1⟩
  go_wp2_with fail
  refine wp_loop_rounds 1 ?_
  rw [rounds_succ]
  go_wp2_with fail
  refine (codeText_nil _).mono ?_
  rintro e w2 ⟨rfl, hb2⟩
  have d2 := cells_next (cells_new w1 #[.int .i64 0, .int .i64 (-1)] 41) (by simp) hb2
  have y2 : w1.heap.size < w2.heap.size := by have := hb2.size; simp at this; omega
  have B2 := hid (btr (bal hb1 _) hb2)
  clear hb2
  go_wp2_with fail
  refine (text_nil _).mono ?_
  rintro e w3 ⟨rfl, hb3⟩
  have d3 := cells_next d2 y2 hb3
  have B3 := hid (btr B2.out hb3)
  clear hb3
  go_wp2_with fail
  refine (is_yes _ _ _ _ (HT.out.below B3.out).et (.inl ⟨rfl, rfl, rfl⟩)).mono ?_
  rintro e w4 ⟨rfl, hb4⟩
  go_wp2_with fail
  go_ret
  exact ⟨rfl, btr B3.out hb4⟩
end Go.Proofs.YtemlobepnfpalaaDoor.Txt
