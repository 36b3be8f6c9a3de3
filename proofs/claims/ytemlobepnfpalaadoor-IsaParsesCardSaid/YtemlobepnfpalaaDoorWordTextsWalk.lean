/- keyholdlaw.WordTexts, walked. -/
import Derived.Test.YtemlobepnfpalaaDoorUnhexWalk
import Derived.Test.YtemlobepnfpalaaDoorHexWalk
namespace Go.Proofs.YtemlobepnfpalaaDoor.Hex
open Go.RowKit Go.Proofs.YtemlobepnfpalaaDoor.Mem Go.Proofs.YtemlobepnfpalaaDoor.Isa Go.Proofs.YtemlobepnfpalaaDoor.Txt

/-- What the law's road reads of the library's variables. -/
structure WW (w : World) : Prop where
  et : ETok w
  ml : MLok w
theorem WW.below {w w' : World} (h : WW w) (hb : Below w.heap.size w w') : WW w' := ⟨h.et.below hb, h.ml.below hb⟩
theorem first_far (zs : List Int) : ∃ m, m ≤ zs.length ∧ (∀ j (h : j < zs.length), j < m → okW zs[j]) ∧ (∀ h : m < zs.length, ¬ okW zs[m]) := by
  induction zs with
  | nil => exact ⟨0, by simp, fun j h => by simp at h, fun h => by simp at h⟩
  | cons q zs ih =>
    by_cases hq : okW q
    · obtain ⟨m, h1, h2, h3⟩ := ih
      refine ⟨m + 1, by simpa using h1, fun j hj hjm => ?_, fun h => ?_⟩
      · cases j with
        | zero => exact hq
        | succ j => exact h2 j (by simpa using hj) (by omega)
      · exact h3 (by simpa using h)
    · exact ⟨0, by omega, fun j _ h => by omega, fun _ => hq⟩
set_option maxHeartbeats 2000000 in
theorem wordTexts_nil (s : ByteArray) (w : World) (ht : WW w) (hs : s.size ≤ 1500 ∨ 4000 < s.size) :
    Calls Tryd.prog 5 #[.slice none 0 0, .string s] w fun e w' => e = .returned (.bool true) ∧ Below w.heap.size w w' := by
  obtain ⟨x, y, l, hU1, hU2⟩ := unhex_both s hs
  have HU1 := hid hU1
  have HU2 := hid hU2
  have HT := hid ht
  clear hU1 hU2 ht
  have hss : (s.size : Int) ≤ 1500 ∨ 4000 < (s.size : Int) := by omega
  rcases hss with hs1 | hs1
  all_goals
    go_enter Tryd.func5, Tryd.ntmps5
    go_wp2_with fail
    refine (fine_any _).mono ?_
    rintro e w1 ⟨rfl, hb1⟩
    have hD : w.heap.size ≤ w1.heap.size := hb1.size
    go_wp2_with fail
    refine wp_loop_rounds 1 ?_
    rw [rounds_succ]
    go_wp2_with fail
    refine (hexOf_nil _).mono ?_
    rintro e w2 ⟨rfl, rfl⟩
    go_wp2_with fail
    refine (hex_nil _).mono ?_
    rintro e w3 ⟨rfl, hb3⟩
    have d3 := cells_next (cells_new w1 #[.int .i64 0, .int .i64 (-1)] 41) (by simp) hb3
    have f3 : ∀ o, w3.frozen? ⟨w1.heap.size, o, none⟩ = false := fun o => (hb3.frozen (p := ⟨w1.heap.size, o, none⟩) (by simp)).trans (World.frozen?_alloc_at _ _ _ _ rfl)
    have y3 : w1.heap.size < w3.heap.size := by have := hb3.size; simp at this; omega
    have B3 := hid (btr (bal hb1 _) hb3)
    have TELL := hid (show Tells w3 .nilIface 0 (-1) from .inl ⟨rfl, rfl, rfl⟩)
    clear hb3
    go_wp2_with fail
    refine (is_yes _ _ _ _ (HT.out.below B3.out).et TELL.out).mono ?_
    rintro e wa ⟨rfl, hba⟩
    have da := cells_next d3 y3 hba
    have fa : ∀ o, wa.frozen? ⟨w1.heap.size, o, none⟩ = false := fun o => (hba.frozen (p := ⟨w1.heap.size, o, none⟩) y3).trans (f3 o)
    have ya : w1.heap.size < wa.heap.size := by have := hba.size; omega
    have Ba := hid (btr B3.out hba)
    clear hba d3 f3
    go_wp2_with fail
    refine (HU1.out _).mono ?_
    rintro e wb ⟨vb, rfl, hbb, hLb, hob⟩
    have db := cells_next da ya hbb
    have fb : ∀ o, wb.frozen? ⟨w1.heap.size, o, none⟩ = false := fun o => (hbb.frozen (p := ⟨w1.heap.size, o, none⟩) ya).trans (fa o)
    have yb : w1.heap.size < wb.heap.size := by have := hbb.size; omega
    have Bb := hid (btr Ba.out hbb)
    have Lb := hid ((hLb.far (B := w1.heap.size) (i := 0) (fun b h => by have := hob b h; omega) (.int .i64 x)).far (B := w1.heap.size) (i := 1) (fun b h => by have := hob b h; omega) (.int .i64 y))
    clear hbb da fa hLb hob
    go_wp2_with fail
    have qb := two_set (v0 := .int .i64 x) (v1 := .int .i64 y) db
    have Bq := hid (below_set2 (v := .int .i64 x) (u := .int .i64 y) Bb.out hD)
    refine (HU2.out _ (HT.out.below Bq.out).ml).mono ?_
    rintro e wc ⟨vc, ev, rfl, hbc, hLc, hT⟩
    have dc := cells_next qb (by rw [size_two]; exact yb) hbc
    have Bc := hid (btr Bq.out hbc)
    have LB := hid (Lb.out.below hbc)
    have LC := hid hLc
    have TC := hid hT
    clear hbc qb db fb hLc hT
    go_wp2_with fail
    refine (is_yes _ _ _ _ (HT.out.below Bc.out).et TC.out).mono ?_
    rintro e wd ⟨rfl, hbd⟩
    have LBd := hid (LB.out.below hbd)
    have LCd := hid (LC.out.below hbd)
    have Bd := hid (btr Bc.out hbd)
    clear hbd dc
    go_wp2_with fail
    refine (same_any _ _ _ _ LCd.out LBd.out).mono ?_
    rintro e we ⟨rfl, hbe⟩
    go_wp2_with fail
    go_ret
    exact ⟨rfl, btr Bd.out hbe⟩
set_option maxHeartbeats 2000000 in
theorem wordTexts_long (n b off cap : Nat) (s : ByteArray) (w : World) (ht : WW w) (hs : s.size ≤ 1500 ∨ 4000 < s.size) (h1 : 384 < n) (h2 : n ≤ 500) :
    Calls Tryd.prog 5 #[.slice (some ⟨b, off, none⟩) n cap, .string s] w fun e w' => e = .returned (.bool true) ∧ Below w.heap.size w w' := by
  obtain ⟨x, y, l, hU1, hU2⟩ := unhex_both s hs
  have HU1 := hid hU1
  have HU2 := hid hU2
  have HT := hid ht
  clear hU1 hU2 ht
  have hss : (s.size : Int) ≤ 1500 ∨ 4000 < (s.size : Int) := by omega
  rcases hss with hs1 | hs1
  all_goals
    go_enter Tryd.func5, Tryd.ntmps5
    go_wp2_with fail
    refine (fine_any _).mono ?_
    rintro e w1 ⟨rfl, hb1⟩
    have hD : w.heap.size ≤ w1.heap.size := hb1.size
    go_wp2_with fail
    refine (err_any _ _).mono ?_
    rintro e w2 ⟨rfl, hb2⟩
    obtain ⟨hc2, hz2⟩ := bcell hb2
    have y2 : w1.heap.size < w2.heap.size := by have := hb2.size; simp at this; omega
    go_wp2_with fail
    have q2 := two_set (v0 := .int .i64 2) (v1 := .int .i64 (-1)) (cells_next (cells_new w1 #[.int .i64 0, .int .i64 (-1)] 41) (by simp) hb2)
    have g2 : ∀ o, w2.frozen? ⟨w1.heap.size, o, none⟩ = false := fun o => (hb2.frozen (p := ⟨w1.heap.size, o, none⟩) (by simp)).trans (World.frozen?_alloc_at _ _ _ _ rfl)
    have B2 := hid (bset (bset (btr (bal hb1 _) hb2) (o := 0) hb1.size (.int .i64 2)) (o := 1) hb1.size (.int .i64 (-1)))
    refine wp_loop_rounds 1 ?_
    rw [rounds_succ]
    go_wp2_with fail
    refine (hex_long _ _ _ _ _ h1).mono ?_
    rintro e w3 ⟨rfl, hb3⟩
    have d3 := cells_next q2 (by rw [size_two]; exact y2) hb3
    have f3 : ∀ o, w3.frozen? ⟨w1.heap.size, o, none⟩ = false := fun o => (hb3.frozen (p := ⟨w1.heap.size, o, none⟩) (by rw [size_two]; exact y2)).trans (by rw [World.frozen?_setCell, World.frozen?_setCell]; exact g2 o)
    have y3 : w1.heap.size < w3.heap.size := by have := hb3.size; rw [size_two] at this; omega
    have B3 := hid (btr B2.out hb3)
    have TELL := hid (show Tells w3 (.iface 22 (.int .i64 2)) 2 (-1) from .inr (.inl ⟨rfl, rfl⟩))
    clear hb2 hb3 hc2 hz2 q2 g2
    go_wp2_with fail
    refine (is_yes _ _ _ _ (HT.out.below B3.out).et TELL.out).mono ?_
    rintro e wa ⟨rfl, hba⟩
    have da := cells_next d3 y3 hba
    have fa : ∀ o, wa.frozen? ⟨w1.heap.size, o, none⟩ = false := fun o => (hba.frozen (p := ⟨w1.heap.size, o, none⟩) y3).trans (f3 o)
    have ya : w1.heap.size < wa.heap.size := by have := hba.size; omega
    have Ba := hid (btr B3.out hba)
    clear hba d3 f3
    go_wp2_with fail
    refine (HU1.out _).mono ?_
    rintro e wb ⟨vb, rfl, hbb, hLb, hob⟩
    have db := cells_next da ya hbb
    have fb : ∀ o, wb.frozen? ⟨w1.heap.size, o, none⟩ = false := fun o => (hbb.frozen (p := ⟨w1.heap.size, o, none⟩) ya).trans (fa o)
    have yb : w1.heap.size < wb.heap.size := by have := hbb.size; omega
    have Bb := hid (btr Ba.out hbb)
    have Lb := hid ((hLb.far (B := w1.heap.size) (i := 0) (fun b h => by have := hob b h; omega) (.int .i64 x)).far (B := w1.heap.size) (i := 1) (fun b h => by have := hob b h; omega) (.int .i64 y))
    clear hbb da fa hLb hob
    go_wp2_with fail
    have qb := two_set (v0 := .int .i64 x) (v1 := .int .i64 y) db
    have Bq := hid (below_set2 (v := .int .i64 x) (u := .int .i64 y) Bb.out hD)
    refine (HU2.out _ (HT.out.below Bq.out).ml).mono ?_
    rintro e wc ⟨vc, ev, rfl, hbc, hLc, hT⟩
    have dc := cells_next qb (by rw [size_two]; exact yb) hbc
    have Bc := hid (btr Bq.out hbc)
    have LB := hid (Lb.out.below hbc)
    have LC := hid hLc
    have TC := hid hT
    clear hbc qb db fb hLc hT
    go_wp2_with fail
    refine (is_yes _ _ _ _ (HT.out.below Bc.out).et TC.out).mono ?_
    rintro e wd ⟨rfl, hbd⟩
    have LBd := hid (LB.out.below hbd)
    have LCd := hid (LC.out.below hbd)
    have Bd := hid (btr Bc.out hbd)
    clear hbd dc
    go_wp2_with fail
    refine (same_any _ _ _ _ LCd.out LBd.out).mono ?_
    rintro e we ⟨rfl, hbe⟩
    go_wp2_with fail
    go_ret
    exact ⟨rfl, btr Bd.out hbe⟩
set_option maxHeartbeats 4000000 in
theorem wordTexts_short (zs : List Int) (b off cap : Nat) (s : ByteArray) (w : World) (ht : WW w) (hz : IntsAt w b off zs) (hlen : zs.length ≤ 384) (hs : s.size ≤ 1500 ∨ 4000 < s.size) :
    Calls Tryd.prog 5 #[.slice (some ⟨b, off, none⟩) zs.length cap, .string s] w fun e w' => e = .returned (.bool true) ∧ Below w.heap.size w w' := by
  obtain ⟨x, y, l, hU1, hU2⟩ := unhex_both s hs
  obtain ⟨m, hm, hv, hx⟩ := first_far zs
  have HU1 := hid hU1
  have HU2 := hid hU2
  have HT := hid ht
  have HZ := hid hz
  have HV := hid hv
  have HX := hid hx
  clear hU1 hU2 ht hz hv hx
  have hl384 : (zs.length : Int) ≤ 384 := by omega
  have hss : (s.size : Int) ≤ 1500 ∨ 4000 < (s.size : Int) := by omega
  rcases hss with hs1 | hs1
  all_goals
    go_enter Tryd.func5, Tryd.ntmps5
    go_wp2_with fail
    refine (fine_any _).mono ?_
    rintro e w1 ⟨rfl, hb1⟩
    have hD : w.heap.size ≤ w1.heap.size := hb1.size
    go_wp2_with fail
    go_loopw [6] (fun i wr => ((∃ k : Nat, k ≤ m ∧ i = .int .i64 k ∧ ∀ o, wr.cell? ⟨w1.heap.size, o, none⟩ = (#[.int .i64 0, .int .i64 (-1)] : Array Value)[o]?) ∨ (m < zs.length ∧ i = .int .i64 ((m : Int) + 1) ∧ ∀ o, wr.cell? ⟨w1.heap.size, o, none⟩ = (#[.int .i64 1, .int .i64 m] : Array Value)[o]?)) ∧ (∀ o, wr.frozen? ⟨w1.heap.size, o, none⟩ = false) ∧ Below w.heap.size w wr ∧ w1.heap.size < wr.heap.size) (fun i _ => zs.length + 1 - (intOf i).toNat)
    case atStart => exact ⟨.inl ⟨0, by omega, rfl, cells_new _ _ _⟩, fun o => World.frozen?_alloc_at _ _ _ _ rfl, bal hb1 _, by simp⟩
    case round =>
      obtain ⟨hr, hf, hB, hs⟩ := hrel
      have HB := hid hB
      have ZR := hid (HZ.out.below hB)
      clear hB
      rcases hr with ⟨k, hk, rfl, hc⟩ | ⟨hml, rfl, hc⟩
      · by_cases hlt : k < zs.length
        · have c0 := ZR.out k hlt
          have hlt2 : (k : Int) < (zs.length : Int) := by omega
          by_cases hkm : k < m
          · have hv := HV.out k hlt hkm
            have HD := hid (show decide (zs[k] < 0 ∨ 65535 < zs[k]) = false by unfold okW at hv; simp; omega)
            generalize zs[k] = z at c0 HD
            clear hv
            go_wp2_with fail
            refine (far_any _ _ _).mono ?_
            rintro e w2 ⟨rfl, rfl⟩
            rw [HD.out]
            go_wp2_with fail
            exact ⟨⟨.inl ⟨k + 1, by omega, by go_num, hc⟩, hf, HB.out, hs⟩, by simp [intOf]; omega⟩
          · obtain rfl : k = m := by omega
            have hx := HX.out hlt
            have HD := hid (show decide (zs[k] < 0 ∨ 65535 < zs[k]) = true by unfold okW at hx; simp; omega)
            generalize zs[k] = z at c0 HD
            clear hx
            go_wp2_with fail
            refine (far_any _ _ _).mono ?_
            rintro e w2 ⟨rfl, rfl⟩
            rw [HD.out]
            go_wp2_with fail
            exact ⟨⟨.inr ⟨hlt, rfl, two_set hc⟩, fun o => by simpa using hf o, below_set2 HB.out hD, by rw [size_two]; exact hs⟩, by simp [intOf]; omega⟩
        · obtain rfl : k = zs.length := by omega
          have hge : ¬ ((zs.length : Int) < (zs.length : Int)) := by omega
          go_wp2_with fail
          refine (hexOf_some zs b off cap _ ZR.out (by omega) (fun j h => HV.out j h (by omega))).mono ?_
          rintro e w2 ⟨rfl, rfl⟩
          go_wp2_with fail
          refine (hex_some zs b off cap m _ ZR.out hlen hm HV.out HX.out).mono ?_
          rintro e w3 ⟨t, ev, rfl, hb3, hd⟩
          have hd2 : t = ⟨(hexL zs).toArray⟩ ∧ ev = .nilIface := by
            rcases hd with ⟨_, h1, h2⟩ | ⟨h1, _⟩
            · exact ⟨h1, h2⟩
            · omega
          obtain ⟨rfl, rfl⟩ := hd2
          have d3 := cells_next hc hs hb3
          have f3 : ∀ o, w3.frozen? ⟨w1.heap.size, o, none⟩ = false := fun o => (hb3.frozen (p := ⟨w1.heap.size, o, none⟩) hs).trans (hf o)
          have y3 : w1.heap.size < w3.heap.size := by have := hb3.size; omega
          have B3 := hid (btr HB.out hb3)
          have TELL := hid (show Tells w3 .nilIface 0 (-1) from .inl ⟨rfl, rfl, rfl⟩)
          clear hb3 hc hf hd
          go_wp2_with fail
          refine (is_yes _ _ _ _ (HT.out.below B3.out).et TELL.out).mono ?_
          rintro e wa ⟨rfl, hba⟩
          have da := cells_next d3 y3 hba
          have fa : ∀ o, wa.frozen? ⟨w1.heap.size, o, none⟩ = false := fun o => (hba.frozen (p := ⟨w1.heap.size, o, none⟩) y3).trans (f3 o)
          have ya : w1.heap.size < wa.heap.size := by have := hba.size; omega
          have Ba := hid (btr B3.out hba)
          clear hba d3 f3
          go_wp2_with fail
          refine (HU1.out _).mono ?_
          rintro e wb ⟨vb, rfl, hbb, hLb, hob⟩
          have db := cells_next da ya hbb
          have fb : ∀ o, wb.frozen? ⟨w1.heap.size, o, none⟩ = false := fun o => (hbb.frozen (p := ⟨w1.heap.size, o, none⟩) ya).trans (fa o)
          have yb : w1.heap.size < wb.heap.size := by have := hbb.size; omega
          have Bb := hid (btr Ba.out hbb)
          have Lb := hid ((hLb.far (B := w1.heap.size) (i := 0) (fun b h => by have := hob b h; omega) (.int .i64 x)).far (B := w1.heap.size) (i := 1) (fun b h => by have := hob b h; omega) (.int .i64 y))
          clear hbb da fa hLb hob
          go_wp2_with fail
          have qb := two_set (v0 := .int .i64 x) (v1 := .int .i64 y) db
          have Bq := hid (below_set2 (v := .int .i64 x) (u := .int .i64 y) Bb.out hD)
          refine (HU2.out _ (HT.out.below Bq.out).ml).mono ?_
          rintro e wc ⟨vc, ev, rfl, hbc, hLc, hT⟩
          have dc := cells_next qb (by rw [size_two]; exact yb) hbc
          have Bc := hid (btr Bq.out hbc)
          have LB := hid (Lb.out.below hbc)
          have LC := hid hLc
          have TC := hid hT
          clear hbc qb db fb hLc hT
          go_wp2_with fail
          refine (is_yes _ _ _ _ (HT.out.below Bc.out).et TC.out).mono ?_
          rintro e wd ⟨rfl, hbd⟩
          have LBd := hid (LB.out.below hbd)
          have LCd := hid (LC.out.below hbd)
          have Bd := hid (btr Bc.out hbd)
          clear hbd dc
          go_wp2_with fail
          refine (same_any _ _ _ _ LCd.out LBd.out).mono ?_
          rintro e we ⟨rfl, hbe⟩
          go_wp2_with fail
          go_ret
          exact ⟨rfl, btr Bd.out hbe⟩
      · have HP := hid (hex_some zs b off cap m wr ZR.out hlen hm HV.out HX.out)
        by_cases hl : (m : Int) + 1 < (zs.length : Int)
        all_goals
          go_wp2_with fail
          refine HP.out.mono ?_
          rintro e w3 ⟨t, ev, rfl, hb3, hd⟩
          have hd2 : t = ⟨#[]⟩ ∧ Tells w3 ev 1 m := by
            rcases hd with ⟨h1, _⟩ | ⟨_, h1, h2⟩
            · omega
            · exact ⟨h1, h2⟩
          obtain ⟨rfl, hT1⟩ := hd2
          have TELL := hid hT1
          have d3 := cells_next hc hs hb3
          have f3 : ∀ o, w3.frozen? ⟨w1.heap.size, o, none⟩ = false := fun o => (hb3.frozen (p := ⟨w1.heap.size, o, none⟩) hs).trans (hf o)
          have y3 : w1.heap.size < w3.heap.size := by have := hb3.size; omega
          have B3 := hid (btr HB.out hb3)
          clear hb3 hc hf hd hT1
          go_wp2_with fail
          refine (is_yes _ _ _ _ (HT.out.below B3.out).et TELL.out).mono ?_
          rintro e wa ⟨rfl, hba⟩
          have da := cells_next d3 y3 hba
          have fa : ∀ o, wa.frozen? ⟨w1.heap.size, o, none⟩ = false := fun o => (hba.frozen (p := ⟨w1.heap.size, o, none⟩) y3).trans (f3 o)
          have ya : w1.heap.size < wa.heap.size := by have := hba.size; omega
          have Ba := hid (btr B3.out hba)
          clear hba d3 f3
          go_wp2_with fail
          refine (HU1.out _).mono ?_
          rintro e wb ⟨vb, rfl, hbb, hLb, hob⟩
          have db := cells_next da ya hbb
          have fb : ∀ o, wb.frozen? ⟨w1.heap.size, o, none⟩ = false := fun o => (hbb.frozen (p := ⟨w1.heap.size, o, none⟩) ya).trans (fa o)
          have yb : w1.heap.size < wb.heap.size := by have := hbb.size; omega
          have Bb := hid (btr Ba.out hbb)
          have Lb := hid ((hLb.far (B := w1.heap.size) (i := 0) (fun b h => by have := hob b h; omega) (.int .i64 x)).far (B := w1.heap.size) (i := 1) (fun b h => by have := hob b h; omega) (.int .i64 y))
          clear hbb da fa hLb hob
          go_wp2_with fail
          have qb := two_set (v0 := .int .i64 x) (v1 := .int .i64 y) db
          have Bq := hid (below_set2 (v := .int .i64 x) (u := .int .i64 y) Bb.out hD)
          refine (HU2.out _ (HT.out.below Bq.out).ml).mono ?_
          rintro e wc ⟨vc, ev, rfl, hbc, hLc, hT⟩
          have dc := cells_next qb (by rw [size_two]; exact yb) hbc
          have Bc := hid (btr Bq.out hbc)
          have LB := hid (Lb.out.below hbc)
          have LC := hid hLc
          have TC := hid hT
          clear hbc qb db fb hLc hT
          go_wp2_with fail
          refine (is_yes _ _ _ _ (HT.out.below Bc.out).et TC.out).mono ?_
          rintro e wd ⟨rfl, hbd⟩
          have LBd := hid (LB.out.below hbd)
          have LCd := hid (LC.out.below hbd)
          have Bd := hid (btr Bc.out hbd)
          clear hbd dc
          go_wp2_with fail
          refine (same_any _ _ _ _ LCd.out LBd.out).mono ?_
          rintro e we ⟨rfl, hbe⟩
          go_wp2_with fail
          go_ret
          exact ⟨rfl, btr Bd.out hbe⟩
theorem wordTexts_far (n b off cap : Nat) (s : ByteArray) (w : World) (h1 : 500 < n) (h2 : n ≤ maxLen) :
    Calls Tryd.prog 5 #[.slice (some ⟨b, off, none⟩) n cap, .string s] w fun e w' => e = .returned (.bool true) ∧ Below w.heap.size w w' := by
  unfold maxLen at h2
  go_enter Tryd.func5, Tryd.ntmps5
  go_wp2_with fail
  go_ret
  exact ⟨rfl, Below.refl _ _⟩
theorem wordTexts_mid (v : Value) (n : Nat) (s : ByteArray) (w : World) (hv : v = .slice none 0 0 ∧ n = 0 ∨ ∃ b off cap, v = .slice (some ⟨b, off, none⟩) n cap) (h1 : n ≤ 500) (h2 : 1500 < s.size) (h3 : s.size ≤ 4000) :
    Calls Tryd.prog 5 #[v, .string s] w fun e w' => e = .returned (.bool true) ∧ Below w.heap.size w w' := by
  have h4 : 1500 < (s.size : Int) := by omega
  have h5 : (s.size : Int) ≤ 4000 := by omega
  have h6 : (n : Int) ≤ 500 := by omega
  rcases hv with ⟨rfl, rfl⟩ | ⟨b, off, cap, rfl⟩
  all_goals
    go_enter Tryd.func5, Tryd.ntmps5
    go_wp2_with fail
    go_ret
    exact ⟨rfl, Below.refl _ _⟩
theorem wordTexts_some (zs : List Int) (b off cap : Nat) (s : ByteArray) (w : World) (ht : WW w) (hz : IntsAt w b off zs) (hl : zs.length ≤ maxLen) :
    Calls Tryd.prog 5 #[.slice (some ⟨b, off, none⟩) zs.length cap, .string s] w fun e w' => e = .returned (.bool true) ∧ Below w.heap.size w w' := by
  by_cases h1 : 500 < zs.length
  · exact wordTexts_far _ b off cap s w h1 hl
  · by_cases h2 : 1500 < s.size ∧ s.size ≤ 4000
    · exact wordTexts_mid _ zs.length s w (.inr ⟨b, off, cap, rfl⟩) (by omega) h2.1 h2.2
    · by_cases h3 : zs.length ≤ 384
      · exact wordTexts_short zs b off cap s w ht hz h3 (by omega)
      · exact wordTexts_long _ b off cap s w ht (by omega) (by omega) (by omega)
theorem wordTexts_none (s : ByteArray) (w : World) (ht : WW w) :
    Calls Tryd.prog 5 #[.slice none 0 0, .string s] w fun e w' => e = .returned (.bool true) ∧ Below w.heap.size w w' := by
  by_cases h2 : 1500 < s.size ∧ s.size ≤ 4000
  · exact wordTexts_mid _ 0 s w (.inl ⟨rfl, rfl⟩) (by omega) h2.1 h2.2
  · exact wordTexts_nil s w ht (by omega)
end Go.Proofs.YtemlobepnfpalaaDoor.Hex
