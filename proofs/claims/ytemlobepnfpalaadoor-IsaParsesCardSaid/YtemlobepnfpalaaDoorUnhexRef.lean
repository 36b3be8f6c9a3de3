/- keyholdref.UnhexOf, walked. -/
import Derived.Test.YtemlobepnfpalaaDoorReadWalk
import Derived.Test.YtemlobepnfpalaaDoorIsaTextsWalk
namespace Go.Proofs.YtemlobepnfpalaaDoor.Hex
open Go.RowKit Go.Proofs.YtemlobepnfpalaaDoor.Mem Go.Proofs.YtemlobepnfpalaaDoor.Isa Go.Proofs.YtemlobepnfpalaaDoor.Txt

theorem infoInt : (Tryd.prog.info? 3).map (fun i => (i.zero, i.size, i.bytes)) = some (some (.int .i64 0), 1, 8) := by kernel_rfl
def nums (zs : List ByteArray) : List Int := zs.map fun t => (num t.data.toList : Int)
def ints (l : List Int) : List Value := l.map (.int .i64)
def wordB (t : ByteArray) : Bool := isWord t.data.toList
theorem hex_all : ∀ d : Fin 16, (hexes.data[d.val]'(show d.val < hexes.data.size from d.isLt)).toNat = if d.val < 10 then d.val + 48 else d.val + 87 := by decide
theorem hex_at (d : Nat) (h2 : d < hexes.size) : hexes[d].toNat = if d < 10 then d + 48 else d + 87 := hex_all ⟨d, h2⟩
theorem hex_miss (b : UInt8) (d : Nat) (h : d < worth b.toNat) (h2 : d < hexes.size) : ((hexes[d].toNat : Int) != (b.toNat : Int)) = true := by
  have e := hex_at d h2
  generalize hexes[d].toNat = x at e ⊢
  have hd : d < 16 := h2
  rw [bne_iff_ne]
  intro e1
  have e2 : x = b.toNat := by omega
  rw [← e2, e] at h
  unfold worth at h
  split at h <;> split at h <;> (try split at h) <;> (try split at h) <;> omega
theorem hex_hit (b : UInt8) (d : Nat) (h : d = worth b.toNat) (h2 : d < hexes.size) : ((hexes[d].toNat : Int) != (b.toNat : Int)) = false := by
  have e := hex_at d h2
  generalize hexes[d].toNat = x at e ⊢
  have hd : d < 16 := h2
  have hb := b.toNat_lt
  have e2 : x = b.toNat := by
    rw [e]
    unfold worth at h
    split at h
    · rw [if_pos (by omega)]; omega
    · split at h
      · rw [if_neg (by omega)]; omega
      · omega
  rw [bne_eq_false_iff_eq, e2]
theorem not_empty {s : ByteArray} (h : s.size ≠ 0) : s.toList.isEmpty = false := by
  rw [List.isEmpty_eq_false_iff]
  intro e
  apply h
  have h1 := congrArg List.length e
  rw [ByteArray.toList_eq] at h1
  exact h1
theorem IntsAt.far {w : World} {b off B i : Nat} {zs : List Int} (h : IntsAt w b off zs) (hne : B ≠ b) (v : Value) : IntsAt (w.setCell ⟨B, i, none⟩ v) b off zs := fun j hj => by
  rw [World.cell?_setCell_other w _ _ _ (by intro e; cases e; exact hne rfl)]
  exact h j hj
set_option maxHeartbeats 4000000 in
set_option maxRecDepth 100000 in
theorem unhexOf_some (s : ByteArray) (m : Nat) (w : World) (hs : s.size ≤ 4000) (h0 : s.size ≠ 0) (hm : m ≤ (cutB 32 s).length) (hv : ∀ j (h : j < (cutB 32 s).length), j < m → wordB (cutB 32 s)[j] = true) (hx : ∀ h : m < (cutB 32 s).length, wordB (cutB 32 s)[m] = false) :
    Calls Tryd.prog 22 #[.string s] w fun e w' => ∃ v x y, e = .returned (.tuple #[v, .agg #[.int .i64 x, .int .i64 y]]) ∧ Below w.heap.size w w' ∧
      ((m = (cutB 32 s).length ∧ x = 0 ∧ y = -1 ∧ ∃ b cap, v = .slice (some ⟨b, 0, none⟩) (nums (cutB 32 s)).length cap ∧ w.heap.size ≤ b ∧ IntsAt w' b 0 (nums (cutB 32 s))) ∨ (m < (cutB 32 s).length ∧ x = 1 ∧ y = m ∧ v = .slice none 0 0)) := by
  obtain ⟨i0, hi, hz0, hz1, hz2⟩ := info_parts infoInt
  have HV := hid hv
  have HX := hid hx
  clear hv hx
  have HC := hid (cut_any s 32)
  have HL := hid (cutL_len 32 s.data.toList)
  have hll : (cutB 32 s).length ≤ 4001 := by
    have := HL.out
    rw [← size_list] at this
    simp only [cutB, List.length_map]
    omega
  have HM := hid (cutL_mem_len 32 s.data.toList)
  have HMB := hid (show ∀ j (h : j < (cutB 32 s).length), (cutB 32 s)[j].size ≤ 4000 by
    intro j h
    have h2 : j < (cutL 32 s.data.toList).length := by simpa [cutB] using h
    have := HM.out _ (List.getElem_mem h2)
    rw [← size_list] at this
    simp only [cutB, List.getElem_map, ByteArray.size, List.size_toArray]
    omega)
  have HNE := hid (show (cutB 32 s) ≠ [] by unfold cutB; simp [cutL_ne])
  generalize cutB 32 s = zs at *
  clear HL HM
  have hs2 : ¬ (4000 < (s.size : Int)) := by omega
  have he := not_empty h0
  clear h0
  go_enter Tryd.func22, Tryd.ntmps22
  go_wp2_with fail
  refine (HC.out _ (by omega)).mono ?_
  rintro e w2 ⟨lb, lc, rfl, hS, hb2⟩
  have S2 := hid hS
  have c2 := cells_next (cells_new w #[.int .i64 0, .int .i64 0] 41) (by simp) hb2
  have f2 : ∀ o, w2.frozen? ⟨w.heap.size, o, none⟩ = false := fun o => (hb2.frozen (p := ⟨w.heap.size, o, none⟩) (by simp)).trans (World.frozen?_alloc_at _ _ _ _ rfl)
  have y2 : w.heap.size < w2.heap.size := by have := hb2.size; simp at this; omega
  have B2 := hid (btr (bal (Below.refl _ _) _) hb2)
  clear hS hb2
  go_wp2_with fail
  go_loopw [5, 6] (fun v i wr => ∃ k : Nat, k ≤ m ∧ i = .int .i64 k ∧ wr.ownsRow w2.heap.size 3 1 v k (ints (nums (zs.take k))) ∧ Below w2.heap.size w2 wr) (fun _ i _ => zs.length - (intOf i).toNat)
  case atStart => exact ⟨0, by omega, rfl, World.ownsRow_nil _ _ _ _, Below.refl _ _⟩
  case round =>
    obtain ⟨k, hk, rfl, hO, hB⟩ := hrel
    have HO := hid hO
    have HB := hid hB
    have SR := hid (S2.out.below hB)
    clear hO hB
    generalize wr = w3 at *
    by_cases hlt : k < zs.length
    · have hlt2 : (k : Int) < (zs.length : Int) := by omega
      have hc := SR.out k hlt
      rw [Nat.zero_add] at hc
      have hts := HMB.out k hlt
      have HQ := hid (List.take_succ_eq_append_getElem hlt)
      have HV1 := hid (HV.out k hlt)
      have HX1 := hid (show k = m → wordB zs[k] = false by rintro rfl; exact HX.out hlt)
      generalize zs[k] = t at hc hts HQ HV1 HX1
      have HF := hid (show (((t.size : Int) == 4) = true) ↔ t.size = 4 by rw [beq_iff_eq]; omega)
      generalize hq : ((t.size : Int) == 4) = q at HF
      go_wp2_with fail
      clear hq
      go_loopw [7, 8, 9] (fun n ok kk wx => ∃ (j : Nat) (x : Int), j ≤ t.size ∧ kk = .int .i64 j ∧ ok = .bool (q && good (t.data.toList.take j)) ∧ n = .int .i64 x ∧ (t.size = 4 → x = num (t.data.toList.take j)) ∧ Below w3.heap.size w3 wx) (fun _ _ kk _ => t.size - (intOf kk).toNat)
      case atStart => exact ⟨0, 0, by omega, rfl, by simp [good], rfl, fun _ => rfl, Below.refl _ _⟩
      case round =>
        obtain ⟨j, x, hj, rfl, rfl, rfl, hx, hBx⟩ := hrel
        have BX := hid hBx
        have HX0 := hid hx
        clear hBx hx
        generalize wr = w4 at *
        generalize hgg : (q && good (t.data.toList.take j)) = g at *
        have HG := hid hgg
        clear hgg
        by_cases hjt : j < t.size
        · have hjt2 : (j : Int) < (t.size : Int) := by omega
          have hcx := cellB hc BX.out
          have HT := hid (show t.data.toList.take (j + 1) = t.data.toList.take j ++ [t[j]] from List.take_succ_eq_append_getElem (by simpa using hjt))
          have hwl := worth_le t[j].toNat
          go_wp2_with fail
          go_loopw [10] (fun d wy => ∃ i : Nat, i ≤ worth t[j].toNat ∧ d = .int .i64 i ∧ Below w3.heap.size w3 wy) (fun d _ => 17 - (intOf d).toNat)
          case atStart => exact ⟨0, by omega, rfl, BX.out⟩
          case round =>
            obtain ⟨i, hi2, rfl, hBy⟩ := hrel
            have BY := hid hBy
            have hcy := cellB hc BY.out
            clear hBy
            by_cases hiw : i < worth t[j].toNat
            · have h16 : i < hexes.size := Nat.lt_of_lt_of_le hiw (worth_le _)
              have h162 : (i : Int) < 16 := by omega
              have hms := hex_miss t[j] i hiw h16
              unfold hexes at hms
              go_wp2_with fail
              go_quiet (fail)
              go_wp2_with fail
              exact ⟨⟨i + 1, by omega, by go_num, below_drewN BY.out nq⟩, by simp [intOf]; omega⟩
            · obtain rfl : i = worth t[j].toNat := by omega
              have HW := hid (rfl : worth t[j].toNat = worth t[j].toNat)
              generalize hv : worth t[j].toNat = v at *
              have HVV := hid hv
              by_cases h16 : v < 16
              · have h162 : (v : Int) < 16 := by omega
                have hms := hex_hit t[j] v hv.symm h16
                unfold hexes at hms
                clear hv
                by_cases h4 : t.size = 4
                · have hx := HX0.out h4
                  have hxb : x < 200000 := by
                    rw [hx]
                    have h5 := num_lt (t.data.toList.take j)
                    rw [List.length_take] at h5
                    have h6 : (17 : Nat) ^ min j t.data.toList.length ≤ 17 ^ 4 := Nat.pow_le_pow_right (by decide) (by rw [← size_list, h4]; omega)
                    omega
                  have hx0 : 0 ≤ x := by omega
                  have HX1 := hid hx
                  have H4 := hid h4
                  clear hx h4
                  cases g
                  all_goals
                    go_wp2_with fail
                    go_quiet (fail)
                    go_wp2_with fail
                    refine ⟨⟨j + 1, _, by omega, by go_num, ?_, rfl, fun _ => ?_, below_drewN BY.out nq⟩, by simp [intOf]; omega⟩
                    · rw [HT.out, good_snoc, ← Bool.and_assoc, HG.out, HVV.out]
                      simp [h16]
                    · rw [HT.out, num_snoc, HX1.out, HVV.out]
                      omega
                · have h4q : q = false := by
                    rw [← Bool.not_eq_true]
                    exact fun e => h4 (HF.out.1 e)
                  have hgf : g = false := by rw [← HG.out, h4q]; rfl
                  have H4 := hid h4
                  have HQ4 := hid h4q
                  clear h4 h4q
                  subst hgf
                  go_wp2_with fail
                  go_quiet (fail)
                  go_wp2_with fail
                  refine ⟨⟨j + 1, _, by omega, by go_num, ?_, rfl, fun h => absurd h H4.out, below_drewN BY.out nq⟩, by simp [intOf]; omega⟩
                  rw [HQ4.out]
                  rfl
              · have hv16 : v = 16 := by omega
                clear hv h16
                subst hv16
                have h16 : ¬ (16 : Nat) < 16 := by omega
                by_cases h4 : t.size = 4
                · have hx := HX0.out h4
                  have hxb : x < 200000 := by
                    rw [hx]
                    have h5 := num_lt (t.data.toList.take j)
                    rw [List.length_take] at h5
                    have h6 : (17 : Nat) ^ min j t.data.toList.length ≤ 17 ^ 4 := Nat.pow_le_pow_right (by decide) (by rw [← size_list, h4]; omega)
                    omega
                  have hx0 : 0 ≤ x := by omega
                  have HX1 := hid hx
                  have H4 := hid h4
                  clear hx h4
                  cases g
                  all_goals
                    go_wp2_with fail
                    go_quiet (fail)
                    go_wp2_with fail
                    refine ⟨⟨j + 1, _, by omega, by go_num, ?_, rfl, fun _ => ?_, below_drewN BY.out nq⟩, by simp [intOf]; omega⟩
                    · rw [HT.out, good_snoc, ← Bool.and_assoc, HG.out, HVV.out]
                      simp [h16]
                    · rw [HT.out, num_snoc, HX1.out, HVV.out]
                      omega
                · have h4q : q = false := by
                    rw [← Bool.not_eq_true]
                    exact fun e => h4 (HF.out.1 e)
                  have hgf : g = false := by rw [← HG.out, h4q]; rfl
                  have H4 := hid h4
                  have HQ4 := hid h4q
                  clear h4 h4q
                  subst hgf
                  go_wp2_with fail
                  go_quiet (fail)
                  go_wp2_with fail
                  refine ⟨⟨j + 1, _, by omega, by go_num, ?_, rfl, fun h => absurd h H4.out, below_drewN BY.out nq⟩, by simp [intOf]; omega⟩
                  rw [HQ4.out]
                  rfl
        · obtain rfl : j = t.size := by omega
          have hge : ¬ ((t.size : Int) < (t.size : Int)) := by omega
          have hcx := cellB hc BX.out
          have HWB := hid (show g = wordB t by
            rw [← HG.out, size_list, List.take_length]
            unfold wordB isWord
            rw [← size_list]
            congr 1
            rw [Bool.eq_iff_iff, HF.out, beq_iff_eq])
          by_cases hkm : k < m
          · have hgt : g = true := HWB.out.trans (HV1.out hkm)
            subst hgt
            have h4 : t.size = 4 := by
              have := HG.out
              rw [Bool.and_eq_true] at this
              exact HF.out.1 this.1
            have hx := HX0.out h4
            rw [size_list, List.take_length] at hx
            have HXX := hid hx
            have O4 := hid (Bld.own_below HO.out BX.out)
            have B4 := hid (HB.out.trans (BX.out.mono HB.out.size))
            clear hx h4
            go_wp2_with (at_builtin; refine wpList_append_own _ rfl _ _ 48 rfl w2.heap.size 3 i0 (.int .i64 0) 1 8 Tryd.underlying48 hi hz0 hz1 hz2 rfl (by decide) _ _ _ rfl (O4.out.alloc _) ⟨w4.heap.size, 0, none⟩ 1 1 [.int .i64 x] rfl rfl ?c1 ?c2 ?c3 ?c4 ?c5 ?_)
            case c2 => rfl
            case c3 => unfold maxLen; omega
            case c4 => omega
            case c5 => have := B4.out.size; simp; omega
            intro v' w5 hown' hgrow _
            have B5 := hid ((bal B4.out _).grown hgrow (by have := B4.out.size; simp; omega) (fun k hk => (O4.out.lt k hk).1))
            have O5 := hid hown'
            clear hown' hgrow
            go_wp2_with fail
            refine ⟨⟨k + 1, by omega, by go_num, ?_, B5.out⟩, by simp [intOf]; omega⟩
            rw [HQ.out]
            have e := O5.out
            rw [HXX.out] at e
            simpa [nums, ints] using e
          · obtain rfl : k = m := by omega
            have hgf : g = false := HWB.out.trans (HX1.out rfl)
            subst hgf
            have B4 := hid (HB.out.trans (BX.out.mono HB.out.size))
            have c4 := cells_next c2 y2 B4.out
            have f4 : ∀ o, w4.frozen? ⟨w.heap.size, o, none⟩ = false := fun o => (B4.out.frozen (p := ⟨w.heap.size, o, none⟩) y2).trans (f2 o)
            go_wp2_with fail
            have q4 := two_set (v0 := .int .i64 1) (v1 := .int .i64 k) c4
            refine bodyPost_ret (v := .tuple #[.slice none 0 0, .agg #[.int .i64 1, .int .i64 k]]) (by simp [results, Tryd.results22, go_sem, q4 0, q4 1]) rfl ⟨_, _, _, rfl, ?_, .inr ⟨rfl, rfl, rfl⟩⟩
            exact bset (bset (B2.out.trans (B4.out.mono (by omega))) (Nat.le_refl _) _) (Nat.le_refl _) _
    · obtain rfl : k = zs.length := by omega
      have hge : ¬ ((zs.length : Int) < (zs.length : Int)) := by omega
      have hkm : m = zs.length := by omega
      have c4 := cells_next c2 y2 HB.out
      have f4 : ∀ o, w3.frozen? ⟨w.heap.size, o, none⟩ = false := fun o => (HB.out.frozen (p := ⟨w.heap.size, o, none⟩) y2).trans (f2 o)
      have y3 : w.heap.size < w3.heap.size := by have := HB.out.size; omega
      have O := HO.out
      rw [List.take_length] at O
      obtain ⟨rb, rc, hv5, hrb, hI⟩ : ∃ b cap, u5 = .slice (some ⟨b, 0, none⟩) (nums zs).length cap ∧ w2.heap.size ≤ b ∧ IntsAt w3 b 0 (nums zs) := by
        rcases O.2 with ⟨_, h1⟩ | ⟨g, cap, cur, hu, hgb, _⟩
        · exact absurd (List.length_eq_zero_iff.1 h1) HNE.out
        · refine ⟨g, cap, by rw [hu]; simp [nums], hgb, fun j hj => ?_⟩
          have hj2 : j < zs.length := by simpa [nums] using hj
          rw [hu] at O
          rw [Nat.zero_add, O.cellAt j (by omega)]
          simp [ints, List.getElem?_eq_getElem hj]
      subst hv5
      have HI := hid hI
      clear O hI
      go_wp2_with fail
      refine (fine_any _).mono ?_
      rintro e w6 ⟨rfl, hb6⟩
      have c6 := cells_next c4 y3 hb6
      have f6 : ∀ o, w6.frozen? ⟨w.heap.size, o, none⟩ = false := fun o => (hb6.frozen (p := ⟨w.heap.size, o, none⟩) y3).trans (f4 o)
      have I6 := hid (HI.out.below hb6)
      have B6 := hid (btr (B2.out.trans (HB.out.mono (by omega))) hb6)
      clear hb6
      go_wp2_with fail
      have q6 := two_set (v0 := .int .i64 0) (v1 := .int .i64 (-1)) c6
      refine bodyPost_ret (v := .tuple #[.slice (some ⟨rb, 0, none⟩) (nums zs).length rc, .agg #[.int .i64 0, .int .i64 (-1)]]) (by simp [results, Tryd.results22, go_sem, q6 0, q6 1]) rfl ⟨_, _, _, rfl, ?_, .inl ⟨hkm, rfl, rfl, rb, rc, rfl, by omega, ?_⟩⟩
      · exact bset (bset B6.out (Nat.le_refl _) _) (Nat.le_refl _) _
      · exact (I6.out.far (by omega) _).far (by omega) _
end Go.Proofs.YtemlobepnfpalaaDoor.Hex
