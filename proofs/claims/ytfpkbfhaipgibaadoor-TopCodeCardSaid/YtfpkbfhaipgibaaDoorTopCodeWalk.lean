/- keyholdtop.TopCode, walked. -/
import Derived.Test.YtfpkbfhaipgibaaDoorCodeRead2
import Derived.Test.YtfpkbfhaipgibaaDoorDecWalk
namespace Go.Proofs.YtfpkbfhaipgibaaDoor.Made
open Go.RowKit Go.Proofs.YtfpkbfhaipgibaaDoor.Mem Go.Proofs.YtfpkbfhaipgibaaDoor.Hex Go.Proofs.YtfpkbfhaipgibaaDoor.Txt Go.Proofs.YtfpkbfhaipgibaaDoor.Prs

theorem wrap_in {x : Int} (h0 : -100000 ≤ x) (h1 : x ≤ 100000) : wrap64 x = x := by
  unfold wrap64
  omega
theorem dec_enc {o a b i : Int} (h : IP.may o a b i = 0) : Isa.decV (IP.c0 o a b) (IP.c1 i) = .tuple #[.agg #[.int .i64 o, .int .i64 a, .int .i64 b, .int .i64 i], .nilIface] := by
  obtain ⟨o0, o1, a0, a1, b0, b1, i0, i1⟩ := IP.may_zero h
  have e1 : Isa.dO (IP.c0 o a b) = o := by
    unfold Isa.dO IP.c0
    rw [Int.tdiv_eq_ediv_of_nonneg (by omega), wrap_in (by omega) (by omega)]
    omega
  have e2 : Isa.dA (IP.c0 o a b) = a := by
    unfold Isa.dA IP.c0
    rw [Int.tdiv_eq_ediv_of_nonneg (by omega), wrap_in (by omega) (by omega), Int.tmod_eq_emod_of_nonneg (by omega)]
    omega
  have e3 : Isa.dB (IP.c0 o a b) = b := by
    unfold Isa.dB IP.c0
    rw [Int.tmod_eq_emod_of_nonneg (by omega)]
    omega
  have e4 : Isa.dY (IP.c1 i) = i := by
    unfold Isa.dY IP.c1
    by_cases hi : i < 0
    · rw [if_pos hi, if_pos (by omega), wrap_in (by omega) (by omega)]
      omega
    · rw [if_neg hi, if_neg (by omega)]
  unfold Isa.decV
  rw [e1, e2, e3, e4, if_pos ⟨h, rfl, rfl⟩]
/-- What the program's tables hold. -/
structure QW (w : World) : Prop where
  cw : CW w
  ml : MLok w
theorem QW.below {w w' : World} (h : QW w) (hb : Below w.heap.size w w') : QW w' := ⟨h.cw.below hb, h.ml.below hb⟩
theorem whole_parse (zs : List (Int × Int × Int × Int)) (h : ∀ q ∈ zs, GoodQ q) (hl : zs.length = 16) (w : World) (hq : QW w) :
    Calls Tryd.prog 9 #[.string ((⟨#[98, 101, 103, 105, 110, 58, 10]⟩ : ByteArray) ++ ⟨(textL zs).toArray⟩)] w fun e w' => ∃ b cap, e = .returned (.tuple #[.slice (some ⟨b, 0, none⟩) zs.length cap, .nilIface]) ∧ Below w.heap.size w w' ∧ InsAt w' b 0 zs := by
  have e : (⟨#[98, 101, 103, 105, 110, 58, 10]⟩ : ByteArray) ++ ⟨(textL zs).toArray⟩ = wholeB zs := by
    apply bytes_ext
    rw [Hex.app_list]
    unfold wholeB
    simp
  rw [e]
  have hs := whole_size zs h
  obtain ⟨m, m2, hE⟩ : ∃ m m2, Prs.Ends (linesB (wholeB zs)) m m2 := by
    obtain ⟨m, a1, a2, a3⟩ := first_not (linesB (wholeB zs)).length (fun j => ∀ h : j < (linesB (wholeB zs)).length, labE (upTo (linesB (wholeB zs)) j).1 (linesB (wholeB zs))[j] = 0)
    obtain ⟨m2, b1, b2, b3⟩ := first_not (linesB (wholeB zs)).length (fun j => ∀ h : j < (linesB (wholeB zs)).length, lineE (upTo (linesB (wholeB zs)) (linesB (wholeB zs)).length).1 (linesB (wholeB zs))[j] = 0)
    exact ⟨m, m2, a1, fun j h hj => a2 j hj h, fun h e => a3 h (fun _ => e), b1, fun j h hj => b2 j hj h, fun h e => b3 h (fun _ => e)⟩
  have hll : (linesB (wholeB zs)).length ≤ 100001 := by rw [lines_whole zs h]; simp; omega
  have hz : ∀ t ∈ linesB (wholeB zs), t.size ≤ 100000 := fun t ht => by
    have h1 : t ∈ cutB 10 (wholeB zs) := by
      unfold linesB at ht
      split at ht
      · exact List.dropLast_subset _ ht
      · exact ht
    unfold cutB at h1
    obtain ⟨l, hl, rfl⟩ := List.mem_map.1 h1
    have := cutL_mem_len 10 (wholeB zs).data.toList l hl
    simp only [ByteArray.size, List.size_toArray]
    rw [← size_list] at this
    omega
  refine (parse_some (wholeB zs) m m2 w hq.ml hq.cw.nm (by omega) hE hll hz).mono ?_
  rintro e w' ⟨v, ev, rfl, hb, hp⟩
  rw [lines_whole zs h] at hE hp
  obtain ⟨rfl, rfl⟩ := whole_ends zs h m m2 hE
  have hf := whole_few zs h (by omega)
  rcases hp with ⟨h1, _⟩ | ⟨_, h1, _⟩ | ⟨_, _, h1, _⟩ | ⟨_, _, _, rfl, h1⟩
  · omega
  · exact absurd h1 hf
  · omega
  · rw [whole_code zs h] at h1
    obtain ⟨p, cap, rfl, _, h2⟩ := h1
    obtain ⟨b, rfl, h3⟩ := h2 (by intro e; rw [e] at hl; cases hl)
    exact ⟨b, cap, rfl, hb, h3⟩
theorem topCode_far (n b off cap : Nat) (y : Int) (w : World) (h1 : 256 < n) (h2 : n ≤ maxLen) :
    Calls Tryd.prog 7 #[.slice (some ⟨b, off, none⟩) n cap, .int .i64 y] w fun e w' => e = .returned (.bool true) ∧ Below w.heap.size w w' := by
  unfold maxLen at h2
  go_enter Tryd.func7, Tryd.ntmps7
  go_wp2_with fail
  go_ret
  exact ⟨rfl, Below.refl _ _⟩
theorem text_whole (zs : List (Int × Int × Int × Int)) (lb lc : Nat) (w : World) (hq : QW w) (hI : InsAt w lb 0 zs) (hl : zs.length = 16) (hg : ∀ q ∈ zs, GoodQ q) :
    Calls Tryd.prog 33 #[.slice (some ⟨lb, 0, none⟩) zs.length lc] w fun e w' => e = .returned (.tuple #[.string ⟨(textL zs).toArray⟩, .nilIface]) ∧ Below w.heap.size w w' := by
  have hv : ∀ j (h : j < zs.length), j < zs.length → mayQ zs[j] = 0 := fun j h _ => (hg zs[j] (List.getElem_mem h)).1
  refine (text_some zs lb 0 lc zs.length w hq.cw hI (by omega) (Nat.le_refl _) hv (fun h => absurd h (Nat.lt_irrefl _))).mono ?_
  rintro e w' ⟨st, ev, rfl, hb, hd⟩
  rcases hd with ⟨_, rfl, rfl⟩ | ⟨h1, _⟩
  · exact ⟨rfl, hb⟩
  · exact absurd h1 (Nat.lt_irrefl _)
set_option maxHeartbeats 8000000 in
theorem topCode_main (v : Value) (n : Nat) (y : Int) (w : World) (hq : QW w) (hv : v = .slice none 0 0 ∧ n = 0 ∨ ∃ b off cap, v = .slice (some ⟨b, off, none⟩) n cap) (hn : n ≤ 256) (hR : RawAt w v) (y0 : -9223372036854775808 ≤ y) (y1 : y ≤ 9223372036854775807) :
    Calls Tryd.prog 7 #[v, .int .i64 y] w fun e w' => e = .returned (.bool true) ∧ Below w.heap.size w w' := by
  have HQ := hid hq
  have HR := hid hR
  have hn2 : (n : Int) ≤ 256 := by omega
  clear hq hR
  obtain ⟨ya, hya⟩ : ∃ a : Nat, pickV y 100 = (a : Int) := ⟨(pickV y 100).toNat, by have := pickV_bound y 100 (by decide); omega⟩
  have HYA := hid hya
  have hyb : ya < 100 := by have := pickV_bound y 100 (by decide); omega
  clear hya
  rcases hv with ⟨rfl, rfl⟩ | ⟨rb, ro, rc, rfl⟩
  all_goals
    go_enter Tryd.func7, Tryd.ntmps7
    go_wp2_with fail
    refine (pick_eq _ _ _ y0 y1 (by decide)).mono ?_
    rintro e w' ⟨rfl, rfl⟩
    rw [HYA.out]
    go_wp2_with fail
    refine (codeFrom_any _ ya _ HR.out hyb).mono ?_
    rintro e w1 ⟨lb, lc, zs, rfl, hzl, hgood, hI1, hb1⟩
    have GG := hid hgood
    have ZL := hid hzl
    have I1 := hid hI1
    have B1 := hid hb1
    have hz16 : zs.length ≤ 16 := by omega
    clear hgood hI1 hb1 hzl
    go_wp2_with fail
    refine (text_whole zs lb lc _ (HQ.out.below B1.out) I1.out ZL.out GG.out).mono ?_
    rintro e w2 ⟨rfl, hb2⟩
    have I2 := hid (I1.out.below hb2)
    have B2 := hid (btr B1.out hb2)
    clear hb2
    have HP := hid (whole_parse zs GG.out ZL.out w2 (HQ.out.below B2.out))
    have hts : (⟨(textL zs).toArray⟩ : ByteArray).size ≤ 1000 := by
      have h1 := whole_size zs GG.out
      have h2 : (wholeB zs).size = 7 + (textL zs).length := by unfold wholeB; simp [ByteArray.size]; omega
      have h3 : (⟨(textL zs).toArray⟩ : ByteArray).size = (textL zs).length := by simp [ByteArray.size]
      omega
    generalize (⟨(textL zs).toArray⟩ : ByteArray) = ts at *
    go_wp2_with fail
    refine HP.out.mono ?_
    rintro e w3 ⟨mb, mc, rfl, hb3, hJ3⟩
    have I3 := hid (I2.out.below hb3)
    have J3 := hid hJ3
    have B3 := hid (btr B2.out hb3)
    clear hb3 hJ3 HP
    go_wp2_with fail
    go_loopw [10] (fun i wr => ∃ k : Nat, k ≤ zs.length ∧ i = .int .i64 k ∧ Below w3.heap.size w3 wr) (fun i _ => zs.length - (intOf i).toNat)
    case atStart => exact ⟨0, by omega, rfl, Below.refl _ _⟩
    case round =>
      obtain ⟨k, hk, rfl, hB⟩ := hrel
      have HB := hid hB
      clear hB
      by_cases hlt : k < zs.length
      · have hlt2 : (k : Int) < (zs.length : Int) := by omega
        have IR := hid (I3.out.below HB.out)
        have JR := hid (J3.out.below HB.out)
        obtain ⟨a0, a1, a2, a3⟩ := IR.out k hlt
        rw [Nat.zero_add] at a0 a1 a2 a3
        have HM := hid (GG.out zs[k] (List.getElem_mem hlt)).1
        have HZK := hid (show ∀ W : World, InsAt W lb 0 zs → W.cell? ⟨lb, k * 4, none⟩ = some (.int .i64 zs[k].1) ∧ W.cell? ⟨lb, k * 4 + 1, none⟩ = some (.int .i64 zs[k].2.1) ∧ W.cell? ⟨lb, k * 4 + 2, none⟩ = some (.int .i64 zs[k].2.2.1) ∧ W.cell? ⟨lb, k * 4 + 3, none⟩ = some (.int .i64 zs[k].2.2.2) from fun W h => by have := h k hlt; simpa only [Nat.zero_add] using this)
        have HJK := hid (show ∀ W : World, InsAt W mb 0 zs → W.cell? ⟨mb, k * 4, none⟩ = some (.int .i64 zs[k].1) ∧ W.cell? ⟨mb, k * 4 + 1, none⟩ = some (.int .i64 zs[k].2.1) ∧ W.cell? ⟨mb, k * 4 + 2, none⟩ = some (.int .i64 zs[k].2.2.1) ∧ W.cell? ⟨mb, k * 4 + 3, none⟩ = some (.int .i64 zs[k].2.2.2) from fun W h => by have := h k hlt; simpa only [Nat.zero_add] using this)
        generalize zs[k] = q at a0 a1 a2 a3 HM HZK HJK
        obtain ⟨qo, qa, qb, qi⟩ := q
        simp only at a0 a1 a2 a3
        have HDE := hid (dec_enc HM.out)
        go_wp2_with fail
        refine (Isa.encode_ok _ _ _ _ _ HM.out).mono ?_
        rintro e w5 ⟨rfl, hb5⟩
        have R5 := hid (bal (hb5) (.cells #[.int .i64 (IP.c0 qo qa qb), .int .i64 (IP.c1 qi)] 78))
        clear hb5
        go_wp2_with fail
        refine (Isa.decode_any _ _ _).mono ?_
        rintro e w6 ⟨rfl, hb6⟩
        rw [HDE.out]
        have R6 := hid (bal (btr R5.out hb6) (.cells #[.int .i64 qo, .int .i64 qa, .int .i64 qb, .int .i64 qi] 34))
        have x6 := cells_new w6 #[.int .i64 qo, .int .i64 qa, .int .i64 qb, .int .i64 qi] 34
        clear hb6
        obtain ⟨d0, d1, d2, d3⟩ := HZK.out _ (IR.out.below R6.out)
        obtain ⟨m0, m1, m2, m3⟩ := HJK.out _ (JR.out.below R6.out)
        go_wp2_with fail
        go_quiet (fail)
        go_wp2_with fail
        exact ⟨⟨k + 1, by omega, by go_num, below_drewN (HB.out.trans (R6.out.mono HB.out.size)) nq⟩, by simp [intOf]; omega⟩
      · obtain rfl : k = zs.length := by omega
        have hge : ¬ ((zs.length : Int) < (zs.length : Int)) := by omega
        go_wp2_with fail
        go_ret
        exact ⟨rfl, B3.out.trans (HB.out.mono B3.out.size)⟩
end Go.Proofs.YtfpkbfhaipgibaaDoor.Made
