/- keyholdref.CodeFrom, walked: sixteen instructions that may be. -/
import Derived.Test.YtfpkbfhaipgibaaDoorMadeWalk
import Derived.Test.YtfpkbfhaipgibaaDoorPrsParse
namespace Go.Proofs.YtfpkbfhaipgibaaDoor.Made
open Go.RowKit Go.Proofs.YtfpkbfhaipgibaaDoor.Mem Go.Proofs.YtfpkbfhaipgibaaDoor.Hex Go.Proofs.YtfpkbfhaipgibaaDoor.Txt Go.Proofs.YtfpkbfhaipgibaaDoor.Prs

/-- An instruction that may be, with a small number. -/
def GoodQ (q : Int × Int × Int × Int) : Prop := IP.may q.1 q.2.1 q.2.2.1 q.2.2.2 = 0 ∧ 0 ≤ q.2.2.2 ∧ q.2.2.2 ≤ 49
theorem good_of {o a b i : Int} (ho : 0 ≤ o ∧ o ≤ 14) (ha : 0 ≤ a ∧ a ≤ 7) (hb : 0 ≤ b ∧ b ≤ 7) (hi : 0 ≤ i ∧ i ≤ 49) (na : IP.hA o = false → a = 0) (nb : IP.hB o = false → b = 0) (nc : IP.hC o = false → i = 0) : GoodQ (o, a, b, i) :=
  show IP.may o a b i = 0 ∧ 0 ≤ i ∧ i ≤ 49 from ⟨IP.may_ok ho.1 ho.2 ((IP.fitB_iff _ _ _ _).2 ⟨fun _ => ha, na⟩) ((IP.fitB_iff _ _ _ _).2 ⟨fun _ => hb, nb⟩) ((IP.fitB_iff _ _ _ _).2 ⟨fun _ => by omega, nc⟩), hi.1, hi.2⟩
theorem good_snoc {l : List (Int × Int × Int × Int)} {q : Int × Int × Int × Int} (h : ∀ x ∈ l, GoodQ x) (hq : GoodQ q) : ∀ x ∈ l ++ [q], GoodQ x := by
  intro x hx
  rcases List.mem_append.1 hx with hx | hx
  · exact h x hx
  · simp at hx; subst hx; exact hq
theorem pick_eq (c n : Int) (w : World) (h0 : -9223372036854775808 ≤ c) (h1 : c ≤ 9223372036854775807) (hn : 0 < n) :
    Calls Tryd.prog 28 #[.int .i64 c, .int .i64 n] w fun e w' => e = .returned (.int .i64 (pickV c n)) ∧ w = w' := (pick_any c n w h0 h1 hn).mono fun _ _ h => ⟨h.1, h.2.symm⟩
set_option maxRecDepth 100000 in
set_option maxHeartbeats 8000000 in
theorem codeFrom_any (v : Value) (a : Nat) (w : World) (hv : RawAt w v) (ha : a < 100) :
    Calls Tryd.prog 32 #[v, .int .i64 a, .int .i64 18] w fun e w' => ∃ b cap zs, e = .returned (.slice (some ⟨b, 0, none⟩) zs.length cap) ∧ zs.length = 16 ∧ (∀ q ∈ zs, GoodQ q) ∧ InsAt w' b 0 zs ∧ Below w.heap.size w w' := by
  obtain ⟨i0, hi, hz0, hz1, hz2⟩ := info_parts infoIns
  have HVV := hid hv
  clear hv
  go_enter Tryd.func32, Tryd.ntmps32
  go_wp2_with fail
  go_loopw [7, 8] (fun u i wr => ∃ (k : Nat) (l : List (Int × Int × Int × Int)), k ≤ 15 ∧ i = .int .i64 k ∧ l.length = k ∧ (∀ q ∈ l, GoodQ q) ∧ wr.ownsRow w.heap.size 34 4 u l.length (cells4 l) ∧ Below w.heap.size w wr) (fun _ i _ => 15 - (intOf i).toNat)
  case atStart => exact ⟨0, [], by omega, rfl, rfl, fun q h => by simp at h, World.ownsRow_nil _ _ _ _, Below.refl _ _⟩
  case round =>
    obtain ⟨k, l, hk, rfl, hll, hg, hO, hB⟩ := hrel
    have HG := hid hg
    have HO := hid hO
    have HB := hid hB
    have HLL := hid hll
    have hl15 : l.length ≤ 15 := by omega
    clear hg hO hB hll
    by_cases hlt : k < 15
    · have hlt2 : (k : Int) < 15 := by omega
      have HRW := hid (show Calls Tryd.prog 27 #[v, .int .i64 ((a : Int) + (k : Int))] wr fun e w' => ∃ r : Int, e = .returned (.int .i64 r) ∧ 0 ≤ r ∧ r < 3000000 ∧ Below wr.heap.size wr w' by
        have := raw_any v (a + k) wr (HVV.out.below HB.out) (by omega)
        rw [Int.natCast_add] at this
        exact this)
      go_wp2_with fail
      refine HRW.out.mono ?_
      rintro e w3 ⟨c, rfl, hc0, hc1, hb3⟩
      have O3 := hid (Bld.own_below HO.out hb3)
      have B3 := hid (btr HB.out hb3)
      clear hb3 HRW
      go_wp2_with fail
      refine (pick_eq _ _ _ (by omega) (by omega) (by decide)).mono ?_
      rintro e w' ⟨rfl, rfl⟩
      obtain ⟨hk0, hk1⟩ := pickV_bound (c / 16) 32 (by decide)
      generalize pickV (c / 16) 32 = kk at *
      go_wp2_with fail
      refine (pick_eq _ _ _ (by omega) (by omega) (by decide)).mono ?_
      rintro e w' ⟨rfl, rfl⟩
      obtain ⟨hs0, hs1⟩ := pickV_bound c 16 (by decide)
      generalize pickV c 16 = sw at *
      have hsw : sw = 0 ∨ sw = 1 ∨ sw = 2 ∨ sw = 3 ∨ sw = 4 ∨ sw = 5 ∨ sw = 6 ∨ sw = 7 ∨ sw = 8 ∨ sw = 9 ∨ sw = 10 ∨ sw = 11 ∨ sw = 12 ∨ sw = 13 ∨ sw = 14 ∨ sw = 15 := by omega
      rcases hsw with rfl | rfl | rfl | rfl | rfl | rfl | rfl | rfl | rfl | rfl | rfl | rfl | rfl | rfl | rfl | rfl
      · go_wp2_with (at_builtin; refine wpList_append_own _ rfl _ _ 22 rfl w.heap.size 34 i0 (.agg #[.int .i64 0, .int .i64 0, .int .i64 0, .int .i64 0]) 4 32 Tryd.underlying22 hi hz0 hz1 hz2 rfl (by decide) _ _ _ rfl (O3.out.alloc _) ⟨w3.heap.size, 0, none⟩ 1 1 [.int .i64 1, .int .i64 1, .int .i64 0, .int .i64 kk] rfl rfl ?c1 (four_cell _ _ _ _) ?c3 ?c4 ?c5 ?_)
        case c1 => exact four_new _ _ _ _ _ _
        case c3 => unfold maxLen; omega
        case c4 => omega
        case c5 => have := B3.out.size; simp; omega
        intro v' w5 hown' hgrow _
        have B5 := hid ((bal B3.out _).grown hgrow (by have := B3.out.size; simp; omega) (fun k hk => (O3.out.lt k hk).1))
        have O5 := hid hown'
        clear hown' hgrow
        go_wp2_with fail
        refine ⟨⟨k + 1, l ++ [(1, 1, 0, kk)], by omega, by go_num, by rw [List.length_append, HLL.out]; rfl, good_snoc HG.out (good_of (by omega) (by omega) (by omega) (by omega) (fun h => absurd h (by decide)) (fun _ => rfl) (fun h => absurd h (by decide))), ?_, B5.out⟩, by simp [intOf]; omega⟩
        rw [cells4_snoc, List.length_append]
        exact O5.out
      · go_wp2_with (at_builtin; refine wpList_append_own _ rfl _ _ 22 rfl w.heap.size 34 i0 (.agg #[.int .i64 0, .int .i64 0, .int .i64 0, .int .i64 0]) 4 32 Tryd.underlying22 hi hz0 hz1 hz2 rfl (by decide) _ _ _ rfl (O3.out.alloc _) ⟨w3.heap.size, 0, none⟩ 1 1 [.int .i64 1, .int .i64 1, .int .i64 0, .int .i64 kk] rfl rfl ?c1 (four_cell _ _ _ _) ?c3 ?c4 ?c5 ?_)
        case c1 => exact four_new _ _ _ _ _ _
        case c3 => unfold maxLen; omega
        case c4 => omega
        case c5 => have := B3.out.size; simp; omega
        intro v' w5 hown' hgrow _
        have B5 := hid ((bal B3.out _).grown hgrow (by have := B3.out.size; simp; omega) (fun k hk => (O3.out.lt k hk).1))
        have O5 := hid hown'
        clear hown' hgrow
        go_wp2_with fail
        refine ⟨⟨k + 1, l ++ [(1, 1, 0, kk)], by omega, by go_num, by rw [List.length_append, HLL.out]; rfl, good_snoc HG.out (good_of (by omega) (by omega) (by omega) (by omega) (fun h => absurd h (by decide)) (fun _ => rfl) (fun h => absurd h (by decide))), ?_, B5.out⟩, by simp [intOf]; omega⟩
        rw [cells4_snoc, List.length_append]
        exact O5.out
      · go_wp2_with (at_builtin; refine wpList_append_own _ rfl _ _ 22 rfl w.heap.size 34 i0 (.agg #[.int .i64 0, .int .i64 0, .int .i64 0, .int .i64 0]) 4 32 Tryd.underlying22 hi hz0 hz1 hz2 rfl (by decide) _ _ _ rfl (O3.out.alloc _) ⟨w3.heap.size, 0, none⟩ 1 1 [.int .i64 1, .int .i64 1, .int .i64 0, .int .i64 kk] rfl rfl ?c1 (four_cell _ _ _ _) ?c3 ?c4 ?c5 ?_)
        case c1 => exact four_new _ _ _ _ _ _
        case c3 => unfold maxLen; omega
        case c4 => omega
        case c5 => have := B3.out.size; simp; omega
        intro v' w5 hown' hgrow _
        have B5 := hid ((bal B3.out _).grown hgrow (by have := B3.out.size; simp; omega) (fun k hk => (O3.out.lt k hk).1))
        have O5 := hid hown'
        clear hown' hgrow
        go_wp2_with fail
        refine ⟨⟨k + 1, l ++ [(1, 1, 0, kk)], by omega, by go_num, by rw [List.length_append, HLL.out]; rfl, good_snoc HG.out (good_of (by omega) (by omega) (by omega) (by omega) (fun h => absurd h (by decide)) (fun _ => rfl) (fun h => absurd h (by decide))), ?_, B5.out⟩, by simp [intOf]; omega⟩
        rw [cells4_snoc, List.length_append]
        exact O5.out
      · go_wp2_with (at_builtin; refine wpList_append_own _ rfl _ _ 22 rfl w.heap.size 34 i0 (.agg #[.int .i64 0, .int .i64 0, .int .i64 0, .int .i64 0]) 4 32 Tryd.underlying22 hi hz0 hz1 hz2 rfl (by decide) _ _ _ rfl (O3.out.alloc _) ⟨w3.heap.size, 0, none⟩ 1 1 [.int .i64 1, .int .i64 2, .int .i64 0, .int .i64 kk] rfl rfl ?c1 (four_cell _ _ _ _) ?c3 ?c4 ?c5 ?_)
        case c1 => exact four_new _ _ _ _ _ _
        case c3 => unfold maxLen; omega
        case c4 => omega
        case c5 => have := B3.out.size; simp; omega
        intro v' w5 hown' hgrow _
        have B5 := hid ((bal B3.out _).grown hgrow (by have := B3.out.size; simp; omega) (fun k hk => (O3.out.lt k hk).1))
        have O5 := hid hown'
        clear hown' hgrow
        go_wp2_with fail
        refine ⟨⟨k + 1, l ++ [(1, 2, 0, kk)], by omega, by go_num, by rw [List.length_append, HLL.out]; rfl, good_snoc HG.out (good_of (by omega) (by omega) (by omega) (by omega) (fun h => absurd h (by decide)) (fun _ => rfl) (fun h => absurd h (by decide))), ?_, B5.out⟩, by simp [intOf]; omega⟩
        rw [cells4_snoc, List.length_append]
        exact O5.out
      · go_wp2_with (at_builtin; refine wpList_append_own _ rfl _ _ 22 rfl w.heap.size 34 i0 (.agg #[.int .i64 0, .int .i64 0, .int .i64 0, .int .i64 0]) 4 32 Tryd.underlying22 hi hz0 hz1 hz2 rfl (by decide) _ _ _ rfl (O3.out.alloc _) ⟨w3.heap.size, 0, none⟩ 1 1 [.int .i64 1, .int .i64 2, .int .i64 0, .int .i64 kk] rfl rfl ?c1 (four_cell _ _ _ _) ?c3 ?c4 ?c5 ?_)
        case c1 => exact four_new _ _ _ _ _ _
        case c3 => unfold maxLen; omega
        case c4 => omega
        case c5 => have := B3.out.size; simp; omega
        intro v' w5 hown' hgrow _
        have B5 := hid ((bal B3.out _).grown hgrow (by have := B3.out.size; simp; omega) (fun k hk => (O3.out.lt k hk).1))
        have O5 := hid hown'
        clear hown' hgrow
        go_wp2_with fail
        refine ⟨⟨k + 1, l ++ [(1, 2, 0, kk)], by omega, by go_num, by rw [List.length_append, HLL.out]; rfl, good_snoc HG.out (good_of (by omega) (by omega) (by omega) (by omega) (fun h => absurd h (by decide)) (fun _ => rfl) (fun h => absurd h (by decide))), ?_, B5.out⟩, by simp [intOf]; omega⟩
        rw [cells4_snoc, List.length_append]
        exact O5.out
      · go_wp2_with fail
        refine (pick_eq _ _ _ (by omega) (by omega) (by decide)).mono ?_
        rintro e w' ⟨rfl, rfl⟩
        obtain ⟨hr0, hr1⟩ := pickV_bound kk 9 (by decide)
        generalize pickV kk 9 = r at *
        go_wp2_with (at_builtin; refine wpList_append_own _ rfl _ _ 22 rfl w.heap.size 34 i0 (.agg #[.int .i64 0, .int .i64 0, .int .i64 0, .int .i64 0]) 4 32 Tryd.underlying22 hi hz0 hz1 hz2 rfl (by decide) _ _ _ rfl (O3.out.alloc _) ⟨w3.heap.size, 0, none⟩ 1 1 [.int .i64 1, .int .i64 3, .int .i64 0, .int .i64 r] rfl rfl ?c1 (four_cell _ _ _ _) ?c3 ?c4 ?c5 ?_)
        case c1 => exact four_new _ _ _ _ _ _
        case c3 => unfold maxLen; omega
        case c4 => omega
        case c5 => have := B3.out.size; simp; omega
        intro v' w5 hown' hgrow _
        have B5 := hid ((bal B3.out _).grown hgrow (by have := B3.out.size; simp; omega) (fun k hk => (O3.out.lt k hk).1))
        have O5 := hid hown'
        clear hown' hgrow
        go_wp2_with fail
        refine ⟨⟨k + 1, l ++ [(1, 3, 0, r)], by omega, by go_num, by rw [List.length_append, HLL.out]; rfl, good_snoc HG.out (good_of (by omega) (by omega) (by omega) (by omega) (fun h => absurd h (by decide)) (fun _ => rfl) (fun h => absurd h (by decide))), ?_, B5.out⟩, by simp [intOf]; omega⟩
        rw [cells4_snoc, List.length_append]
        exact O5.out
      · go_wp2_with fail
        refine (pick_eq _ _ _ (by omega) (by omega) (by decide)).mono ?_
        rintro e w' ⟨rfl, rfl⟩
        obtain ⟨hr0, hr1⟩ := pickV_bound kk 4 (by decide)
        generalize pickV kk 4 = r at *
        go_wp2_with (at_builtin; refine wpList_append_own _ rfl _ _ 22 rfl w.heap.size 34 i0 (.agg #[.int .i64 0, .int .i64 0, .int .i64 0, .int .i64 0]) 4 32 Tryd.underlying22 hi hz0 hz1 hz2 rfl (by decide) _ _ _ rfl (O3.out.alloc _) ⟨w3.heap.size, 0, none⟩ 1 1 [.int .i64 1, .int .i64 4, .int .i64 0, .int .i64 r] rfl rfl ?c1 (four_cell _ _ _ _) ?c3 ?c4 ?c5 ?_)
        case c1 => exact four_new _ _ _ _ _ _
        case c3 => unfold maxLen; omega
        case c4 => omega
        case c5 => have := B3.out.size; simp; omega
        intro v' w5 hown' hgrow _
        have B5 := hid ((bal B3.out _).grown hgrow (by have := B3.out.size; simp; omega) (fun k hk => (O3.out.lt k hk).1))
        have O5 := hid hown'
        clear hown' hgrow
        go_wp2_with fail
        refine ⟨⟨k + 1, l ++ [(1, 4, 0, r)], by omega, by go_num, by rw [List.length_append, HLL.out]; rfl, good_snoc HG.out (good_of (by omega) (by omega) (by omega) (by omega) (fun h => absurd h (by decide)) (fun _ => rfl) (fun h => absurd h (by decide))), ?_, B5.out⟩, by simp [intOf]; omega⟩
        rw [cells4_snoc, List.length_append]
        exact O5.out
      · go_wp2_with fail
        refine (pick_eq _ _ _ (by omega) (by omega) (by decide)).mono ?_
        rintro e w' ⟨rfl, rfl⟩
        obtain ⟨hr0, hr1⟩ := pickV_bound kk 18 (by decide)
        generalize pickV kk 18 = r at *
        go_wp2_with (at_builtin; refine wpList_append_own _ rfl _ _ 22 rfl w.heap.size 34 i0 (.agg #[.int .i64 0, .int .i64 0, .int .i64 0, .int .i64 0]) 4 32 Tryd.underlying22 hi hz0 hz1 hz2 rfl (by decide) _ _ _ rfl (O3.out.alloc _) ⟨w3.heap.size, 0, none⟩ 1 1 [.int .i64 11, .int .i64 2, .int .i64 7, .int .i64 (32 + r)] rfl rfl ?c1 (four_cell _ _ _ _) ?c3 ?c4 ?c5 ?_)
        case c1 => exact four_new _ _ _ _ _ _
        case c3 => unfold maxLen; omega
        case c4 => omega
        case c5 => have := B3.out.size; simp; omega
        intro v' w5 hown' hgrow _
        have B5 := hid ((bal B3.out _).grown hgrow (by have := B3.out.size; simp; omega) (fun k hk => (O3.out.lt k hk).1))
        have O5 := hid hown'
        clear hown' hgrow
        go_wp2_with fail
        refine ⟨⟨k + 1, l ++ [(11, 2, 7, (32 + r))], by omega, by go_num, by rw [List.length_append, HLL.out]; rfl, good_snoc HG.out (good_of (by omega) (by omega) (by omega) (by omega) (fun h => absurd h (by decide)) (fun h => absurd h (by decide)) (fun h => absurd h (by decide))), ?_, B5.out⟩, by simp [intOf]; omega⟩
        rw [cells4_snoc, List.length_append]
        exact O5.out
      · go_wp2_with fail
        refine (pick_eq _ _ _ (by omega) (by omega) (by decide)).mono ?_
        rintro e w' ⟨rfl, rfl⟩
        obtain ⟨hr0, hr1⟩ := pickV_bound kk 20 (by decide)
        generalize pickV kk 20 = r at *
        go_wp2_with (at_builtin; refine wpList_append_own _ rfl _ _ 22 rfl w.heap.size 34 i0 (.agg #[.int .i64 0, .int .i64 0, .int .i64 0, .int .i64 0]) 4 32 Tryd.underlying22 hi hz0 hz1 hz2 rfl (by decide) _ _ _ rfl (O3.out.alloc _) ⟨w3.heap.size, 0, none⟩ 1 1 [.int .i64 10, .int .i64 5, .int .i64 7, .int .i64 (30 + r)] rfl rfl ?c1 (four_cell _ _ _ _) ?c3 ?c4 ?c5 ?_)
        case c1 => exact four_new _ _ _ _ _ _
        case c3 => unfold maxLen; omega
        case c4 => omega
        case c5 => have := B3.out.size; simp; omega
        intro v' w5 hown' hgrow _
        have B5 := hid ((bal B3.out _).grown hgrow (by have := B3.out.size; simp; omega) (fun k hk => (O3.out.lt k hk).1))
        have O5 := hid hown'
        clear hown' hgrow
        go_wp2_with fail
        refine ⟨⟨k + 1, l ++ [(10, 5, 7, (30 + r))], by omega, by go_num, by rw [List.length_append, HLL.out]; rfl, good_snoc HG.out (good_of (by omega) (by omega) (by omega) (by omega) (fun h => absurd h (by decide)) (fun h => absurd h (by decide)) (fun h => absurd h (by decide))), ?_, B5.out⟩, by simp [intOf]; omega⟩
        rw [cells4_snoc, List.length_append]
        exact O5.out
      · go_wp2_with fail
        refine (pick_eq _ _ _ (by omega) (by omega) (by decide)).mono ?_
        rintro e w' ⟨rfl, rfl⟩
        obtain ⟨hr0, hr1⟩ := pickV_bound kk 7 (by decide)
        generalize pickV kk 7 = r at *
        go_wp2_with (at_builtin; refine wpList_append_own _ rfl _ _ 22 rfl w.heap.size 34 i0 (.agg #[.int .i64 0, .int .i64 0, .int .i64 0, .int .i64 0]) 4 32 Tryd.underlying22 hi hz0 hz1 hz2 rfl (by decide) _ _ _ rfl (O3.out.alloc _) ⟨w3.heap.size, 0, none⟩ 1 1 [.int .i64 (3 + r), .int .i64 5, .int .i64 2, .int .i64 0] rfl rfl ?c1 (four_cell _ _ _ _) ?c3 ?c4 ?c5 ?_)
        case c1 => exact four_new _ _ _ _ _ _
        case c3 => unfold maxLen; omega
        case c4 => omega
        case c5 => have := B3.out.size; simp; omega
        intro v' w5 hown' hgrow _
        have B5 := hid ((bal B3.out _).grown hgrow (by have := B3.out.size; simp; omega) (fun k hk => (O3.out.lt k hk).1))
        have O5 := hid hown'
        clear hown' hgrow
        go_wp2_with fail
        refine ⟨⟨k + 1, l ++ [((3 + r), 5, 2, 0)], by omega, by go_num, by rw [List.length_append, HLL.out]; rfl, good_snoc HG.out (good_of (by omega) (by omega) (by omega) (by omega) (fun h => by simp [IP.hA] at h; omega) (fun h => by simp [IP.hB] at h; omega) (fun _ => rfl)), ?_, B5.out⟩, by simp [intOf]; omega⟩
        rw [cells4_snoc, List.length_append]
        exact O5.out
      · go_wp2_with fail
        refine (pick_eq _ _ _ (by omega) (by omega) (by decide)).mono ?_
        rintro e w' ⟨rfl, rfl⟩
        obtain ⟨hr0, hr1⟩ := pickV_bound kk 15 (by decide)
        generalize pickV kk 15 = r at *
        go_wp2_with (at_builtin; refine wpList_append_own _ rfl _ _ 22 rfl w.heap.size 34 i0 (.agg #[.int .i64 0, .int .i64 0, .int .i64 0, .int .i64 0]) 4 32 Tryd.underlying22 hi hz0 hz1 hz2 rfl (by decide) _ _ _ rfl (O3.out.alloc _) ⟨w3.heap.size, 0, none⟩ 1 1 [.int .i64 13, .int .i64 0, .int .i64 0, .int .i64 (2 * r)] rfl rfl ?c1 (four_cell _ _ _ _) ?c3 ?c4 ?c5 ?_)
        case c1 => exact four_new _ _ _ _ _ _
        case c3 => unfold maxLen; omega
        case c4 => omega
        case c5 => have := B3.out.size; simp; omega
        intro v' w5 hown' hgrow _
        have B5 := hid ((bal B3.out _).grown hgrow (by have := B3.out.size; simp; omega) (fun k hk => (O3.out.lt k hk).1))
        have O5 := hid hown'
        clear hown' hgrow
        go_wp2_with fail
        refine ⟨⟨k + 1, l ++ [(13, 0, 0, (2 * r))], by omega, by go_num, by rw [List.length_append, HLL.out]; rfl, good_snoc HG.out (good_of (by omega) (by omega) (by omega) (by omega) (fun _ => rfl) (fun _ => rfl) (fun h => absurd h (by decide))), ?_, B5.out⟩, by simp [intOf]; omega⟩
        rw [cells4_snoc, List.length_append]
        exact O5.out
      · go_wp2_with fail
        refine (pick_eq _ _ _ (by omega) (by omega) (by decide)).mono ?_
        rintro e w' ⟨rfl, rfl⟩
        obtain ⟨hr0, hr1⟩ := pickV_bound kk 18 (by decide)
        generalize pickV kk 18 = r at *
        go_wp2_with (at_builtin; refine wpList_append_own _ rfl _ _ 22 rfl w.heap.size 34 i0 (.agg #[.int .i64 0, .int .i64 0, .int .i64 0, .int .i64 0]) 4 32 Tryd.underlying22 hi hz0 hz1 hz2 rfl (by decide) _ _ _ rfl (O3.out.alloc _) ⟨w3.heap.size, 0, none⟩ 1 1 [.int .i64 14, .int .i64 0, .int .i64 0, .int .i64 r] rfl rfl ?c1 (four_cell _ _ _ _) ?c3 ?c4 ?c5 ?_)
        case c1 => exact four_new _ _ _ _ _ _
        case c3 => unfold maxLen; omega
        case c4 => omega
        case c5 => have := B3.out.size; simp; omega
        intro v' w5 hown' hgrow _
        have B5 := hid ((bal B3.out _).grown hgrow (by have := B3.out.size; simp; omega) (fun k hk => (O3.out.lt k hk).1))
        have O5 := hid hown'
        clear hown' hgrow
        go_wp2_with fail
        refine ⟨⟨k + 1, l ++ [(14, 0, 0, r)], by omega, by go_num, by rw [List.length_append, HLL.out]; rfl, good_snoc HG.out (good_of (by omega) (by omega) (by omega) (by omega) (fun _ => rfl) (fun _ => rfl) (fun h => absurd h (by decide))), ?_, B5.out⟩, by simp [intOf]; omega⟩
        rw [cells4_snoc, List.length_append]
        exact O5.out
      · go_wp2_with fail
        refine (pick_eq _ _ _ (by omega) (by omega) (by decide)).mono ?_
        rintro e w' ⟨rfl, rfl⟩
        obtain ⟨hr0, hr1⟩ := pickV_bound kk 18 (by decide)
        generalize pickV kk 18 = r at *
        go_wp2_with (at_builtin; refine wpList_append_own _ rfl _ _ 22 rfl w.heap.size 34 i0 (.agg #[.int .i64 0, .int .i64 0, .int .i64 0, .int .i64 0]) 4 32 Tryd.underlying22 hi hz0 hz1 hz2 rfl (by decide) _ _ _ rfl (O3.out.alloc _) ⟨w3.heap.size, 0, none⟩ 1 1 [.int .i64 14, .int .i64 0, .int .i64 0, .int .i64 r] rfl rfl ?c1 (four_cell _ _ _ _) ?c3 ?c4 ?c5 ?_)
        case c1 => exact four_new _ _ _ _ _ _
        case c3 => unfold maxLen; omega
        case c4 => omega
        case c5 => have := B3.out.size; simp; omega
        intro v' w5 hown' hgrow _
        have B5 := hid ((bal B3.out _).grown hgrow (by have := B3.out.size; simp; omega) (fun k hk => (O3.out.lt k hk).1))
        have O5 := hid hown'
        clear hown' hgrow
        go_wp2_with fail
        refine ⟨⟨k + 1, l ++ [(14, 0, 0, r)], by omega, by go_num, by rw [List.length_append, HLL.out]; rfl, good_snoc HG.out (good_of (by omega) (by omega) (by omega) (by omega) (fun _ => rfl) (fun _ => rfl) (fun h => absurd h (by decide))), ?_, B5.out⟩, by simp [intOf]; omega⟩
        rw [cells4_snoc, List.length_append]
        exact O5.out
      · go_wp2_with fail
        refine (pick_eq _ _ _ (by omega) (by omega) (by decide)).mono ?_
        rintro e w' ⟨rfl, rfl⟩
        obtain ⟨hr0, hr1⟩ := pickV_bound kk 18 (by decide)
        generalize pickV kk 18 = r at *
        go_wp2_with (at_builtin; refine wpList_append_own _ rfl _ _ 22 rfl w.heap.size 34 i0 (.agg #[.int .i64 0, .int .i64 0, .int .i64 0, .int .i64 0]) 4 32 Tryd.underlying22 hi hz0 hz1 hz2 rfl (by decide) _ _ _ rfl (O3.out.alloc _) ⟨w3.heap.size, 0, none⟩ 1 1 [.int .i64 14, .int .i64 0, .int .i64 0, .int .i64 r] rfl rfl ?c1 (four_cell _ _ _ _) ?c3 ?c4 ?c5 ?_)
        case c1 => exact four_new _ _ _ _ _ _
        case c3 => unfold maxLen; omega
        case c4 => omega
        case c5 => have := B3.out.size; simp; omega
        intro v' w5 hown' hgrow _
        have B5 := hid ((bal B3.out _).grown hgrow (by have := B3.out.size; simp; omega) (fun k hk => (O3.out.lt k hk).1))
        have O5 := hid hown'
        clear hown' hgrow
        go_wp2_with fail
        refine ⟨⟨k + 1, l ++ [(14, 0, 0, r)], by omega, by go_num, by rw [List.length_append, HLL.out]; rfl, good_snoc HG.out (good_of (by omega) (by omega) (by omega) (by omega) (fun _ => rfl) (fun _ => rfl) (fun h => absurd h (by decide))), ?_, B5.out⟩, by simp [intOf]; omega⟩
        rw [cells4_snoc, List.length_append]
        exact O5.out
      · go_wp2_with fail
        refine (pick_eq _ _ _ (by omega) (by omega) (by decide)).mono ?_
        rintro e w' ⟨rfl, rfl⟩
        obtain ⟨hr0, hr1⟩ := pickV_bound kk 18 (by decide)
        generalize pickV kk 18 = r at *
        go_wp2_with (at_builtin; refine wpList_append_own _ rfl _ _ 22 rfl w.heap.size 34 i0 (.agg #[.int .i64 0, .int .i64 0, .int .i64 0, .int .i64 0]) 4 32 Tryd.underlying22 hi hz0 hz1 hz2 rfl (by decide) _ _ _ rfl (O3.out.alloc _) ⟨w3.heap.size, 0, none⟩ 1 1 [.int .i64 14, .int .i64 0, .int .i64 0, .int .i64 r] rfl rfl ?c1 (four_cell _ _ _ _) ?c3 ?c4 ?c5 ?_)
        case c1 => exact four_new _ _ _ _ _ _
        case c3 => unfold maxLen; omega
        case c4 => omega
        case c5 => have := B3.out.size; simp; omega
        intro v' w5 hown' hgrow _
        have B5 := hid ((bal B3.out _).grown hgrow (by have := B3.out.size; simp; omega) (fun k hk => (O3.out.lt k hk).1))
        have O5 := hid hown'
        clear hown' hgrow
        go_wp2_with fail
        refine ⟨⟨k + 1, l ++ [(14, 0, 0, r)], by omega, by go_num, by rw [List.length_append, HLL.out]; rfl, good_snoc HG.out (good_of (by omega) (by omega) (by omega) (by omega) (fun _ => rfl) (fun _ => rfl) (fun h => absurd h (by decide))), ?_, B5.out⟩, by simp [intOf]; omega⟩
        rw [cells4_snoc, List.length_append]
        exact O5.out
      · go_wp2_with fail
        refine (pick_eq _ _ _ (by omega) (by omega) (by decide)).mono ?_
        rintro e w' ⟨rfl, rfl⟩
        obtain ⟨hr0, hr1⟩ := pickV_bound kk 18 (by decide)
        generalize pickV kk 18 = r at *
        go_wp2_with (at_builtin; refine wpList_append_own _ rfl _ _ 22 rfl w.heap.size 34 i0 (.agg #[.int .i64 0, .int .i64 0, .int .i64 0, .int .i64 0]) 4 32 Tryd.underlying22 hi hz0 hz1 hz2 rfl (by decide) _ _ _ rfl (O3.out.alloc _) ⟨w3.heap.size, 0, none⟩ 1 1 [.int .i64 14, .int .i64 0, .int .i64 0, .int .i64 r] rfl rfl ?c1 (four_cell _ _ _ _) ?c3 ?c4 ?c5 ?_)
        case c1 => exact four_new _ _ _ _ _ _
        case c3 => unfold maxLen; omega
        case c4 => omega
        case c5 => have := B3.out.size; simp; omega
        intro v' w5 hown' hgrow _
        have B5 := hid ((bal B3.out _).grown hgrow (by have := B3.out.size; simp; omega) (fun k hk => (O3.out.lt k hk).1))
        have O5 := hid hown'
        clear hown' hgrow
        go_wp2_with fail
        refine ⟨⟨k + 1, l ++ [(14, 0, 0, r)], by omega, by go_num, by rw [List.length_append, HLL.out]; rfl, good_snoc HG.out (good_of (by omega) (by omega) (by omega) (by omega) (fun _ => rfl) (fun _ => rfl) (fun h => absurd h (by decide))), ?_, B5.out⟩, by simp [intOf]; omega⟩
        rw [cells4_snoc, List.length_append]
        exact O5.out
    · obtain rfl : k = 15 := by omega
      go_wp2_with (at_builtin; refine wpList_append_own _ rfl _ _ 22 rfl w.heap.size 34 i0 (.agg #[.int .i64 0, .int .i64 0, .int .i64 0, .int .i64 0]) 4 32 Tryd.underlying22 hi hz0 hz1 hz2 rfl (by decide) _ _ _ rfl (HO.out.alloc _) ⟨wr.heap.size, 0, none⟩ 1 1 [.int .i64 12, .int .i64 0, .int .i64 0, .int .i64 0] rfl rfl ?c1 (four_cell _ _ _ _) ?c3 ?c4 ?c5 ?_)
      case c1 => exact four_new _ _ _ _ _ _
      case c3 => unfold maxLen; omega
      case c4 => omega
      case c5 => have := HB.out.size; simp; omega
      intro v' w5 hown' hgrow _
      have B5 := hid ((bal HB.out _).grown hgrow (by have := HB.out.size; simp; omega) (fun k hk => (HO.out.lt k hk).1))
      have O5 : w5.ownsRow w.heap.size 34 4 v' (l ++ [(12, 0, 0, 0)]).length (cells4 (l ++ [(12, 0, 0, 0)])) := by
        rw [cells4_snoc, List.length_append]
        exact hown'
      obtain ⟨⟨p, cap, hv1, _, hv2⟩, _⟩ := own_rows O5 (by rw [List.length_append]; simp; omega)
      obtain ⟨b, rfl, hI⟩ := hv2 (by simp)
      subst hv1
      have HI := hid hI
      clear hown' hgrow O5 hI hv2
      go_wp2_with fail
      go_ret
      exact ⟨b, cap, l ++ [(12, 0, 0, 0)], rfl, by rw [List.length_append, HLL.out]; rfl, good_snoc HG.out (good_of (by omega) (by omega) (by omega) (by omega) (fun _ => rfl) (fun _ => rfl) (fun _ => rfl)), HI.out, B5.out⟩
end Go.Proofs.YtfpkbfhaipgibaaDoor.Made
