/- Instructions out of raw numbers: keyholdref.Pick, Raw, CodeFrom (taken over from the texts of stage 1), CodeOf; walked. -/
import Derived.Test.YtakmaeohhclngaaGreatDoorQaj
import Derived.Test.YtakmaeohhclngaaGreatDoorQac
namespace Go.Proofs.YtakmaeohhclngaaGreatDoor.Nums
open Go.RowKit Go.Proofs.YtakmaeohhclngaaGreatDoor.Mem
-- from Ints.tpl
def pickV (c n : Int) : Int := if c < 0 then (-(c + 1)).tmod n else c.tmod n
theorem pickV_bound (c n : Int) (hn : 0 < n) : 0 ≤ pickV c n ∧ pickV c n < n := by
 unfold pickV
 split
 ·have : 0 ≤ -(c + 1) := by omega
  rw [Int.tmod_eq_emod_of_nonneg this]
  exact ⟨Int.emod_nonneg _ (by omega), Int.emod_lt_of_pos _ hn⟩
 ·have : 0 ≤ c := by omega
  rw [Int.tmod_eq_emod_of_nonneg this]
  exact ⟨Int.emod_nonneg _ (by omega), Int.emod_lt_of_pos _ hn⟩
theorem pick_eq (c n : Int) (w : World) (h0 : -9223372036854775808 ≤ c) (h1 : c ≤ 9223372036854775807) (hn : 0 < n) :
  Calls Tryz.prog 6 #[.int .i64 c, .int .i64 n] w fun e w' => e = .returned (.int .i64 (pickV c n)) ∧ w = w' := by
 have hn0 : n ≠ 0 := by omega
 by_cases hc : c < 0
 ·go_enter Tryz.func6, Tryz.ntmps6
  go_wp2_with fail
  go_ret
  refine ⟨ret_int ?_, rfl⟩
  unfold pickV
  rw [if_pos hc, Int.neg_tmod]
 ·go_enter Tryz.func6, Tryz.ntmps6
  go_wp2_with fail
  go_ret
  refine ⟨ret_int ?_, rfl⟩
  unfold pickV
  rw [if_neg (by omega), Int.tmod_eq_emod_of_nonneg (by omega)]
end Go.Proofs.YtakmaeohhclngaaGreatDoor.Nums
namespace Go.Proofs.YtakmaeohhclngaaGreatDoor.Mad
open Go.RowKit Go.Proofs.YtakmaeohhclngaaGreatDoor.Mem Go.Proofs.YtakmaeohhclngaaGreatDoor.Nums Go.Proofs.YtakmaeohhclngaaGreatDoor.Wd
-- from MadeIns.tpl
/-- Instructions in memory, four words each. -/
def InsAt (w : World) (b off : Nat) (zs : List (Int × Int × Int × Int)) : Prop :=
 ∀ j (h : j < zs.length), w.cell? ⟨b, off + j * 4, none⟩ = some (.int .i64 zs[j].1) ∧ w.cell? ⟨b, off + j * 4 + 1, none⟩ = some (.int .i64 zs[j].2.1) ∧ w.cell? ⟨b, off + j * 4 + 2, none⟩ = some (.int .i64 zs[j].2.2.1) ∧ w.cell? ⟨b, off + j * 4 + 3, none⟩ = some (.int .i64 zs[j].2.2.2)
theorem infoIns : (Tryz.prog.info? 89).map (fun i => (i.zero, i.size, i.bytes)) = some (some (.agg #[.int .i64 0, .int .i64 0, .int .i64 0, .int .i64 0]), 4, 32) := by kernel_rfl
def cells4 (l : List (Int × Int × Int × Int)) : List Value := l.flatMap fun q => [.int .i64 q.1, .int .i64 q.2.1, .int .i64 q.2.2.1, .int .i64 q.2.2.2]
theorem cells4_at (l : List (Int × Int × Int × Int)) (j : Nat) (h : j < l.length) : (cells4 l)[j * 4]? = some (.int .i64 l[j].1) ∧ (cells4 l)[j * 4 + 1]? = some (.int .i64 l[j].2.1) ∧ (cells4 l)[j * 4 + 2]? = some (.int .i64 l[j].2.2.1) ∧ (cells4 l)[j * 4 + 3]? = some (.int .i64 l[j].2.2.2) := by
 induction l generalizing j with
 | nil => simp at h
 | cons q l ih =>
  have e : cells4 (q :: l) = .int .i64 q.1 :: .int .i64 q.2.1 :: .int .i64 q.2.2.1 :: .int .i64 q.2.2.2 :: cells4 l := rfl
  rw [e]
  cases j with
  | zero => exact ⟨rfl, rfl, rfl, rfl⟩
  | succ j =>
   have := ih j (by simpa using h)
   have e2 : (j + 1) * 4 = j * 4 + 4 := by omega
   rw [e2]
   exact this
theorem cells4_snoc (l : List (Int × Int × Int × Int)) (q : Int × Int × Int × Int) : cells4 (l ++ [q]) = cells4 l ++ [.int .i64 q.1, .int .i64 q.2.1, .int .i64 q.2.2.1, .int .i64 q.2.2.2] := by
 unfold cells4
 rw [List.flatMap_append]
 rfl
theorem four_new (W : World) (a b c d : Value) (e : TypeId) : ∀ (j : Nat) (x : Value), [a, b, c, d][j]? = some x → (W.alloc (.cells #[a, b, c, d] e)).cell? ((⟨W.heap.size, 0, none⟩ : Addr).add j) = some x := by
 intro j x h
 rw [show (⟨W.heap.size, 0, none⟩ : Addr).add j = ⟨W.heap.size, j, none⟩ from by unfold Addr.add; split <;> simp_all, World.cell?_alloc_at _ _ _ _ rfl]
 rw [← h]
 simp
theorem four_cell (a b c d : Int) : ∀ x ∈ [Value.int .i64 a, .int .i64 b, .int .i64 c, .int .i64 d], x.oneCell' = true := by
 intro x hx
 simp at hx
 rcases hx with rfl | rfl | rfl | rfl <;> rfl
theorem own_ins {w : World} {B : Nat} {v : Value} {l : List (Int × Int × Int × Int)} (h : w.ownsRow B 89 4 v l.length (cells4 l)) (hl : l ≠ []) : ∃ b cap, v = .slice (some ⟨b, 0, none⟩) l.length cap ∧ InsAt w b 0 l ∧ B ≤ b := by
 rcases h.2 with ⟨rfl, h1⟩ | ⟨g, cap, cur, rfl, h1, _⟩
 ·exact absurd (List.length_eq_zero_iff.1 h1) hl
 ·refine ⟨g, cap, rfl, fun j hj => ?_, h1⟩
  obtain ⟨e0, e1, e2, e3⟩ := cells4_at l j hj
  simp only [Nat.zero_add]
  rw [h.cellAt (j * 4) (by omega), h.cellAt (j * 4 + 1) (by omega), h.cellAt (j * 4 + 2) (by omega), h.cellAt (j * 4 + 3) (by omega)]
  exact ⟨e0, e1, e2, e3⟩
set_option maxHeartbeats 1000000 in
theorem raw_any (v : Value) (zs : List Int) (i : Nat) (w : World) (hv : RawIn w v zs) (hl : zs.length ≤ 256) (hi : i ≤ 200) :
  Calls Tryz.prog 48 #[v, .int .i64 i] w fun e w' => ∃ r : Int, e = .returned (.int .i64 r) ∧ 0 ≤ r ∧ r < 3000000 ∧ Below w.heap.size w w' := by
 obtain ⟨q, b, off, cap, rfl, hq, hz, hb⟩ := hv
 cases zs with
 | nil =>
  go_enter Tryz.func48, Tryz.ntmps48
  go_wp2_with fail
  go_ret
  exact ⟨(i : Int) * 31, rfl, by omega, by omega, Below.refl _ _⟩
 | cons z0 zr =>
  have hL : 0 < (z0 :: zr).length := by simp
  generalize z0 :: zr = zs at *
  have hqe := hq hL
  subst hqe
  have hm : i % zs.length < zs.length := Nat.mod_lt _ hL
  have hc := hz (i % zs.length) hm
  have hzb := hb zs[i % zs.length] (List.getElem_mem hm)
  generalize zs[i % zs.length] = z at hc hzb
  obtain ⟨h0, h1⟩ := hzb
  have hLi : (0 : Int) < (zs.length : Int) := by omega
  have hLn : ((zs.length : Int) == 0) = false := beq_eq_false_iff_ne.2 (by omega)
  have hmi : ((i : Int).tmod (zs.length : Int)) = ((i % zs.length : Nat) : Int) := by rw [Int.tmod_eq_emod_of_nonneg (by omega)]; simp
  have hdi : ((i : Int).tdiv (zs.length : Int)) = ((i / zs.length : Nat) : Int) := by rw [Int.tdiv_eq_ediv_of_nonneg (by omega)]; simp
  have hdb : i / zs.length ≤ 200 := Nat.le_trans (Nat.div_le_self _ _) hi
  obtain ⟨hp0, hp1⟩ := pickV_bound z 1000003 (by decide)
  have hm2 : ((i % zs.length : Nat) : Int) < (zs.length : Int) := Int.ofNat_lt.2 hm
  generalize i % zs.length = j at *
  generalize i / zs.length = d at *
  clear hq hz hb
  go_enter Tryz.func48, Tryz.ntmps48
  go_wp2_with fail
  go_quiet (first | (go_at_call 6; refine Calls.quiet_of_same ((pick_eq _ _ _ h0 h1 (by decide)).mono fun _ _ h => ⟨h.1, h.2.symm⟩)))
  go_wp2_with fail
  go_ret
  exact ⟨pickV z 1000003 + (d : Int) * 7919, by first | rfl | (simp; done), by omega, by omega, below_drew _ _⟩
/-- An instruction that may be, with a small number; no halt, no mov, no jump. -/
def GoodQ (q : Int × Int × Int × Int) : Prop := (0 ≤ q.1 ∧ q.1 ≤ 14) ∧ (0 ≤ q.2.1 ∧ q.2.1 ≤ 7) ∧ (0 ≤ q.2.2.1 ∧ q.2.2.1 ≤ 7) ∧ 0 ≤ q.2.2.2 ∧ q.2.2.2 ≤ 49
theorem good_of {o a b i : Int} (ho : 0 ≤ o ∧ o ≤ 14) (ha : 0 ≤ a ∧ a ≤ 7) (hb : 0 ≤ b ∧ b ≤ 7) (hi : 0 ≤ i ∧ i ≤ 49) : GoodQ (o, a, b, i) := ⟨ho, ha, hb, hi⟩
theorem good_snoc {l : List (Int × Int × Int × Int)} {q : Int × Int × Int × Int} (h : ∀ x ∈ l, GoodQ x) (hq : GoodQ q) : ∀ x ∈ l ++ [q], GoodQ x := by
 intro x hx
 rcases List.mem_append.1 hx with hx | hx
 ·exact h x hx
 ·simp at hx; subst hx; exact hq
set_option maxRecDepth 100000 in
set_option maxHeartbeats 8000000 in
theorem codeFrom_any (v : Value) (rs : List Int) (a : Nat) (w : World) (hv : RawIn w v rs) (hrl : rs.length ≤ 256) (ha : a < 100) (cl : Nat) (hc0 : 0 < (cl : Int)) (hcl : (cl : Int) ≤ 18) :
  Calls Tryz.prog 17 #[v, .int .i64 a, .int .i64 cl] w fun e w' => ∃ b cap zs, e = .returned (.slice (some ⟨b, 0, none⟩) zs.length cap) ∧ zs.length = 16 ∧ (∀ q ∈ zs, GoodQ q) ∧ InsAt w' b 0 zs ∧ w.heap.size ≤ b ∧ Below w.heap.size w w' := by
 obtain ⟨i0, hi, hz0, hz1, hz2⟩ := info_get infoIns
 have HVV := hid hv
 clear hv
 go_enter Tryz.func17, Tryz.ntmps17
 go_wp2_with fail
 go_loopw [7, 8] (fun u i wr => ∃ (k : Nat) (l : List (Int × Int × Int × Int)), k ≤ 15 ∧ i = .int .i64 k ∧ l.length = k ∧ (∀ q ∈ l, GoodQ q) ∧ wr.ownsRow w.heap.size 89 4 u l.length (cells4 l) ∧ Below w.heap.size w wr) (fun _ i _ => 15 - (intOf i).toNat)
 case atStart => exact ⟨0, [], by omega, rfl, rfl, fun q h => by simp at h, World.ownsRow_nil _ _ _ _, Below.refl _ _⟩
 case round =>
  obtain ⟨k, l, hk, rfl, hll, hg, hO, hB⟩ := hrel
  have HG := hid hg
  have HO := hid hO
  have HB := hid hB
  have HLL := hid hll
  have hl15 : l.length ≤ 15 := by omega
  clear hg hO hB hll
  by_cases hlt : k < 15
  ·have hlt2 : (k : Int) < 15 := by omega
   have HRW := hid (show Calls Tryz.prog 48 #[v, .int .i64 ((a : Int) + (k : Int))] wr fun e w' => ∃ r : Int, e = .returned (.int .i64 r) ∧ 0 ≤ r ∧ r < 3000000 ∧ Below wr.heap.size wr w' by
    have := raw_any v rs (a + k) wr (HVV.out.below HB.out) hrl (by omega)
    rw [Int.natCast_add] at this
    exact this)
   go_wp2_with fail
   refine HRW.out.mono ?_
   rintro e w3 ⟨c, rfl, hc0, hc1, hb3⟩
   have O3 := hid (own_below HO.out hb3)
   have B3 := hid (btr HB.out hb3)
   clear hb3 HRW
   go_wp2_with fail
   refine (pick_eq _ _ _ (by omega) (by omega) (by decide)).mono ?_
   rintro e w' ⟨rfl, rfl⟩
   obtain ⟨hk0, hk1⟩ := pickV_bound (c / 16) 32 (by decide)
   generalize pickV (c / 16) 32 = kk at *
   go_wp2_with fail
   refine (pick_eq _ _ _ (by omega) (by omega) (by decide)).mono ?_
   rintro e w' ⟨rfl, rfl⟩
   obtain ⟨hs0, hs1⟩ := pickV_bound c 16 (by decide)
   generalize pickV c 16 = sw at *
   have hsw : sw = 0 ∨ sw = 1 ∨ sw = 2 ∨ sw = 3 ∨ sw = 4 ∨ sw = 5 ∨ sw = 6 ∨ sw = 7 ∨ sw = 8 ∨ sw = 9 ∨ sw = 10 ∨ sw = 11 ∨ sw = 12 ∨ sw = 13 ∨ sw = 14 ∨ sw = 15 := by omega
   rcases hsw with rfl | rfl | rfl | rfl | rfl | rfl | rfl | rfl | rfl | rfl | rfl | rfl | rfl | rfl | rfl | rfl
   ·go_wp2_with (at_builtin; refine wpList_append_own _ rfl _ _ 53 rfl w.heap.size 89 i0 (.agg #[.int .i64 0, .int .i64 0, .int .i64 0, .int .i64 0]) 4 32 Tryz.underlying53 hi hz0 hz1 hz2 rfl (by decide) _ _ _ rfl (O3.out.alloc _) ⟨w3.heap.size, 0, none⟩ 1 1 [.int .i64 1, .int .i64 1, .int .i64 0, .int .i64 kk] rfl rfl ?c1 (four_cell _ _ _ _) ?c3 ?c4 ?c5 ?_)
    case c1 => exact four_new _ _ _ _ _ _
    case c3 => unfold maxLen; omega
    case c4 => omega
    case c5 => have := B3.out.size; simp; omega
    intro v' w5 hown' hgrow _
    have B5 := hid ((bal B3.out _).grown hgrow (by have := B3.out.size; simp; omega) (fun k hk => (O3.out.lt k hk).1))
    have O5 := hid hown'
    clear hown' hgrow
    go_wp2_with fail
    refine ⟨⟨k + 1, l ++ [(1, 1, 0, kk)], by omega, by go_num, by rw [List.length_append, HLL.out]; rfl, good_snoc HG.out (good_of (by omega) (by omega) (by omega) (by omega)), ?_, B5.out⟩, by simp [intOf]; omega⟩
    rw [cells4_snoc, List.length_append]
    exact O5.out
   ·go_wp2_with (at_builtin; refine wpList_append_own _ rfl _ _ 53 rfl w.heap.size 89 i0 (.agg #[.int .i64 0, .int .i64 0, .int .i64 0, .int .i64 0]) 4 32 Tryz.underlying53 hi hz0 hz1 hz2 rfl (by decide) _ _ _ rfl (O3.out.alloc _) ⟨w3.heap.size, 0, none⟩ 1 1 [.int .i64 1, .int .i64 1, .int .i64 0, .int .i64 kk] rfl rfl ?c1 (four_cell _ _ _ _) ?c3 ?c4 ?c5 ?_)
    case c1 => exact four_new _ _ _ _ _ _
    case c3 => unfold maxLen; omega
    case c4 => omega
    case c5 => have := B3.out.size; simp; omega
    intro v' w5 hown' hgrow _
    have B5 := hid ((bal B3.out _).grown hgrow (by have := B3.out.size; simp; omega) (fun k hk => (O3.out.lt k hk).1))
    have O5 := hid hown'
    clear hown' hgrow
    go_wp2_with fail
    refine ⟨⟨k + 1, l ++ [(1, 1, 0, kk)], by omega, by go_num, by rw [List.length_append, HLL.out]; rfl, good_snoc HG.out (good_of (by omega) (by omega) (by omega) (by omega)), ?_, B5.out⟩, by simp [intOf]; omega⟩
    rw [cells4_snoc, List.length_append]
    exact O5.out
   ·go_wp2_with (at_builtin; refine wpList_append_own _ rfl _ _ 53 rfl w.heap.size 89 i0 (.agg #[.int .i64 0, .int .i64 0, .int .i64 0, .int .i64 0]) 4 32 Tryz.underlying53 hi hz0 hz1 hz2 rfl (by decide) _ _ _ rfl (O3.out.alloc _) ⟨w3.heap.size, 0, none⟩ 1 1 [.int .i64 1, .int .i64 1, .int .i64 0, .int .i64 kk] rfl rfl ?c1 (four_cell _ _ _ _) ?c3 ?c4 ?c5 ?_)
    case c1 => exact four_new _ _ _ _ _ _
    case c3 => unfold maxLen; omega
    case c4 => omega
    case c5 => have := B3.out.size; simp; omega
    intro v' w5 hown' hgrow _
    have B5 := hid ((bal B3.out _).grown hgrow (by have := B3.out.size; simp; omega) (fun k hk => (O3.out.lt k hk).1))
    have O5 := hid hown'
    clear hown' hgrow
    go_wp2_with fail
    refine ⟨⟨k + 1, l ++ [(1, 1, 0, kk)], by omega, by go_num, by rw [List.length_append, HLL.out]; rfl, good_snoc HG.out (good_of (by omega) (by omega) (by omega) (by omega)), ?_, B5.out⟩, by simp [intOf]; omega⟩
    rw [cells4_snoc, List.length_append]
    exact O5.out
   ·go_wp2_with (at_builtin; refine wpList_append_own _ rfl _ _ 53 rfl w.heap.size 89 i0 (.agg #[.int .i64 0, .int .i64 0, .int .i64 0, .int .i64 0]) 4 32 Tryz.underlying53 hi hz0 hz1 hz2 rfl (by decide) _ _ _ rfl (O3.out.alloc _) ⟨w3.heap.size, 0, none⟩ 1 1 [.int .i64 1, .int .i64 2, .int .i64 0, .int .i64 kk] rfl rfl ?c1 (four_cell _ _ _ _) ?c3 ?c4 ?c5 ?_)
    case c1 => exact four_new _ _ _ _ _ _
    case c3 => unfold maxLen; omega
    case c4 => omega
    case c5 => have := B3.out.size; simp; omega
    intro v' w5 hown' hgrow _
    have B5 := hid ((bal B3.out _).grown hgrow (by have := B3.out.size; simp; omega) (fun k hk => (O3.out.lt k hk).1))
    have O5 := hid hown'
    clear hown' hgrow
    go_wp2_with fail
    refine ⟨⟨k + 1, l ++ [(1, 2, 0, kk)], by omega, by go_num, by rw [List.length_append, HLL.out]; rfl, good_snoc HG.out (good_of (by omega) (by omega) (by omega) (by omega)), ?_, B5.out⟩, by simp [intOf]; omega⟩
    rw [cells4_snoc, List.length_append]
    exact O5.out
   ·go_wp2_with (at_builtin; refine wpList_append_own _ rfl _ _ 53 rfl w.heap.size 89 i0 (.agg #[.int .i64 0, .int .i64 0, .int .i64 0, .int .i64 0]) 4 32 Tryz.underlying53 hi hz0 hz1 hz2 rfl (by decide) _ _ _ rfl (O3.out.alloc _) ⟨w3.heap.size, 0, none⟩ 1 1 [.int .i64 1, .int .i64 2, .int .i64 0, .int .i64 kk] rfl rfl ?c1 (four_cell _ _ _ _) ?c3 ?c4 ?c5 ?_)
    case c1 => exact four_new _ _ _ _ _ _
    case c3 => unfold maxLen; omega
    case c4 => omega
    case c5 => have := B3.out.size; simp; omega
    intro v' w5 hown' hgrow _
    have B5 := hid ((bal B3.out _).grown hgrow (by have := B3.out.size; simp; omega) (fun k hk => (O3.out.lt k hk).1))
    have O5 := hid hown'
    clear hown' hgrow
    go_wp2_with fail
    refine ⟨⟨k + 1, l ++ [(1, 2, 0, kk)], by omega, by go_num, by rw [List.length_append, HLL.out]; rfl, good_snoc HG.out (good_of (by omega) (by omega) (by omega) (by omega)), ?_, B5.out⟩, by simp [intOf]; omega⟩
    rw [cells4_snoc, List.length_append]
    exact O5.out
   ·go_wp2_with fail
    refine (pick_eq _ _ _ (by omega) (by omega) (by decide)).mono ?_
    rintro e w' ⟨rfl, rfl⟩
    obtain ⟨hr0, hr1⟩ := pickV_bound kk 9 (by decide)
    generalize pickV kk 9 = r at *
    go_wp2_with (at_builtin; refine wpList_append_own _ rfl _ _ 53 rfl w.heap.size 89 i0 (.agg #[.int .i64 0, .int .i64 0, .int .i64 0, .int .i64 0]) 4 32 Tryz.underlying53 hi hz0 hz1 hz2 rfl (by decide) _ _ _ rfl (O3.out.alloc _) ⟨w3.heap.size, 0, none⟩ 1 1 [.int .i64 1, .int .i64 3, .int .i64 0, .int .i64 r] rfl rfl ?c1 (four_cell _ _ _ _) ?c3 ?c4 ?c5 ?_)
    case c1 => exact four_new _ _ _ _ _ _
    case c3 => unfold maxLen; omega
    case c4 => omega
    case c5 => have := B3.out.size; simp; omega
    intro v' w5 hown' hgrow _
    have B5 := hid ((bal B3.out _).grown hgrow (by have := B3.out.size; simp; omega) (fun k hk => (O3.out.lt k hk).1))
    have O5 := hid hown'
    clear hown' hgrow
    go_wp2_with fail
    refine ⟨⟨k + 1, l ++ [(1, 3, 0, r)], by omega, by go_num, by rw [List.length_append, HLL.out]; rfl, good_snoc HG.out (good_of (by omega) (by omega) (by omega) (by omega)), ?_, B5.out⟩, by simp [intOf]; omega⟩
    rw [cells4_snoc, List.length_append]
    exact O5.out
   ·go_wp2_with fail
    refine (pick_eq _ _ _ (by omega) (by omega) (by decide)).mono ?_
    rintro e w' ⟨rfl, rfl⟩
    obtain ⟨hr0, hr1⟩ := pickV_bound kk 4 (by decide)
    generalize pickV kk 4 = r at *
    go_wp2_with (at_builtin; refine wpList_append_own _ rfl _ _ 53 rfl w.heap.size 89 i0 (.agg #[.int .i64 0, .int .i64 0, .int .i64 0, .int .i64 0]) 4 32 Tryz.underlying53 hi hz0 hz1 hz2 rfl (by decide) _ _ _ rfl (O3.out.alloc _) ⟨w3.heap.size, 0, none⟩ 1 1 [.int .i64 1, .int .i64 4, .int .i64 0, .int .i64 r] rfl rfl ?c1 (four_cell _ _ _ _) ?c3 ?c4 ?c5 ?_)
    case c1 => exact four_new _ _ _ _ _ _
    case c3 => unfold maxLen; omega
    case c4 => omega
    case c5 => have := B3.out.size; simp; omega
    intro v' w5 hown' hgrow _
    have B5 := hid ((bal B3.out _).grown hgrow (by have := B3.out.size; simp; omega) (fun k hk => (O3.out.lt k hk).1))
    have O5 := hid hown'
    clear hown' hgrow
    go_wp2_with fail
    refine ⟨⟨k + 1, l ++ [(1, 4, 0, r)], by omega, by go_num, by rw [List.length_append, HLL.out]; rfl, good_snoc HG.out (good_of (by omega) (by omega) (by omega) (by omega)), ?_, B5.out⟩, by simp [intOf]; omega⟩
    rw [cells4_snoc, List.length_append]
    exact O5.out
   ·go_wp2_with fail
    refine (pick_eq _ _ _ (by omega) (by omega) (by decide)).mono ?_
    rintro e w' ⟨rfl, rfl⟩
    obtain ⟨hr0, hr1⟩ := pickV_bound kk 18 (by decide)
    generalize pickV kk 18 = r at *
    go_wp2_with (at_builtin; refine wpList_append_own _ rfl _ _ 53 rfl w.heap.size 89 i0 (.agg #[.int .i64 0, .int .i64 0, .int .i64 0, .int .i64 0]) 4 32 Tryz.underlying53 hi hz0 hz1 hz2 rfl (by decide) _ _ _ rfl (O3.out.alloc _) ⟨w3.heap.size, 0, none⟩ 1 1 [.int .i64 11, .int .i64 2, .int .i64 7, .int .i64 (32 + r)] rfl rfl ?c1 (four_cell _ _ _ _) ?c3 ?c4 ?c5 ?_)
    case c1 => exact four_new _ _ _ _ _ _
    case c3 => unfold maxLen; omega
    case c4 => omega
    case c5 => have := B3.out.size; simp; omega
    intro v' w5 hown' hgrow _
    have B5 := hid ((bal B3.out _).grown hgrow (by have := B3.out.size; simp; omega) (fun k hk => (O3.out.lt k hk).1))
    have O5 := hid hown'
    clear hown' hgrow
    go_wp2_with fail
    refine ⟨⟨k + 1, l ++ [(11, 2, 7, (32 + r))], by omega, by go_num, by rw [List.length_append, HLL.out]; rfl, good_snoc HG.out (good_of (by omega) (by omega) (by omega) (by omega)), ?_, B5.out⟩, by simp [intOf]; omega⟩
    rw [cells4_snoc, List.length_append]
    exact O5.out
   ·go_wp2_with fail
    refine (pick_eq _ _ _ (by omega) (by omega) (by decide)).mono ?_
    rintro e w' ⟨rfl, rfl⟩
    obtain ⟨hr0, hr1⟩ := pickV_bound kk 20 (by decide)
    generalize pickV kk 20 = r at *
    go_wp2_with (at_builtin; refine wpList_append_own _ rfl _ _ 53 rfl w.heap.size 89 i0 (.agg #[.int .i64 0, .int .i64 0, .int .i64 0, .int .i64 0]) 4 32 Tryz.underlying53 hi hz0 hz1 hz2 rfl (by decide) _ _ _ rfl (O3.out.alloc _) ⟨w3.heap.size, 0, none⟩ 1 1 [.int .i64 10, .int .i64 5, .int .i64 7, .int .i64 (30 + r)] rfl rfl ?c1 (four_cell _ _ _ _) ?c3 ?c4 ?c5 ?_)
    case c1 => exact four_new _ _ _ _ _ _
    case c3 => unfold maxLen; omega
    case c4 => omega
    case c5 => have := B3.out.size; simp; omega
    intro v' w5 hown' hgrow _
    have B5 := hid ((bal B3.out _).grown hgrow (by have := B3.out.size; simp; omega) (fun k hk => (O3.out.lt k hk).1))
    have O5 := hid hown'
    clear hown' hgrow
    go_wp2_with fail
    refine ⟨⟨k + 1, l ++ [(10, 5, 7, (30 + r))], by omega, by go_num, by rw [List.length_append, HLL.out]; rfl, good_snoc HG.out (good_of (by omega) (by omega) (by omega) (by omega)), ?_, B5.out⟩, by simp [intOf]; omega⟩
    rw [cells4_snoc, List.length_append]
    exact O5.out
   ·go_wp2_with fail
    refine (pick_eq _ _ _ (by omega) (by omega) (by decide)).mono ?_
    rintro e w' ⟨rfl, rfl⟩
    obtain ⟨hr0, hr1⟩ := pickV_bound kk 7 (by decide)
    generalize pickV kk 7 = r at *
    go_wp2_with (at_builtin; refine wpList_append_own _ rfl _ _ 53 rfl w.heap.size 89 i0 (.agg #[.int .i64 0, .int .i64 0, .int .i64 0, .int .i64 0]) 4 32 Tryz.underlying53 hi hz0 hz1 hz2 rfl (by decide) _ _ _ rfl (O3.out.alloc _) ⟨w3.heap.size, 0, none⟩ 1 1 [.int .i64 (3 + r), .int .i64 5, .int .i64 2, .int .i64 0] rfl rfl ?c1 (four_cell _ _ _ _) ?c3 ?c4 ?c5 ?_)
    case c1 => exact four_new _ _ _ _ _ _
    case c3 => unfold maxLen; omega
    case c4 => omega
    case c5 => have := B3.out.size; simp; omega
    intro v' w5 hown' hgrow _
    have B5 := hid ((bal B3.out _).grown hgrow (by have := B3.out.size; simp; omega) (fun k hk => (O3.out.lt k hk).1))
    have O5 := hid hown'
    clear hown' hgrow
    go_wp2_with fail
    refine ⟨⟨k + 1, l ++ [((3 + r), 5, 2, 0)], by omega, by go_num, by rw [List.length_append, HLL.out]; rfl, good_snoc HG.out (good_of (by omega) (by omega) (by omega) (by omega)), ?_, B5.out⟩, by simp [intOf]; omega⟩
    rw [cells4_snoc, List.length_append]
    exact O5.out
   ·go_wp2_with fail
    refine (pick_eq _ _ _ (by omega) (by omega) (by decide)).mono ?_
    rintro e w' ⟨rfl, rfl⟩
    obtain ⟨hr0, hr1⟩ := pickV_bound kk 15 (by decide)
    generalize pickV kk 15 = r at *
    go_wp2_with (at_builtin; refine wpList_append_own _ rfl _ _ 53 rfl w.heap.size 89 i0 (.agg #[.int .i64 0, .int .i64 0, .int .i64 0, .int .i64 0]) 4 32 Tryz.underlying53 hi hz0 hz1 hz2 rfl (by decide) _ _ _ rfl (O3.out.alloc _) ⟨w3.heap.size, 0, none⟩ 1 1 [.int .i64 13, .int .i64 0, .int .i64 0, .int .i64 (2 * r)] rfl rfl ?c1 (four_cell _ _ _ _) ?c3 ?c4 ?c5 ?_)
    case c1 => exact four_new _ _ _ _ _ _
    case c3 => unfold maxLen; omega
    case c4 => omega
    case c5 => have := B3.out.size; simp; omega
    intro v' w5 hown' hgrow _
    have B5 := hid ((bal B3.out _).grown hgrow (by have := B3.out.size; simp; omega) (fun k hk => (O3.out.lt k hk).1))
    have O5 := hid hown'
    clear hown' hgrow
    go_wp2_with fail
    refine ⟨⟨k + 1, l ++ [(13, 0, 0, (2 * r))], by omega, by go_num, by rw [List.length_append, HLL.out]; rfl, good_snoc HG.out (good_of (by omega) (by omega) (by omega) (by omega)), ?_, B5.out⟩, by simp [intOf]; omega⟩
    rw [cells4_snoc, List.length_append]
    exact O5.out
   ·go_wp2_with fail
    refine (pick_eq _ _ _ (by omega) (by omega) (by omega)).mono ?_
    rintro e w' ⟨rfl, rfl⟩
    obtain ⟨hr0, hr1⟩ := pickV_bound kk cl (by omega)
    generalize pickV kk cl = r at *
    go_wp2_with (at_builtin; refine wpList_append_own _ rfl _ _ 53 rfl w.heap.size 89 i0 (.agg #[.int .i64 0, .int .i64 0, .int .i64 0, .int .i64 0]) 4 32 Tryz.underlying53 hi hz0 hz1 hz2 rfl (by decide) _ _ _ rfl (O3.out.alloc _) ⟨w3.heap.size, 0, none⟩ 1 1 [.int .i64 14, .int .i64 0, .int .i64 0, .int .i64 r] rfl rfl ?c1 (four_cell _ _ _ _) ?c3 ?c4 ?c5 ?_)
    case c1 => exact four_new _ _ _ _ _ _
    case c3 => unfold maxLen; omega
    case c4 => omega
    case c5 => have := B3.out.size; simp; omega
    intro v' w5 hown' hgrow _
    have B5 := hid ((bal B3.out _).grown hgrow (by have := B3.out.size; simp; omega) (fun k hk => (O3.out.lt k hk).1))
    have O5 := hid hown'
    clear hown' hgrow
    go_wp2_with fail
    refine ⟨⟨k + 1, l ++ [(14, 0, 0, r)], by omega, by go_num, by rw [List.length_append, HLL.out]; rfl, good_snoc HG.out (good_of (by omega) (by omega) (by omega) (by omega)), ?_, B5.out⟩, by simp [intOf]; omega⟩
    rw [cells4_snoc, List.length_append]
    exact O5.out
   ·go_wp2_with fail
    refine (pick_eq _ _ _ (by omega) (by omega) (by omega)).mono ?_
    rintro e w' ⟨rfl, rfl⟩
    obtain ⟨hr0, hr1⟩ := pickV_bound kk cl (by omega)
    generalize pickV kk cl = r at *
    go_wp2_with (at_builtin; refine wpList_append_own _ rfl _ _ 53 rfl w.heap.size 89 i0 (.agg #[.int .i64 0, .int .i64 0, .int .i64 0, .int .i64 0]) 4 32 Tryz.underlying53 hi hz0 hz1 hz2 rfl (by decide) _ _ _ rfl (O3.out.alloc _) ⟨w3.heap.size, 0, none⟩ 1 1 [.int .i64 14, .int .i64 0, .int .i64 0, .int .i64 r] rfl rfl ?c1 (four_cell _ _ _ _) ?c3 ?c4 ?c5 ?_)
    case c1 => exact four_new _ _ _ _ _ _
    case c3 => unfold maxLen; omega
    case c4 => omega
    case c5 => have := B3.out.size; simp; omega
    intro v' w5 hown' hgrow _
    have B5 := hid ((bal B3.out _).grown hgrow (by have := B3.out.size; simp; omega) (fun k hk => (O3.out.lt k hk).1))
    have O5 := hid hown'
    clear hown' hgrow
    go_wp2_with fail
    refine ⟨⟨k + 1, l ++ [(14, 0, 0, r)], by omega, by go_num, by rw [List.length_append, HLL.out]; rfl, good_snoc HG.out (good_of (by omega) (by omega) (by omega) (by omega)), ?_, B5.out⟩, by simp [intOf]; omega⟩
    rw [cells4_snoc, List.length_append]
    exact O5.out
   ·go_wp2_with fail
    refine (pick_eq _ _ _ (by omega) (by omega) (by omega)).mono ?_
    rintro e w' ⟨rfl, rfl⟩
    obtain ⟨hr0, hr1⟩ := pickV_bound kk cl (by omega)
    generalize pickV kk cl = r at *
    go_wp2_with (at_builtin; refine wpList_append_own _ rfl _ _ 53 rfl w.heap.size 89 i0 (.agg #[.int .i64 0, .int .i64 0, .int .i64 0, .int .i64 0]) 4 32 Tryz.underlying53 hi hz0 hz1 hz2 rfl (by decide) _ _ _ rfl (O3.out.alloc _) ⟨w3.heap.size, 0, none⟩ 1 1 [.int .i64 14, .int .i64 0, .int .i64 0, .int .i64 r] rfl rfl ?c1 (four_cell _ _ _ _) ?c3 ?c4 ?c5 ?_)
    case c1 => exact four_new _ _ _ _ _ _
    case c3 => unfold maxLen; omega
    case c4 => omega
    case c5 => have := B3.out.size; simp; omega
    intro v' w5 hown' hgrow _
    have B5 := hid ((bal B3.out _).grown hgrow (by have := B3.out.size; simp; omega) (fun k hk => (O3.out.lt k hk).1))
    have O5 := hid hown'
    clear hown' hgrow
    go_wp2_with fail
    refine ⟨⟨k + 1, l ++ [(14, 0, 0, r)], by omega, by go_num, by rw [List.length_append, HLL.out]; rfl, good_snoc HG.out (good_of (by omega) (by omega) (by omega) (by omega)), ?_, B5.out⟩, by simp [intOf]; omega⟩
    rw [cells4_snoc, List.length_append]
    exact O5.out
   ·go_wp2_with fail
    refine (pick_eq _ _ _ (by omega) (by omega) (by omega)).mono ?_
    rintro e w' ⟨rfl, rfl⟩
    obtain ⟨hr0, hr1⟩ := pickV_bound kk cl (by omega)
    generalize pickV kk cl = r at *
    go_wp2_with (at_builtin; refine wpList_append_own _ rfl _ _ 53 rfl w.heap.size 89 i0 (.agg #[.int .i64 0, .int .i64 0, .int .i64 0, .int .i64 0]) 4 32 Tryz.underlying53 hi hz0 hz1 hz2 rfl (by decide) _ _ _ rfl (O3.out.alloc _) ⟨w3.heap.size, 0, none⟩ 1 1 [.int .i64 14, .int .i64 0, .int .i64 0, .int .i64 r] rfl rfl ?c1 (four_cell _ _ _ _) ?c3 ?c4 ?c5 ?_)
    case c1 => exact four_new _ _ _ _ _ _
    case c3 => unfold maxLen; omega
    case c4 => omega
    case c5 => have := B3.out.size; simp; omega
    intro v' w5 hown' hgrow _
    have B5 := hid ((bal B3.out _).grown hgrow (by have := B3.out.size; simp; omega) (fun k hk => (O3.out.lt k hk).1))
    have O5 := hid hown'
    clear hown' hgrow
    go_wp2_with fail
    refine ⟨⟨k + 1, l ++ [(14, 0, 0, r)], by omega, by go_num, by rw [List.length_append, HLL.out]; rfl, good_snoc HG.out (good_of (by omega) (by omega) (by omega) (by omega)), ?_, B5.out⟩, by simp [intOf]; omega⟩
    rw [cells4_snoc, List.length_append]
    exact O5.out
   ·go_wp2_with fail
    refine (pick_eq _ _ _ (by omega) (by omega) (by omega)).mono ?_
    rintro e w' ⟨rfl, rfl⟩
    obtain ⟨hr0, hr1⟩ := pickV_bound kk cl (by omega)
    generalize pickV kk cl = r at *
    go_wp2_with (at_builtin; refine wpList_append_own _ rfl _ _ 53 rfl w.heap.size 89 i0 (.agg #[.int .i64 0, .int .i64 0, .int .i64 0, .int .i64 0]) 4 32 Tryz.underlying53 hi hz0 hz1 hz2 rfl (by decide) _ _ _ rfl (O3.out.alloc _) ⟨w3.heap.size, 0, none⟩ 1 1 [.int .i64 14, .int .i64 0, .int .i64 0, .int .i64 r] rfl rfl ?c1 (four_cell _ _ _ _) ?c3 ?c4 ?c5 ?_)
    case c1 => exact four_new _ _ _ _ _ _
    case c3 => unfold maxLen; omega
    case c4 => omega
    case c5 => have := B3.out.size; simp; omega
    intro v' w5 hown' hgrow _
    have B5 := hid ((bal B3.out _).grown hgrow (by have := B3.out.size; simp; omega) (fun k hk => (O3.out.lt k hk).1))
    have O5 := hid hown'
    clear hown' hgrow
    go_wp2_with fail
    refine ⟨⟨k + 1, l ++ [(14, 0, 0, r)], by omega, by go_num, by rw [List.length_append, HLL.out]; rfl, good_snoc HG.out (good_of (by omega) (by omega) (by omega) (by omega)), ?_, B5.out⟩, by simp [intOf]; omega⟩
    rw [cells4_snoc, List.length_append]
    exact O5.out
  ·obtain rfl : k = 15 := by omega
   go_wp2_with (at_builtin; refine wpList_append_own _ rfl _ _ 53 rfl w.heap.size 89 i0 (.agg #[.int .i64 0, .int .i64 0, .int .i64 0, .int .i64 0]) 4 32 Tryz.underlying53 hi hz0 hz1 hz2 rfl (by decide) _ _ _ rfl (HO.out.alloc _) ⟨wr.heap.size, 0, none⟩ 1 1 [.int .i64 12, .int .i64 0, .int .i64 0, .int .i64 0] rfl rfl ?c1 (four_cell _ _ _ _) ?c3 ?c4 ?c5 ?_)
   case c1 => exact four_new _ _ _ _ _ _
   case c3 => unfold maxLen; omega
   case c4 => omega
   case c5 => have := HB.out.size; simp; omega
   intro v' w5 hown' hgrow _
   have B5 := hid ((bal HB.out _).grown hgrow (by have := HB.out.size; simp; omega) (fun k hk => (HO.out.lt k hk).1))
   have O5 : w5.ownsRow w.heap.size 89 4 v' (l ++ [(12, 0, 0, 0)]).length (cells4 (l ++ [(12, 0, 0, 0)])) := by
    rw [cells4_snoc, List.length_append]
    exact hown'
   obtain ⟨b, cap, hv1, hI, hbb⟩ := own_ins O5 (by simp)
   subst hv1
   have HI := hid hI
   clear hown' hgrow O5 hI
   go_wp2_with fail
   go_ret
   exact ⟨b, cap, l ++ [(12, 0, 0, 0)], rfl, by rw [List.length_append, HLL.out]; rfl, good_snoc HG.out (good_of (by omega) (by omega) (by omega) (by omega)), HI.out, hbb, B5.out⟩
end Go.Proofs.YtakmaeohhclngaaGreatDoor.Mad
