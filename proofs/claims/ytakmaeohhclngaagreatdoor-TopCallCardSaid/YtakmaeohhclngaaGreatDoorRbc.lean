/- keyholdref.MakeThings, walked. (Written by mk_clay3.py.) -/
import Derived.Test.YtakmaeohhclngaaGreatDoorRax
namespace Go.Proofs.YtakmaeohhclngaaGreatDoor.Wd
open Go.RowKit Go.Proofs.YtakmaeohhclngaaGreatDoor.Mem Go.Proofs.YtakmaeohhclngaaGreatDoor.Bw Go.Proofs.YtakmaeohhclngaaGreatDoor.Nums Go.Proofs.YtakmaeohhclngaaGreatDoor.Mmu
theorem usd_yes {p : PW} {t m j : Nat} (h1 : t ≤ j) (h2 : j < t + m) (hj : j < p.slots.length) (h0 : p.slots[j] 0 ≠ 0) : usd p t m = true := by
 cases h : usd p t m with
 | true => rfl
 | false => have := usd_not h hj h0; omega
theorem usd_none {p : PW} {t m : Nat} (h : ∀ j (hj : j < p.slots.length), t ≤ j → j < t + m → p.slots[j] 0 = 0) : usd p t m = false := by
 unfold usd
 rw [List.any_eq_false]
 intro f hf
 obtain ⟨i, hi⟩ := List.mem_iff_getElem?.1 hf
 rw [List.getElem?_take] at hi
 by_cases h1 : i < m
 ·rw [if_pos h1, List.getElem?_drop] at hi
  obtain ⟨h2, h3⟩ := List.getElem?_eq_some_iff.1 hi
  have := h (t + i) h2 (by omega) (by omega)
  rw [h3] at this
  simp [this]
 ·rw [if_neg h1] at hi
  cases hi
theorem slot_no {p : PW} {n : Int} (h : slotB p n = false) : n < 0 ∨ (¬ (n < 0) ∧ (p.slots.length : Int) ≤ n) := by
 unfold slotB at h
 have := of_decide_eq_false h
 omega
set_option maxRecDepth 100000 in
set_option maxHeartbeats 8000000 in
theorem makeThings_any (n k m t0 : Int) (p : PW) (hp : p.Fits) (hl : ∀ l ∈ p.tlbs, l.length ≤ 100) (hs : Snd p) (W : World) (wb : Nat) (tag : Nat → Nat) (V : Nat → Value) (bt0 : BoxT W wb tag V p) :
  Calls Tryz.prog 69 #[.pointer (some ⟨wb, 0, none⟩), .int .i64 n, .int .i64 k, .int .i64 m, .int .i64 t0] W fun r W' => r = .returned (.int .i64 (mkE p n k m t0)) ∧ ∃ tag', Kt tag tag' W W' ∧ (mkE p n k m t0 = 0 → ∃ V', BoxT W' wb tag' V' (mkP p n k m t0)) := by
 obtain ⟨bt, kr⟩ := retagC bt0
 have KR := hid kr
 have T0 := hid (fun x (h : W.heap.size ≤ x) => show tagC tag W.heap.size x = 0 from if_neg (by omega))
 generalize tagC tag W.heap.size = tg at *
 clear bt0 kr
 have hsl3 : (p.slots.length : Int) ≤ 1000 := by have := hp.slots; omega
 obtain ⟨q2, g2, cap2, e2, hq2⟩ := bt.o.slots.shape
 have c2 : W.cell? ⟨wb, 2, none⟩ = some (.slice q2 p.slots.length cap2) := by rw [range_cell bt.r (k := 2) rfl, e2]
 cases hsn : slotB p n with
 | false =>
  have HE := hid (show mkE p n k m t0 = 2 by
   have h1 : hasE p n = 2 := by unfold hasE; rw [hsn]; rfl
   have h2 : clE p n = 2 := by unfold clE; rw [h1]; rfl
   unfold mkE
   rw [h2]
   split <;> rfl)
  rcases slot_no hsn with h0 | ⟨h0, h1⟩
  ·clear bt hp hl hs hsn e2 hq2
   go_enter Tryz.func69, Tryz.ntmps69
   go_wp2_with fail
   go_ret
   exact ⟨by rw [HE.out]; rfl, tg, KR.out, fun h => by rw [HE.out] at h; cases h⟩
  ·clear bt hp hl hs hsn e2 hq2
   go_enter Tryz.func69, Tryz.ntmps69
   go_wp2_with fail
   go_ret
   exact ⟨by rw [HE.out]; rfl, tg, KR.out, fun h => by rw [HE.out] at h; cases h⟩
 | true =>
 obtain ⟨j, rfl, hj⟩ := slotB_in hsn
 have hj0 : ¬ ((j : Int) < 0) := by omega
 have hj1 : (j : Int) < (p.slots.length : Int) := by omega
 cases hst : slotB p t0 with
 | false =>
  have HE := hid (show mkE p j k m t0 = 2 by unfold mkE; rw [hst]; rfl)
  rcases slot_no hst with h0 | ⟨h0, h1⟩
  ·clear bt hp hl hs hsn e2 hq2 hst
   go_enter Tryz.func69, Tryz.ntmps69
   go_wp2_with fail
   go_ret
   exact ⟨by rw [HE.out]; rfl, tg, KR.out, fun h => by rw [HE.out] at h; cases h⟩
  ·clear bt hp hl hs hsn e2 hq2 hst
   go_enter Tryz.func69, Tryz.ntmps69
   go_wp2_with fail
   go_ret
   exact ⟨by rw [HE.out]; rfl, tg, KR.out, fun h => by rw [HE.out] at h; cases h⟩
 | true =>
 obtain ⟨t, rfl, ht⟩ := slotB_in hst
 have ht0 : ¬ ((t : Int) < 0) := by omega
 have ht1 : (t : Int) < (p.slots.length : Int) := by omega
 obtain rfl := hq2 (by omega)
 have E2 := hid e2
 have hE0 : mkE p j k m t = if clE p j = 0 then (if within 2 8 k = true then (if fcE p t m = 0 then (if (p.slots.getD j nkey) 2 - usV p j < m then 5 else 0) else fcE p t m) else 3) else clE p j := by unfold mkE; rw [hst, if_pos rfl, Int.toNat_natCast, Int.toNat_natCast]
 have HHA := hid (has_ref wb V p j W (bt.view hp hl))
 by_cases hhe : hasE p j = 0
 rotate_left
 ·have hce : clE p j = hasE p j := if_neg hhe
  have HE := hid (show mkE p j k m t = hasE p j by rw [hE0, if_neg (by rw [hce]; exact hhe), hce])
  have HN := hid hhe
  have hhb : (hasE p j == 0) = false := by simpa using hhe
  generalize hasE p j = x at HHA HE HN hhb
  clear bt hp hl hs hsn e2 hst hE0 hhe hce
  go_enter Tryz.func69, Tryz.ntmps69
  go_wp2_with fail
  refine HHA.out.mono ?_
  rintro q w1 ⟨rfl, rfl⟩
  go_wp2_with fail
  go_ret
  exact ⟨by rw [HE.out]; rfl, tg, KR.out, fun h => absurd (HE.out.symm.trans h) HN.out⟩
 rw [hhe] at HHA
 have hgd : p.slots.getD j nkey = p.slots[j] := by rw [List.getD_eq_getElem?_getD, List.getElem?_eq_getElem hj]; rfl
 obtain ⟨f, hf⟩ : ∃ f, p.slots[j] = f := ⟨_, rfl⟩
 have hce : clE p j = if f 0 = 1 then 0 else 3 := by unfold clE; rw [if_pos hhe, Int.toNat_natCast, hgd, hf]
 have RJ := hid (show W.rangeAt g2 (j * 7) (cf 6 f) from six_of (by
  have h2 := bt.o.slots
  rw [e2] at h2
  have h3 := h2.range hj
  rw [hf] at h3
  exact h3))
 have HBX := hid bt
 have HTK := hid (there_new W #[.int .i64 0, .int .i64 0, .int .i64 0, .int .i64 0, .int .i64 0, .int .i64 0] 115 W.heap.size 6 rfl (by decide))
 have BL2 := hid (show Below W.heap.size W ((W.alloc (.cells #[.int .i64 0, .int .i64 0, .int .i64 0, .int .i64 0, .int .i64 0, .int .i64 0] 115)).setCells W.heap.size 0 (cf 6 f)) from below_setCells (bal (Below.refl W.heap.size W) (.cells #[.int .i64 0, .int .i64 0, .int .i64 0, .int .i64 0, .int .i64 0, .int .i64 0] 115)) (Nat.le_refl _) _ 0)
 have RK := hid (World.rangeAt_setCells_same (W.alloc (.cells #[.int .i64 0, .int .i64 0, .int .i64 0, .int .i64 0, .int .i64 0, .int .i64 0] 115)) W.heap.size 0 (cf 6 f) (by rw [cf_len]; exact HTK.out))
 have TK := hid (there_sets (cf 6 f) 0 (W.alloc (.cells #[.int .i64 0, .int .i64 0, .int .i64 0, .int .i64 0, .int .i64 0, .int .i64 0] 115)) (B := W.heap.size) HTK.out)
 have T4 := hid (T0.out W.heap.size (Nat.le_refl _))
 have KD1 := hid (show t / 16 < p.kinds.length by have := hs.lf.slots; omega)
 have hk3 : ((t : Int) / 16) = ((t / 16 : Nat) : Int) := by omega
 have hk4 : ((t / 16 : Nat) : Int) < (p.kinds.length : Int) := by have := KD1.out; omega
 have hl1 : (p.kinds.length : Int) ≤ 1000 := by have := hp.kinds; omega
 obtain ⟨g1, cap1, e1⟩ := bt.o.kinds.form (show 0 < p.kinds.length by have := KD1.out; omega)
 have E1 := hid e1
 have HKC := hid (fun X (h : BoxT X wb tg V p) => show X.cell? ⟨g1, t / 16, none⟩ = some (.int .i64 p.kinds[t / 16]) from by
  have h2 := h.o.kinds
  rw [e1] at h2
  exact h2.int KD1.out)
 have hfc0 : fcE p t m = if p.kinds[t / 16] = 5 then (if within 1 (16 - (t : Int) % 16) m = true then (if usd p t m.toNat = true then 12 else 0) else 2) else 3 := by unfold fcE; rw [getD_at KD1.out]; rfl
 by_cases h1 : f 0 = 1
 rotate_left
 ·rw [if_neg h1] at hce
  have HE := hid (show mkE p j k m t = 3 by rw [hE0, hce]; rfl)
  have h1b : (f 0 != 1) = true := by simpa using h1
  clear bt hp hl hs hsn hst e1 e2 hhe hgd hf hce hE0 hfc0 T0
  go_enter Tryz.func69, Tryz.ntmps69
  go_wp2_with fail
  refine HHA.out.mono ?_
  rintro q w1 ⟨rfl, rfl⟩
  go_upto_region 7 with (first | ((with_reducible (show wpList _ _ _ (⟨_, Op.load 115 _, _, _, _, _⟩ :: _) _ _)); refine wp_ldK rfl _ rfl g2 (j * 7) rfl (cf 6 f) (cf_len _ _) RJ.out ?_) | ((with_reducible (show wpList _ _ _ (⟨_, Op.store 115 _ _, _, _, _, _⟩ :: _) _ _)); refine wp_stK rfl _ _ rfl W.heap.size 0 rfl (cf 6 f) rfl (cf_len _ _) (cf_one _ _) HTK.out ?_))
  generalize World.setCells _ _ _ _ = W2 at *
  obtain ⟨kb, hkb⟩ : ∃ kb, W.heap.size = kb := ⟨_, rfl⟩
  have HKB := hid hkb
  rw [hkb] at RK TK T4 ⊢
  clear hkb c2
  have B2 := hid (HBX.out.below BL2.out)
  have K2 := hid (KR.out.trans (.below BL2.out))
  have c1 : W2.cell? ⟨wb, 1, none⟩ = some (.slice (some ⟨g1, 0, none⟩) p.kinds.length cap1) := by rw [range_cell B2.out.r (k := 1) rfl, E1.out]
  have y0 := range_cell RK.out (k := 0) (v := .int .i64 (f 0)) (cf_at 6 _ 0 (by omega))
  have xk := HKC.out _ B2.out
  go_wp2_with fail
  go_ret
  exact ⟨by rw [HE.out]; rfl, tg, K2.out, fun h => by rw [HE.out] at h; cases h⟩
 rw [if_pos h1] at hce
 rw [if_pos hce] at hE0
 have h1b : (f 0 != 1) = false := by rw [h1]; rfl
 cases hwk : within 2 8 k with
 | false =>
  have HE := hid (show mkE p j k m t = 3 by rw [hE0, hwk]; rfl)
  have hw2 : k < 2 ∨ (¬ (k < 2) ∧ 8 < k) := by
   unfold within at hwk
   have := of_decide_eq_false hwk
   omega
  rcases hw2 with h2 | ⟨h2, h3⟩
  ·clear bt hp hl hs hsn hst e1 e2 hhe hgd hf hce hE0 hfc0 T0 hwk
   go_enter Tryz.func69, Tryz.ntmps69
   go_wp2_with fail
   refine HHA.out.mono ?_
   rintro q w1 ⟨rfl, rfl⟩
   go_upto_region 7 with (first | ((with_reducible (show wpList _ _ _ (⟨_, Op.load 115 _, _, _, _, _⟩ :: _) _ _)); refine wp_ldK rfl _ rfl g2 (j * 7) rfl (cf 6 f) (cf_len _ _) RJ.out ?_) | ((with_reducible (show wpList _ _ _ (⟨_, Op.store 115 _ _, _, _, _, _⟩ :: _) _ _)); refine wp_stK rfl _ _ rfl W.heap.size 0 rfl (cf 6 f) rfl (cf_len _ _) (cf_one _ _) HTK.out ?_))
   generalize World.setCells _ _ _ _ = W2 at *
   obtain ⟨kb, hkb⟩ : ∃ kb, W.heap.size = kb := ⟨_, rfl⟩
   have HKB := hid hkb
   rw [hkb] at RK TK T4 ⊢
   clear hkb c2
   have B2 := hid (HBX.out.below BL2.out)
   have K2 := hid (KR.out.trans (.below BL2.out))
   have c1 : W2.cell? ⟨wb, 1, none⟩ = some (.slice (some ⟨g1, 0, none⟩) p.kinds.length cap1) := by rw [range_cell B2.out.r (k := 1) rfl, E1.out]
   have y0 := range_cell RK.out (k := 0) (v := .int .i64 (f 0)) (cf_at 6 _ 0 (by omega))
   have xk := HKC.out _ B2.out
   go_wp2_with fail
   go_ret
   exact ⟨by rw [HE.out]; rfl, tg, K2.out, fun h => by rw [HE.out] at h; cases h⟩
  ·clear bt hp hl hs hsn hst e1 e2 hhe hgd hf hce hE0 hfc0 T0 hwk
   go_enter Tryz.func69, Tryz.ntmps69
   go_wp2_with fail
   refine HHA.out.mono ?_
   rintro q w1 ⟨rfl, rfl⟩
   go_upto_region 7 with (first | ((with_reducible (show wpList _ _ _ (⟨_, Op.load 115 _, _, _, _, _⟩ :: _) _ _)); refine wp_ldK rfl _ rfl g2 (j * 7) rfl (cf 6 f) (cf_len _ _) RJ.out ?_) | ((with_reducible (show wpList _ _ _ (⟨_, Op.store 115 _ _, _, _, _, _⟩ :: _) _ _)); refine wp_stK rfl _ _ rfl W.heap.size 0 rfl (cf 6 f) rfl (cf_len _ _) (cf_one _ _) HTK.out ?_))
   generalize World.setCells _ _ _ _ = W2 at *
   obtain ⟨kb, hkb⟩ : ∃ kb, W.heap.size = kb := ⟨_, rfl⟩
   have HKB := hid hkb
   rw [hkb] at RK TK T4 ⊢
   clear hkb c2
   have B2 := hid (HBX.out.below BL2.out)
   have K2 := hid (KR.out.trans (.below BL2.out))
   have c1 : W2.cell? ⟨wb, 1, none⟩ = some (.slice (some ⟨g1, 0, none⟩) p.kinds.length cap1) := by rw [range_cell B2.out.r (k := 1) rfl, E1.out]
   have y0 := range_cell RK.out (k := 0) (v := .int .i64 (f 0)) (cf_at 6 _ 0 (by omega))
   have xk := HKC.out _ B2.out
   go_wp2_with fail
   go_ret
   exact ⟨by rw [HE.out]; rfl, tg, K2.out, fun h => by rw [HE.out] at h; cases h⟩
 | true =>
 rw [hwk, if_pos rfl] at hE0
 have hw2 : ¬ (k < 2) ∧ ¬ (8 < k) := by
  unfold within at hwk
  have := of_decide_eq_true hwk
  omega
 obtain ⟨hw3, hw4⟩ := hw2
 by_cases h5 : p.kinds[t / 16] = 5
 rotate_left
 ·rw [if_neg h5] at hfc0
  have HE := hid (show mkE p j k m t = 3 by rw [hE0, hfc0]; rfl)
  have h5b : (p.kinds[t / 16] != 5) = true := by simpa using h5
  generalize p.kinds[t / 16] = y at *
  generalize t / 16 = tq at *
  clear bt hp hl hs hsn hst e1 e2 hhe hgd hf hce hE0 hfc0 h5 T0 hwk KD1
  go_enter Tryz.func69, Tryz.ntmps69
  go_wp2_with fail
  refine HHA.out.mono ?_
  rintro q w1 ⟨rfl, rfl⟩
  go_upto_region 7 with (first | ((with_reducible (show wpList _ _ _ (⟨_, Op.load 115 _, _, _, _, _⟩ :: _) _ _)); refine wp_ldK rfl _ rfl g2 (j * 7) rfl (cf 6 f) (cf_len _ _) RJ.out ?_) | ((with_reducible (show wpList _ _ _ (⟨_, Op.store 115 _ _, _, _, _, _⟩ :: _) _ _)); refine wp_stK rfl _ _ rfl W.heap.size 0 rfl (cf 6 f) rfl (cf_len _ _) (cf_one _ _) HTK.out ?_))
  generalize World.setCells _ _ _ _ = W2 at *
  obtain ⟨kb, hkb⟩ : ∃ kb, W.heap.size = kb := ⟨_, rfl⟩
  have HKB := hid hkb
  rw [hkb] at RK TK T4 ⊢
  clear hkb c2
  have B2 := hid (HBX.out.below BL2.out)
  have K2 := hid (KR.out.trans (.below BL2.out))
  have c1 : W2.cell? ⟨wb, 1, none⟩ = some (.slice (some ⟨g1, 0, none⟩) p.kinds.length cap1) := by rw [range_cell B2.out.r (k := 1) rfl, E1.out]
  have y0 := range_cell RK.out (k := 0) (v := .int .i64 (f 0)) (cf_at 6 _ 0 (by omega))
  have xk := HKC.out _ B2.out
  go_wp2_with fail
  go_ret
  exact ⟨by rw [HE.out]; rfl, tg, K2.out, fun h => by rw [HE.out] at h; cases h⟩
 rw [if_pos h5] at hfc0
 rw [h5] at HKC
 obtain ⟨tm, htm⟩ : ∃ tm : Int, (t : Int) % 16 = tm := ⟨_, rfl⟩
 rw [htm] at hfc0
 have htm1 : 0 ≤ tm := by omega
 have htm2 : tm < 16 := by omega
 cases hwm : within 1 (16 - tm) m with
 | false =>
  have HE := hid (show mkE p j k m t = 2 by rw [hE0, hfc0, hwm]; rfl)
  have hw5 : m < 1 ∨ (¬ (m < 1) ∧ 16 < m) ∨ (¬ (m < 1) ∧ ¬ (16 < m) ∧ 16 < tm + m) := by
   unfold within at hwm
   have := of_decide_eq_false hwm
   omega
  generalize t / 16 = tq at *
  rcases hw5 with h6 | ⟨h6, h7⟩ | ⟨h6, h7, h8⟩
  ·clear bt hp hl hs hsn hst e1 e2 hhe hgd hf hce hE0 hfc0 T0 hwk hwm h5 KD1
   go_enter Tryz.func69, Tryz.ntmps69
   go_wp2_with fail
   refine HHA.out.mono ?_
   rintro q w1 ⟨rfl, rfl⟩
   go_upto_region 7 with (first | ((with_reducible (show wpList _ _ _ (⟨_, Op.load 115 _, _, _, _, _⟩ :: _) _ _)); refine wp_ldK rfl _ rfl g2 (j * 7) rfl (cf 6 f) (cf_len _ _) RJ.out ?_) | ((with_reducible (show wpList _ _ _ (⟨_, Op.store 115 _ _, _, _, _, _⟩ :: _) _ _)); refine wp_stK rfl _ _ rfl W.heap.size 0 rfl (cf 6 f) rfl (cf_len _ _) (cf_one _ _) HTK.out ?_))
   generalize World.setCells _ _ _ _ = W2 at *
   obtain ⟨kb, hkb⟩ : ∃ kb, W.heap.size = kb := ⟨_, rfl⟩
   have HKB := hid hkb
   rw [hkb] at RK TK T4 ⊢
   clear hkb c2
   have B2 := hid (HBX.out.below BL2.out)
   have K2 := hid (KR.out.trans (.below BL2.out))
   have c1 : W2.cell? ⟨wb, 1, none⟩ = some (.slice (some ⟨g1, 0, none⟩) p.kinds.length cap1) := by rw [range_cell B2.out.r (k := 1) rfl, E1.out]
   have y0 := range_cell RK.out (k := 0) (v := .int .i64 (f 0)) (cf_at 6 _ 0 (by omega))
   have xk := HKC.out _ B2.out
   go_wp2_with fail
   go_ret
   exact ⟨by rw [HE.out]; rfl, tg, K2.out, fun h => by rw [HE.out] at h; cases h⟩
  ·clear bt hp hl hs hsn hst e1 e2 hhe hgd hf hce hE0 hfc0 T0 hwk hwm h5 KD1
   go_enter Tryz.func69, Tryz.ntmps69
   go_wp2_with fail
   refine HHA.out.mono ?_
   rintro q w1 ⟨rfl, rfl⟩
   go_upto_region 7 with (first | ((with_reducible (show wpList _ _ _ (⟨_, Op.load 115 _, _, _, _, _⟩ :: _) _ _)); refine wp_ldK rfl _ rfl g2 (j * 7) rfl (cf 6 f) (cf_len _ _) RJ.out ?_) | ((with_reducible (show wpList _ _ _ (⟨_, Op.store 115 _ _, _, _, _, _⟩ :: _) _ _)); refine wp_stK rfl _ _ rfl W.heap.size 0 rfl (cf 6 f) rfl (cf_len _ _) (cf_one _ _) HTK.out ?_))
   generalize World.setCells _ _ _ _ = W2 at *
   obtain ⟨kb, hkb⟩ : ∃ kb, W.heap.size = kb := ⟨_, rfl⟩
   have HKB := hid hkb
   rw [hkb] at RK TK T4 ⊢
   clear hkb c2
   have B2 := hid (HBX.out.below BL2.out)
   have K2 := hid (KR.out.trans (.below BL2.out))
   have c1 : W2.cell? ⟨wb, 1, none⟩ = some (.slice (some ⟨g1, 0, none⟩) p.kinds.length cap1) := by rw [range_cell B2.out.r (k := 1) rfl, E1.out]
   have y0 := range_cell RK.out (k := 0) (v := .int .i64 (f 0)) (cf_at 6 _ 0 (by omega))
   have xk := HKC.out _ B2.out
   go_wp2_with fail
   go_ret
   exact ⟨by rw [HE.out]; rfl, tg, K2.out, fun h => by rw [HE.out] at h; cases h⟩
  ·clear bt hp hl hs hsn hst e1 e2 hhe hgd hf hce hE0 hfc0 T0 hwk hwm h5 KD1
   go_enter Tryz.func69, Tryz.ntmps69
   go_wp2_with fail
   refine HHA.out.mono ?_
   rintro q w1 ⟨rfl, rfl⟩
   go_upto_region 7 with (first | ((with_reducible (show wpList _ _ _ (⟨_, Op.load 115 _, _, _, _, _⟩ :: _) _ _)); refine wp_ldK rfl _ rfl g2 (j * 7) rfl (cf 6 f) (cf_len _ _) RJ.out ?_) | ((with_reducible (show wpList _ _ _ (⟨_, Op.store 115 _ _, _, _, _, _⟩ :: _) _ _)); refine wp_stK rfl _ _ rfl W.heap.size 0 rfl (cf 6 f) rfl (cf_len _ _) (cf_one _ _) HTK.out ?_))
   generalize World.setCells _ _ _ _ = W2 at *
   obtain ⟨kb, hkb⟩ : ∃ kb, W.heap.size = kb := ⟨_, rfl⟩
   have HKB := hid hkb
   rw [hkb] at RK TK T4 ⊢
   clear hkb c2
   have B2 := hid (HBX.out.below BL2.out)
   have K2 := hid (KR.out.trans (.below BL2.out))
   have c1 : W2.cell? ⟨wb, 1, none⟩ = some (.slice (some ⟨g1, 0, none⟩) p.kinds.length cap1) := by rw [range_cell B2.out.r (k := 1) rfl, E1.out]
   have y0 := range_cell RK.out (k := 0) (v := .int .i64 (f 0)) (cf_at 6 _ 0 (by omega))
   have xk := HKC.out _ B2.out
   go_wp2_with fail
   go_ret
   exact ⟨by rw [HE.out]; rfl, tg, K2.out, fun h => by rw [HE.out] at h; cases h⟩
 | true =>
 rw [hwm, if_pos rfl] at hfc0
 have hw6 : ¬ (m < 1) ∧ ¬ (16 < m) ∧ ¬ (16 < tm + m) := by
  unfold within at hwm
  have := of_decide_eq_true hwm
  omega
 obtain ⟨hw7, hw8, hw9⟩ := hw6
 obtain ⟨mn, rfl⟩ : ∃ mn : Nat, m = mn := ⟨m.toNat, by omega⟩
 rw [Int.toNat_natCast] at hfc0
 have HTS := hid (show t + mn ≤ p.slots.length by have := hs.lf.slots; omega)
 have hts2 : (t : Int) + (mn : Int) ≤ (p.slots.length : Int) := by have := HTS.out; omega
 have HFC := hid hfc0
 have HEE := hid hE0
 have HSN := hid hs
 have HPF := hid hp
 have HLL := hid hl
 have HCE := hid hce
 have HJ := hid hj
 have HF := hid hf
 have HGD := hid hgd
 have HRM := hid hs.lf.ram
 have HAF := hid (fun X (h : BoxT X wb tg V p) => anyFrom_ref wb V p j X (h.view hp hl))
 have HX0 := hid (fun X (h : BoxT X wb tg V p) i (hi : i < p.slots.length) => show X.cell? ⟨g2, i * 7, none⟩ = some (.int .i64 (p.slots[i] 0)) from by have h1 := h.slotsAt e2 hi (show 0 < 7 by omega); rw [Nat.add_zero] at h1; exact h1)
 generalize t / 16 = tq at *
 clear bt hp hl hs hsn hst e1 e2 hhe hgd hf hce hE0 hfc0 T0 hwk hwm h5 KD1 ht
 go_enter Tryz.func69, Tryz.ntmps69
 go_wp2_with fail
 refine HHA.out.mono ?_
 rintro q w1 ⟨rfl, rfl⟩
 go_upto_region 7 with (first | ((with_reducible (show wpList _ _ _ (⟨_, Op.load 115 _, _, _, _, _⟩ :: _) _ _)); refine wp_ldK rfl _ rfl g2 (j * 7) rfl (cf 6 f) (cf_len _ _) RJ.out ?_) | ((with_reducible (show wpList _ _ _ (⟨_, Op.store 115 _ _, _, _, _, _⟩ :: _) _ _)); refine wp_stK rfl _ _ rfl W.heap.size 0 rfl (cf 6 f) rfl (cf_len _ _) (cf_one _ _) HTK.out ?_))
 generalize World.setCells _ _ _ _ = W2 at *
 obtain ⟨kb, hkb⟩ : ∃ kb, W.heap.size = kb := ⟨_, rfl⟩
 have HKB := hid hkb
 rw [hkb] at RK TK T4 ⊢
 clear hkb c2
 have B2 := hid (HBX.out.below BL2.out)
 have K2 := hid (KR.out.trans (.below BL2.out))
 have c1 : W2.cell? ⟨wb, 1, none⟩ = some (.slice (some ⟨g1, 0, none⟩) p.kinds.length cap1) := by rw [range_cell B2.out.r (k := 1) rfl, E1.out]
 have y0 := range_cell RK.out (k := 0) (v := .int .i64 (f 0)) (cf_at 6 _ 0 (by omega))
 have xk := HKC.out _ B2.out
 go_upto_region 12 with fail
 clear c1 y0 xk
 go_loopw [13] (fun i wr => ∃ (a : Nat), t ≤ a ∧ a ≤ t + mn ∧ i = .int .i64 a ∧ W2 = wr ∧ Hid (∀ x (hx : x < p.slots.length), t ≤ x → x < a → p.slots[x] 0 = 0)) (fun i _ => t + mn - (intOf i).toNat)
 case atStart => exact ⟨t, Nat.le_refl _, by omega, rfl, rfl, hid (fun x _ h1 h2 => by omega)⟩
 case round =>
  obtain ⟨a, ha1, ha2, rfl, rfl, HN⟩ := hrel
  by_cases hlt : a < t + mn
  ·have hlt2 : (a : Int) < (t : Int) + (mn : Int) := by omega
   have hal : a < p.slots.length := by have := HTS.out; omega
   have hal2 : (a : Int) < (p.slots.length : Int) := by omega
   have c2 : W2.cell? ⟨wb, 2, none⟩ = some (.slice (some ⟨g2, 0, none⟩) p.slots.length cap2) := by rw [range_cell B2.out.r (k := 2) rfl, E2.out]
   have xa := HX0.out _ B2.out a hal
   by_cases h0 : p.slots[a] 0 = 0
   ·rw [h0] at xa
    have HN2 := hid (show ∀ x (hx : x < p.slots.length), t ≤ x → x < a + 1 → p.slots[x] 0 = 0 from fun x hx h1 h2 => by
     by_cases e : x = a
     ·subst e; exact h0
     ·exact HN.out x hx h1 (by omega))
    clear h0
    go_wp2_with fail
    exact ⟨⟨a + 1, by omega, by omega, by go_num, by first | rfl | trivial, HN2⟩, by simp [intOf]; omega⟩
   ·have HU := usd_yes (m := mn) ha1 hlt hal h0
    have HE := hid (show mkE p j k mn t = 12 by rw [HEE.out, HFC.out, HU]; rfl)
    have h0b : (p.slots[a] 0 != 0) = true := by simpa using h0
    generalize p.slots[a] 0 = y at xa h0b
    clear h0 HU
    go_wp2_with fail
    go_ret
    exact ⟨by rw [HE.out]; rfl, tg, K2.out, fun h => by rw [HE.out] at h; cases h⟩
  ·have hge : ¬ ((a : Int) < (t : Int) + (mn : Int)) := by omega
   have HUS := hid (usd_none (p := p) (t := t) (m := mn) (fun x hx h1 h2 => HN.out x hx h1 (by omega)))
   have hfc1 : fcE p t mn = 0 := by rw [HFC.out, HUS.out]; rfl
   have hE1 := HEE.out
   rw [if_pos hfc1, HGD.out, HF.out] at hE1
   obtain ⟨j', hj', ej, -, -, hbb, hlb, hmb, hub⟩ := clay_in HSN.out HCE.out
   obtain rfl : j' = j := by omega
   rw [HF.out] at hbb hlb hmb
   obtain ⟨hbb0, hbb1⟩ := hbb
   obtain ⟨hlb0, hlb1⟩ := hlb
   obtain ⟨hmb0, hmb1⟩ := hmb
   obtain ⟨hub0, hub1⟩ := hub
   have HKL := hid (show (p.kinds.length : Int) ≤ 24 by have := HSN.out.lf.k2; omega)
   have hbb2 : f 1 ≤ 24 := by have := HKL.out; omega
   have hmn2 : (mn : Int) ≤ 16 := by omega
   have y2 := range_cell RK.out (k := 2) (v := .int .i64 (f 2)) (cf_at 6 _ 2 (by omega))
   have y3 := range_cell RK.out (k := 3) (v := .int .i64 (f 3)) (cf_at 6 _ 3 (by omega))
   have HUV := hid (show usV p j' = if frm p j' = true then f 3 else 0 by unfold usV; rw [Int.toNat_natCast, HGD.out, HF.out])
   have hB : ((mkB p j' : Nat) : Int) = f 1 + usV p j' := by unfold mkB; rw [Int.toNat_natCast, HGD.out, HF.out]; omega
   have HP := hid (show mkP p j' k mn t = { mkI p j' k (mkB p j') t mn with slots := (mkI p j' k (mkB p j') t mn).slots.set j' (upd f 3 (usV p j' + mn)) } by unfold mkP; rw [Int.toNat_natCast, Int.toNat_natCast, Int.toNat_natCast, HGD.out, HF.out])
   have HNL := hid (usd_not HUS.out hj' (by rw [HF.out]; omega))
   have HSL6 := hid (show ∀ i, i ≤ mn → ∀ (h : j' < (mkI p j' k (mkB p j') t i).slots.length), (mkI p j' k (mkB p j') t i).slots[j'] = f from fun i hi h => by
    have h1 := mkI_at p j' k (mkB p j') t j' i (by have := HNL.out; omega)
    rw [List.getElem?_eq_getElem h, List.getElem?_eq_getElem hj', HF.out] at h1
    exact Option.some.inj h1)
   have HFT := hid (fun i => mkI_fits HPF.out (j' : Int) k (mkB p j') t i)
   have HLN := hid (fun i => mkI_len p (j' : Int) k (mkB p j') t i)
   have HB1 := hid hB
   have HE1 := hid hE1
   have HKL2 := hid (show f 1 + f 2 ≤ (p.kinds.length : Int) from hbb1)
   clear hE1 hB hfc1 hbb1
   generalize mkB p j' = mb at *
   go_upto_region 17 with fail
   go_wp2_with fail
   refine (HAF.out _ B2.out).mono ?_
   rintro q w3 ⟨rfl, rfl⟩
   cases hfr : frm p j' with
   | true =>
    obtain ⟨us, hus⟩ : ∃ us, f 3 = us := ⟨_, rfl⟩
    have HUE := hid (show usV p j' = us by rw [HUV.out, hfr, if_pos rfl]; exact hus)
    rw [hus]
    clear hfr hus
    have HUB := hid (show 0 ≤ us ∧ us ≤ 100 by rw [← HUE.out]; exact ⟨hub0, hub1⟩)
    obtain ⟨hus0, hus1⟩ := HUB.out
    rw [HUE.out] at HE1 HB1 HP
    by_cases hfull : f 2 < us + (mn : Int)
    ·have HE := hid (show mkE p j' k mn t = 5 by rw [HE1.out, if_pos (by omega)])
     go_wp2_with fail
     go_ret
     exact ⟨by rw [HE.out]; rfl, tg, K2.out, fun h => by rw [HE.out] at h; cases h⟩
    have HE := hid (show mkE p j' k mn t = 0 by rw [HE1.out, if_neg (by omega)])
    have HBK := hid (show mb + mn ≤ p.kinds.length by have := HB1.out; have := HKL2.out; omega)
    have KW := hid (show Kt tg tg W W2 from .below BL2.out)
    go_upto_region 22 with fail
    clear y2 y3
    go_loopw [15] (fun i wr => ∃ (a : Nat), a ≤ mn ∧ i = .int .i64 a ∧ Hid (BoxT wr wb tg V (mkI p j' k mb t a)) ∧ Hid (Kt tg tg W wr) ∧ Hid (wr.rangeAt kb 0 (cf 6 f) ∧ wr.there kb 0 6)) (fun i _ => mn - (intOf i).toNat)
    case atStart => exact ⟨0, by omega, rfl, B2, KW, hid ⟨RK.out, TK.out⟩⟩
    case round =>
     obtain ⟨a, ha, rfl, HBX, HKT, HRT⟩ := hrel
     have HRG := hid HRT.out.1
     have HTG := hid HRT.out.2
     clear HRT KW
     by_cases hlt : a < mn
     ·have hlt2 : (a : Int) < (mn : Int) := by omega
      have y1 := range_cell HRG.out (k := 1) (v := .int .i64 (f 1)) (cf_at 6 _ 1 (by omega))
      obtain ⟨fr, hfr0⟩ : ∃ fr : Nat, mb + a = fr := ⟨_, rfl⟩
      have hfr : f 1 + us + (a : Int) = (fr : Int) := by have := HB1.out; omega
      have HFR := hid hfr0
      obtain ⟨ta, hta0⟩ : ∃ ta : Nat, t + a = ta := ⟨_, rfl⟩
      have HTA := hid hta0
      have hfk : fr < p.kinds.length := by have := HBK.out; omega
      have hfk2 : (fr : Int) < (p.kinds.length : Int) := by omega
      have e1 : V 1 = .slice (some ⟨g1, 0, none⟩) (mkI p j' k mb t a).kinds.length cap1 := by rw [(HLN.out a).1]; exact E1.out
      have c1 : wr.cell? ⟨wb, 1, none⟩ = some (.slice (some ⟨g1, 0, none⟩) p.kinds.length cap1) := by rw [range_cell HBX.out.r (k := 1) rfl, E1.out]
      have x1f := (HBX.out.kindsThere e1 fr 1 (by rw [(HLN.out a).1]; omega) 0 (by omega)).2
      rw [Nat.add_zero] at x1f
      obtain ⟨yk, x1a⟩ : ∃ y, wr.cell? ⟨g1, fr, none⟩ = some y := by
       have h1 := (HBX.out.kindsThere e1 fr 1 (by rw [(HLN.out a).1]; omega) 0 (by omega)).1
       rw [Nat.add_zero] at h1
       exact Option.isSome_iff_exists.1 h1
      obtain ⟨b3, k3⟩ := HBX.out.kindsCell e1 fr k
      have B3 := hid b3
      have K3 := hid (HKT.out.trans k3)
      have R3 := hid (show (wr.setCell ⟨g1, fr, none⟩ (.int .i64 k)).rangeAt kb 0 (cf 6 f) from fun o v hv => k3.cell (HRG.out o v hv) T4.out)
      have T3 := hid (k3.there HTG.out T4.out)
      clear b3 k3 e1 hfr0 hta0
      go_upto_region 27 with fail
      generalize World.setCell _ _ _ = W3 at *
      clear y1 c1 x1f x1a HBX HKT HRG HTG
      generalize wr = wr0 at *
      go_loopw [17] (fun i wr => ∃ (e : Nat), e ≤ 16 ∧ i = .int .i64 e ∧ Hid (BoxT wr wb tg V { mkI p j' k mb t a with kinds := (mkI p j' k mb t a).kinds.set fr k, ram := zr e (mkI p j' k mb t a).ram (fr * 16) }) ∧ Hid (Kt tg tg W wr) ∧ Hid (wr.rangeAt kb 0 (cf 6 f) ∧ wr.there kb 0 6)) (fun i _ => 16 - (intOf i).toNat)
      case atStart => exact ⟨0, by omega, rfl, hid (by rw [zr_zero]; exact B3.out), K3, hid ⟨R3.out, T3.out⟩⟩
      case round =>
       obtain ⟨e, he, rfl, HBX, HKT, HRT⟩ := hrel
       have HRG := hid HRT.out.1
       have HTG := hid HRT.out.2
       clear HRT B3 K3 R3 T3
       by_cases hlt3 : e < 16
       ·have hlt4 : (e : Int) < 16 := by omega
        obtain ⟨ix, hix0⟩ : ∃ ix : Nat, fr * 16 + e = ix := ⟨_, rfl⟩
        have hix : (fr : Int) * 16 + (e : Int) = (ix : Int) := by omega
        have HIX := hid hix0
        have hrl : p.ram.length = p.kinds.length * 16 := HRM.out
        have hixl : ix < p.ram.length := by omega
        have hixl2 : (ix : Int) < (p.ram.length : Int) := by omega
        obtain ⟨g0, cap0, e0⟩ := HBX.out.o.ram.form (by rw [zr_len, (HLN.out a).2.1]; omega)
        have e0' : V 0 = .slice (some ⟨g0, 0, none⟩) (zr e (mkI p j' k mb t a).ram (fr * 16)).length cap0 := e0
        rw [zr_len, (HLN.out a).2.1] at e0
        have c0 : wr.cell? ⟨wb, 0, none⟩ = some (.slice (some ⟨g0, 0, none⟩) p.ram.length cap0) := by rw [range_cell HBX.out.r (k := 0) rfl, e0]
        have hr1 : (p.ram.length : Int) ≤ 1000 := by have := HPF.out.ram; omega
        have x0f := (HBX.out.ramThere e0' ix 1 (by show ix + 1 ≤ (zr e (mkI p j' k mb t a).ram (fr * 16)).length; rw [zr_len, (HLN.out a).2.1]; omega) 0 (by omega)).2
        rw [Nat.add_zero] at x0f
        obtain ⟨yr, x0a⟩ : ∃ y, wr.cell? ⟨g0, ix, none⟩ = some y := by
         have h1 := (HBX.out.ramThere e0' ix 1 (by show ix + 1 ≤ (zr e (mkI p j' k mb t a).ram (fr * 16)).length; rw [zr_len, (HLN.out a).2.1]; omega) 0 (by omega)).1
         rw [Nat.add_zero] at h1
         exact Option.isSome_iff_exists.1 h1
        obtain ⟨b4, k4⟩ := HBX.out.ramCell e0' ix 0
        have B4 := hid (show BoxT (wr.setCell ⟨g0, ix, none⟩ (.int .i64 0)) wb tg V { mkI p j' k mb t a with kinds := (mkI p j' k mb t a).kinds.set fr k, ram := zr (e + 1) (mkI p j' k mb t a).ram (fr * 16) } by rw [zr_succ, HIX.out]; exact b4)
        have K4 := hid (HKT.out.trans k4)
        have R4 := hid (show (wr.setCell ⟨g0, ix, none⟩ (.int .i64 0)).rangeAt kb 0 (cf 6 f) from fun o v hv => k4.cell (HRG.out o v hv) T4.out)
        have TT4 := hid (k4.there HTG.out T4.out)
        clear b4 k4 e0 e0' hix0 hrl
        go_wp2_with fail
        exact ⟨⟨e + 1, by omega, by go_num, B4, K4, hid ⟨R4.out, TT4.out⟩⟩, by simp [intOf]; omega⟩
       ·obtain rfl : e = 16 := by omega
        have hge3 : ¬ ((16 : Int) < 16) := by omega
        have L5 := hid (show ({ mkI p j' k mb t a with kinds := (mkI p j' k mb t a).kinds.set fr k, ram := zr 16 (mkI p j' k mb t a).ram (fr * 16) } : PW).slots.length = p.slots.length from (HLN.out a).2.2)
        have he2 : V 2 = .slice (some ⟨g2, 0, none⟩) ({ mkI p j' k mb t a with kinds := (mkI p j' k mb t a).kinds.set fr k, ram := zr 16 (mkI p j' k mb t a).ram (fr * 16) } : PW).slots.length cap2 := by rw [L5.out]; exact E2.out
        have hta : ta < p.slots.length := by have := HTS.out; have := HTA.out; omega
        have hta2 : (ta : Int) < (p.slots.length : Int) := by omega
        have hta3 : (t : Int) + (a : Int) = (ta : Int) := by have := HTA.out; omega
        have c2 : wr.cell? ⟨wb, 2, none⟩ = some (.slice (some ⟨g2, 0, none⟩) p.slots.length cap2) := by rw [range_cell HBX.out.r (k := 2) rfl, E2.out]
        obtain ⟨h6, k6⟩ := HBX.out.slotsRow he2 (i := ta) (by rw [L5.out]; exact hta) (nsl k (fr : Int) j')
        have B6 := hid (show BoxT (wr.setCells g2 (ta * 7) (cf 7 (nsl k (fr : Int) j'))) wb tg V (mkI p j' k mb t (a + 1)) by
         show BoxT _ wb tg V (mk1 (mkI p j' k mb t a) j' k mb t a)
         unfold mk1
         rw [HFR.out, HTA.out]
         exact h6)
        have K6 := hid (HKT.out.trans k6)
        have R6 := hid (show (wr.setCells g2 (ta * 7) (cf 7 (nsl k (fr : Int) j'))).rangeAt kb 0 (cf 6 f) from fun o v hv => k6.cell (HRG.out o v hv) T4.out)
        have T6 := hid (k6.there HTG.out T4.out)
        have TH6 := hid (HBX.out.slotsThere he2 (ta * 7) 7 (by rw [L5.out]; omega))
        clear h6 k6 he2
        go_wp2_with (first | ((with_reducible (show wpList _ _ _ (⟨_, Op.store 117 _ _, _, _, _, _⟩ :: _) _ _)); refine wp_stS rfl _ _ rfl g2 (ta * 7) rfl (cf 7 (nsl k (fr : Int) j')) rfl (cf_len _ _) (cf_one _ _) TH6.out ?_))
        exact ⟨⟨a + 1, by omega, by go_num, B6, K6, hid ⟨R6.out, T6.out⟩⟩, by simp [intOf]; omega⟩
     ·obtain rfl : a = mn := by omega
      have hge2 : ¬ ((a : Int) < (a : Int)) := by omega
      have y3 := range_cell HRG.out (k := 3) (v := .int .i64 (f 3)) (cf_at 6 _ 3 (by omega))
      have f3 := (HTG.out 3 (by omega)).2
      rw [Nat.zero_add] at f3
      have R7 := hid (range_upd HRG.out (us + a))
      have B7 := hid (HBX.out.kp (T := fun x => x = kb) ((Kp.refl (fun x => x = kb) wr).setCell (b := kb) (o := 3) (.inl rfl) (.int .i64 (us + a))) (fun x _ e => by rw [e]; exact T4.out) (fun _ _ => rfl))
      have K7 := hid (HKT.out.setOut (b := kb) (o := 3) (by rw [HKB.out]; exact Nat.le_refl _) (.int .i64 (us + a)))
      go_upto_region 32 with fail
      generalize World.setCell _ _ _ = W7 at *
      clear y3 f3 HRG HTG HBX HKT
      obtain ⟨kf, hkf⟩ : ∃ kf, upd f 3 (us + (a : Int)) = kf := ⟨_, rfl⟩
      rw [hkf] at R7
      have L7 := hid (HLN.out a).2.2
      have he : V 2 = .slice (some ⟨g2, 0, none⟩) (mkI p j' k mb t a).slots.length cap2 := by rw [L7.out]; exact E2.out
      have hjl : j' < (mkI p j' k mb t a).slots.length := by rw [L7.out]; exact hj'
      have hsj := HSL6.out a (Nat.le_refl _) hjl
      have BD : Hid (BoxT W7.drew wb tg V (mkI p j' k mb t a)) := hid (B7.out.below (below_drew W7 1))
      have KD : Hid (Kt tg tg W W7.drew) := hid (K7.out.trans (.below (below_drew W7 1)))
      have RD : Hid (W7.drew.rangeAt kb 0 (cf 6 kf)) := hid (range_belowO R7.out (below_drew W7 1))
      obtain ⟨h8, k8⟩ := BD.out.slotsKey he hjl kf (by rw [hsj, ← hkf]; rfl) (fun x hx => by rw [hsj, ← hkf]; unfold upd; rw [if_neg (by omega)])
      have B8 := hid (show BoxT (W7.drew.setCells g2 (j' * 7) (cf 6 kf)) wb tg V (mkP p j' k a t) by rw [HP.out, hkf]; exact h8)
      have K8 := hid (KD.out.trans k8)
      have R8 := hid (show (W7.drew.setCells g2 (j' * 7) (cf 6 kf)).rangeAt kb 0 (cf 6 kf) from fun o v hv => k8.cell (RD.out o v hv) T4.out)
      have TH8 := hid (BD.out.slotsThere he (j' * 7) 6 (by rw [L7.out]; omega))
      have KS := hid (fun X q (h : BoxT X wb tg V q) (hr : X.rangeAt kb 0 (cf 6 kf)) => show X.cell? ⟨wb, 2, none⟩ = some (.slice (some ⟨g2, 0, none⟩) p.slots.length cap2) ∧ X.rangeAt kb 0 (cf 6 kf) from ⟨by rw [range_cell h.r (k := 2) rfl, E2.out], hr⟩)
      clear h8 k8 he hjl hsj hkf HP
      refine wp_region_held_drew (S := fun X => X.cell? ⟨wb, 2, none⟩ = some (.slice (some ⟨g2, 0, none⟩) p.slots.length cap2) ∧ X.rangeAt kb 0 (cf 6 kf)) (by kernel_rfl) (KS.out _ _ BD.out RD.out) (fun hH0 => ?_)
      have hH := hid hH0
      clear hH0
      refine tk 0 (.pointer (some ⟨wb, 0, none⟩)) rfl hH.out ?_
      simp only [jj]
      refine tk 1 (.pointer (some ⟨wb, 0, none⟩)) rfl hH.out ?_
      simp only [jj]
      refine tk 2 (.pointer (some ⟨wb, 2, none⟩)) rfl hH.out ?_
      simp only [jj]
      refine Mem.tg 3 (.slice (some ⟨g2, 0, none⟩) p.slots.length cap2) rfl (Or.inl ⟨by rfl, fun W h => by have h3 := h.1; clear h; go_simp⟩) hH.out ?_
      simp only [jj]
      refine tk 4 (.int .i64 j') rfl hH.out ?_
      simp only [jj]
      refine Mem.tg 5 (.agg (cf 6 kf).toArray) rfl (yieldsIf_load_mid (by rfl) _ _ rfl _ _ rfl (cf 6 kf) _ (fun _ h => h.2) Tryz.underlying115 rfl (by rw [info6k, cf_len])) hH.out ?_
      simp only [jj]
      refine tk 6 (.pointer (some ⟨g2, j' * 7, none⟩)) rfl hH.out ?_
      simp only [jj]
      refine tk 7 (.pointer (some ⟨g2, j' * 7, none⟩)) rfl hH.out ?_
      simp only [jj]
      refine wpAnyH_ready (rs := [8]) (by kernel_rfl) (by simp) (AllReadyH.cons rfl (fun K hK => ?_) AllReadyH.nil)
      refine wp_store_mid 115 _ _ rfl g2 (j' * 7) (cf 6 kf).toArray rfl rfl (by rw [List.size_toArray, cf_len]; exact TH8.out) (by rw [info6k]; rfl) (all_oneCell_toArray (cf_one 6 _)) ?_
      refine hK.out _ _ (KS.out _ _ B8.out R8.out) (fun _ => ?_)
      clear hK K hH
      try simp only [Act.put]
      refine wpAnyH_done (by kernel_rfl) ?_ _
      clear KS BD KD RD B7 K7 R7 TH8
      generalize World.setCells _ _ _ _ = W8 at *
      go_wp2_with fail
      go_ret
      exact ⟨by rw [HE.out]; rfl, tg, KR.out.trans K8.out, fun _ => ⟨V, B8.out⟩⟩
   | false =>
    obtain ⟨us, hus⟩ : ∃ us : Int, (0 : Int) = us := ⟨_, rfl⟩
    have HUE := hid (show usV p j' = us by rw [HUV.out, hfr, if_neg (by decide)]; exact hus)
    subst hus
    clear hfr
    rw [HUE.out] at HE1 HB1 HP
    rw [Int.sub_zero] at HE1
    rw [Int.add_zero] at HB1
    rw [Int.zero_add] at HP
    by_cases hfull : f 2 < (mn : Int)
    ·have HE := hid (show mkE p j' k mn t = 5 by rw [HE1.out, if_pos (by omega)])
     go_wp2_with fail
     go_ret
     exact ⟨by rw [HE.out]; rfl, tg, K2.out, fun h => by rw [HE.out] at h; cases h⟩
    have HE := hid (show mkE p j' k mn t = 0 by rw [HE1.out, if_neg (by omega)])
    have HBK := hid (show mb + mn ≤ p.kinds.length by have := HB1.out; have := HKL2.out; omega)
    have KW := hid (show Kt tg tg W W2 from .below BL2.out)
    go_upto_region 22 with fail
    clear y2 y3
    go_loopw [15] (fun i wr => ∃ (a : Nat), a ≤ mn ∧ i = .int .i64 a ∧ Hid (BoxT wr wb tg V (mkI p j' k mb t a)) ∧ Hid (Kt tg tg W wr) ∧ Hid (wr.rangeAt kb 0 (cf 6 f) ∧ wr.there kb 0 6)) (fun i _ => mn - (intOf i).toNat)
    case atStart => exact ⟨0, by omega, rfl, B2, KW, hid ⟨RK.out, TK.out⟩⟩
    case round =>
     obtain ⟨a, ha, rfl, HBX, HKT, HRT⟩ := hrel
     have HRG := hid HRT.out.1
     have HTG := hid HRT.out.2
     clear HRT KW
     by_cases hlt : a < mn
     ·have hlt2 : (a : Int) < (mn : Int) := by omega
      have y1 := range_cell HRG.out (k := 1) (v := .int .i64 (f 1)) (cf_at 6 _ 1 (by omega))
      obtain ⟨fr, hfr0⟩ : ∃ fr : Nat, mb + a = fr := ⟨_, rfl⟩
      have hfr : f 1 + (a : Int) = (fr : Int) := by have := HB1.out; omega
      have HFR := hid hfr0
      obtain ⟨ta, hta0⟩ : ∃ ta : Nat, t + a = ta := ⟨_, rfl⟩
      have HTA := hid hta0
      have hfk : fr < p.kinds.length := by have := HBK.out; omega
      have hfk2 : (fr : Int) < (p.kinds.length : Int) := by omega
      have e1 : V 1 = .slice (some ⟨g1, 0, none⟩) (mkI p j' k mb t a).kinds.length cap1 := by rw [(HLN.out a).1]; exact E1.out
      have c1 : wr.cell? ⟨wb, 1, none⟩ = some (.slice (some ⟨g1, 0, none⟩) p.kinds.length cap1) := by rw [range_cell HBX.out.r (k := 1) rfl, E1.out]
      have x1f := (HBX.out.kindsThere e1 fr 1 (by rw [(HLN.out a).1]; omega) 0 (by omega)).2
      rw [Nat.add_zero] at x1f
      obtain ⟨yk, x1a⟩ : ∃ y, wr.cell? ⟨g1, fr, none⟩ = some y := by
       have h1 := (HBX.out.kindsThere e1 fr 1 (by rw [(HLN.out a).1]; omega) 0 (by omega)).1
       rw [Nat.add_zero] at h1
       exact Option.isSome_iff_exists.1 h1
      obtain ⟨b3, k3⟩ := HBX.out.kindsCell e1 fr k
      have B3 := hid b3
      have K3 := hid (HKT.out.trans k3)
      have R3 := hid (show (wr.setCell ⟨g1, fr, none⟩ (.int .i64 k)).rangeAt kb 0 (cf 6 f) from fun o v hv => k3.cell (HRG.out o v hv) T4.out)
      have T3 := hid (k3.there HTG.out T4.out)
      clear b3 k3 e1 hfr0 hta0
      go_upto_region 27 with fail
      generalize World.setCell _ _ _ = W3 at *
      clear y1 c1 x1f x1a HBX HKT HRG HTG
      generalize wr = wr0 at *
      go_loopw [17] (fun i wr => ∃ (e : Nat), e ≤ 16 ∧ i = .int .i64 e ∧ Hid (BoxT wr wb tg V { mkI p j' k mb t a with kinds := (mkI p j' k mb t a).kinds.set fr k, ram := zr e (mkI p j' k mb t a).ram (fr * 16) }) ∧ Hid (Kt tg tg W wr) ∧ Hid (wr.rangeAt kb 0 (cf 6 f) ∧ wr.there kb 0 6)) (fun i _ => 16 - (intOf i).toNat)
      case atStart => exact ⟨0, by omega, rfl, hid (by rw [zr_zero]; exact B3.out), K3, hid ⟨R3.out, T3.out⟩⟩
      case round =>
       obtain ⟨e, he, rfl, HBX, HKT, HRT⟩ := hrel
       have HRG := hid HRT.out.1
       have HTG := hid HRT.out.2
       clear HRT B3 K3 R3 T3
       by_cases hlt3 : e < 16
       ·have hlt4 : (e : Int) < 16 := by omega
        obtain ⟨ix, hix0⟩ : ∃ ix : Nat, fr * 16 + e = ix := ⟨_, rfl⟩
        have hix : (fr : Int) * 16 + (e : Int) = (ix : Int) := by omega
        have HIX := hid hix0
        have hrl : p.ram.length = p.kinds.length * 16 := HRM.out
        have hixl : ix < p.ram.length := by omega
        have hixl2 : (ix : Int) < (p.ram.length : Int) := by omega
        obtain ⟨g0, cap0, e0⟩ := HBX.out.o.ram.form (by rw [zr_len, (HLN.out a).2.1]; omega)
        have e0' : V 0 = .slice (some ⟨g0, 0, none⟩) (zr e (mkI p j' k mb t a).ram (fr * 16)).length cap0 := e0
        rw [zr_len, (HLN.out a).2.1] at e0
        have c0 : wr.cell? ⟨wb, 0, none⟩ = some (.slice (some ⟨g0, 0, none⟩) p.ram.length cap0) := by rw [range_cell HBX.out.r (k := 0) rfl, e0]
        have hr1 : (p.ram.length : Int) ≤ 1000 := by have := HPF.out.ram; omega
        have x0f := (HBX.out.ramThere e0' ix 1 (by show ix + 1 ≤ (zr e (mkI p j' k mb t a).ram (fr * 16)).length; rw [zr_len, (HLN.out a).2.1]; omega) 0 (by omega)).2
        rw [Nat.add_zero] at x0f
        obtain ⟨yr, x0a⟩ : ∃ y, wr.cell? ⟨g0, ix, none⟩ = some y := by
         have h1 := (HBX.out.ramThere e0' ix 1 (by show ix + 1 ≤ (zr e (mkI p j' k mb t a).ram (fr * 16)).length; rw [zr_len, (HLN.out a).2.1]; omega) 0 (by omega)).1
         rw [Nat.add_zero] at h1
         exact Option.isSome_iff_exists.1 h1
        obtain ⟨b4, k4⟩ := HBX.out.ramCell e0' ix 0
        have B4 := hid (show BoxT (wr.setCell ⟨g0, ix, none⟩ (.int .i64 0)) wb tg V { mkI p j' k mb t a with kinds := (mkI p j' k mb t a).kinds.set fr k, ram := zr (e + 1) (mkI p j' k mb t a).ram (fr * 16) } by rw [zr_succ, HIX.out]; exact b4)
        have K4 := hid (HKT.out.trans k4)
        have R4 := hid (show (wr.setCell ⟨g0, ix, none⟩ (.int .i64 0)).rangeAt kb 0 (cf 6 f) from fun o v hv => k4.cell (HRG.out o v hv) T4.out)
        have TT4 := hid (k4.there HTG.out T4.out)
        clear b4 k4 e0 e0' hix0 hrl
        go_wp2_with fail
        exact ⟨⟨e + 1, by omega, by go_num, B4, K4, hid ⟨R4.out, TT4.out⟩⟩, by simp [intOf]; omega⟩
       ·obtain rfl : e = 16 := by omega
        have hge3 : ¬ ((16 : Int) < 16) := by omega
        have L5 := hid (show ({ mkI p j' k mb t a with kinds := (mkI p j' k mb t a).kinds.set fr k, ram := zr 16 (mkI p j' k mb t a).ram (fr * 16) } : PW).slots.length = p.slots.length from (HLN.out a).2.2)
        have he2 : V 2 = .slice (some ⟨g2, 0, none⟩) ({ mkI p j' k mb t a with kinds := (mkI p j' k mb t a).kinds.set fr k, ram := zr 16 (mkI p j' k mb t a).ram (fr * 16) } : PW).slots.length cap2 := by rw [L5.out]; exact E2.out
        have hta : ta < p.slots.length := by have := HTS.out; have := HTA.out; omega
        have hta2 : (ta : Int) < (p.slots.length : Int) := by omega
        have hta3 : (t : Int) + (a : Int) = (ta : Int) := by have := HTA.out; omega
        have c2 : wr.cell? ⟨wb, 2, none⟩ = some (.slice (some ⟨g2, 0, none⟩) p.slots.length cap2) := by rw [range_cell HBX.out.r (k := 2) rfl, E2.out]
        obtain ⟨h6, k6⟩ := HBX.out.slotsRow he2 (i := ta) (by rw [L5.out]; exact hta) (nsl k (fr : Int) j')
        have B6 := hid (show BoxT (wr.setCells g2 (ta * 7) (cf 7 (nsl k (fr : Int) j'))) wb tg V (mkI p j' k mb t (a + 1)) by
         show BoxT _ wb tg V (mk1 (mkI p j' k mb t a) j' k mb t a)
         unfold mk1
         rw [HFR.out, HTA.out]
         exact h6)
        have K6 := hid (HKT.out.trans k6)
        have R6 := hid (show (wr.setCells g2 (ta * 7) (cf 7 (nsl k (fr : Int) j'))).rangeAt kb 0 (cf 6 f) from fun o v hv => k6.cell (HRG.out o v hv) T4.out)
        have T6 := hid (k6.there HTG.out T4.out)
        have TH6 := hid (HBX.out.slotsThere he2 (ta * 7) 7 (by rw [L5.out]; omega))
        clear h6 k6 he2
        go_wp2_with (first | ((with_reducible (show wpList _ _ _ (⟨_, Op.store 117 _ _, _, _, _, _⟩ :: _) _ _)); refine wp_stS rfl _ _ rfl g2 (ta * 7) rfl (cf 7 (nsl k (fr : Int) j')) rfl (cf_len _ _) (cf_one _ _) TH6.out ?_))
        exact ⟨⟨a + 1, by omega, by go_num, B6, K6, hid ⟨R6.out, T6.out⟩⟩, by simp [intOf]; omega⟩
     ·obtain rfl : a = mn := by omega
      have hge2 : ¬ ((a : Int) < (a : Int)) := by omega
      have y3 := range_cell HRG.out (k := 3) (v := .int .i64 (f 3)) (cf_at 6 _ 3 (by omega))
      have f3 := (HTG.out 3 (by omega)).2
      rw [Nat.zero_add] at f3
      have R7 := hid (range_upd HRG.out (a : Int))
      have B7 := hid (HBX.out.kp (T := fun x => x = kb) ((Kp.refl (fun x => x = kb) wr).setCell (b := kb) (o := 3) (.inl rfl) (.int .i64 (a : Int))) (fun x _ e => by rw [e]; exact T4.out) (fun _ _ => rfl))
      have K7 := hid (HKT.out.setOut (b := kb) (o := 3) (by rw [HKB.out]; exact Nat.le_refl _) (.int .i64 (a : Int)))
      go_upto_region 32 with fail
      generalize World.setCell _ _ _ = W7 at *
      clear y3 f3 HRG HTG HBX HKT
      obtain ⟨kf, hkf⟩ : ∃ kf, upd f 3 ((a : Int)) = kf := ⟨_, rfl⟩
      rw [hkf] at R7
      have L7 := hid (HLN.out a).2.2
      have he : V 2 = .slice (some ⟨g2, 0, none⟩) (mkI p j' k mb t a).slots.length cap2 := by rw [L7.out]; exact E2.out
      have hjl : j' < (mkI p j' k mb t a).slots.length := by rw [L7.out]; exact hj'
      have hsj := HSL6.out a (Nat.le_refl _) hjl
      have BD : Hid (BoxT W7.drew wb tg V (mkI p j' k mb t a)) := hid (B7.out.below (below_drew W7 1))
      have KD : Hid (Kt tg tg W W7.drew) := hid (K7.out.trans (.below (below_drew W7 1)))
      have RD : Hid (W7.drew.rangeAt kb 0 (cf 6 kf)) := hid (range_belowO R7.out (below_drew W7 1))
      obtain ⟨h8, k8⟩ := BD.out.slotsKey he hjl kf (by rw [hsj, ← hkf]; rfl) (fun x hx => by rw [hsj, ← hkf]; unfold upd; rw [if_neg (by omega)])
      have B8 := hid (show BoxT (W7.drew.setCells g2 (j' * 7) (cf 6 kf)) wb tg V (mkP p j' k a t) by rw [HP.out, hkf]; exact h8)
      have K8 := hid (KD.out.trans k8)
      have R8 := hid (show (W7.drew.setCells g2 (j' * 7) (cf 6 kf)).rangeAt kb 0 (cf 6 kf) from fun o v hv => k8.cell (RD.out o v hv) T4.out)
      have TH8 := hid (BD.out.slotsThere he (j' * 7) 6 (by rw [L7.out]; omega))
      have KS := hid (fun X q (h : BoxT X wb tg V q) (hr : X.rangeAt kb 0 (cf 6 kf)) => show X.cell? ⟨wb, 2, none⟩ = some (.slice (some ⟨g2, 0, none⟩) p.slots.length cap2) ∧ X.rangeAt kb 0 (cf 6 kf) from ⟨by rw [range_cell h.r (k := 2) rfl, E2.out], hr⟩)
      clear h8 k8 he hjl hsj hkf HP
      refine wp_region_held_drew (S := fun X => X.cell? ⟨wb, 2, none⟩ = some (.slice (some ⟨g2, 0, none⟩) p.slots.length cap2) ∧ X.rangeAt kb 0 (cf 6 kf)) (by kernel_rfl) (KS.out _ _ BD.out RD.out) (fun hH0 => ?_)
      have hH := hid hH0
      clear hH0
      refine tk 0 (.pointer (some ⟨wb, 0, none⟩)) rfl hH.out ?_
      simp only [jj]
      refine tk 1 (.pointer (some ⟨wb, 0, none⟩)) rfl hH.out ?_
      simp only [jj]
      refine tk 2 (.pointer (some ⟨wb, 2, none⟩)) rfl hH.out ?_
      simp only [jj]
      refine Mem.tg 3 (.slice (some ⟨g2, 0, none⟩) p.slots.length cap2) rfl (Or.inl ⟨by rfl, fun W h => by have h3 := h.1; clear h; go_simp⟩) hH.out ?_
      simp only [jj]
      refine tk 4 (.int .i64 j') rfl hH.out ?_
      simp only [jj]
      refine Mem.tg 5 (.agg (cf 6 kf).toArray) rfl (yieldsIf_load_mid (by rfl) _ _ rfl _ _ rfl (cf 6 kf) _ (fun _ h => h.2) Tryz.underlying115 rfl (by rw [info6k, cf_len])) hH.out ?_
      simp only [jj]
      refine tk 6 (.pointer (some ⟨g2, j' * 7, none⟩)) rfl hH.out ?_
      simp only [jj]
      refine tk 7 (.pointer (some ⟨g2, j' * 7, none⟩)) rfl hH.out ?_
      simp only [jj]
      refine wpAnyH_ready (rs := [8]) (by kernel_rfl) (by simp) (AllReadyH.cons rfl (fun K hK => ?_) AllReadyH.nil)
      refine wp_store_mid 115 _ _ rfl g2 (j' * 7) (cf 6 kf).toArray rfl rfl (by rw [List.size_toArray, cf_len]; exact TH8.out) (by rw [info6k]; rfl) (all_oneCell_toArray (cf_one 6 _)) ?_
      refine hK.out _ _ (KS.out _ _ B8.out R8.out) (fun _ => ?_)
      clear hK K hH
      try simp only [Act.put]
      refine wpAnyH_done (by kernel_rfl) ?_ _
      clear KS BD KD RD B7 K7 R7 TH8
      generalize World.setCells _ _ _ _ = W8 at *
      go_wp2_with fail
      go_ret
      exact ⟨by rw [HE.out]; rfl, tg, KR.out.trans K8.out, fun _ => ⟨V, B8.out⟩⟩
end Go.Proofs.YtakmaeohhclngaaGreatDoor.Wd
