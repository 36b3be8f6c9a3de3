/- What clay.Make does; clay.Room, keyholdref.RoomOf and keyholdlaw.ClayMakes, walked. (Written by mk_clay2.py, mk_claylaw.py.) -/
import Derived.Deep.RegionHeld3
import Derived.Test.YtkocmkaeaagbaaaGreatDoorQaq
import Derived.Test.YtkocmkaeaagbaaaGreatDoorQba
import Derived.Test.YtkocmkaeaagbaaaGreatDoorQap
namespace Go.Proofs.YtkocmkaeaagbaaaGreatDoor.Wd
open Go.RowKit Go.Proofs.YtkocmkaeaagbaaaGreatDoor.Mem Go.Proofs.YtkocmkaeaagbaaaGreatDoor.Bw Go.Proofs.YtkocmkaeaagbaaaGreatDoor.Nums Go.Proofs.YtkocmkaeaagbaaaGreatDoor.Mmu
set_option maxRecDepth 100000 in
set_option maxHeartbeats 1500000 in
theorem make_deed (c1 c2 c3 c4 : Nat) (n k m t0 : Int) (p : PW) (hp : p.Fits) (hl : ∀ l ∈ p.tlbs, l.length ≤ 100) (hs : Snd p) : DeedT 161 #[ptr c1, ptr c2, ptr c3, ptr c4] (CapsT [(c2, .int .i64 n), (c3, .int .i64 k), (c4, .int .i64 m), (c1, .int .i64 t0)]) eV p (mkP p n k m t0) (mkE p n k m t0) := by
 intro W wb tag V bt0 hc0
 obtain ⟨bt, kr⟩ := retagC bt0
 have hc := hc0.kt kr
 have KR := hid kr
 have T0 := hid (fun x (h : W.heap.size ≤ x) => show tagC tag W.heap.size x = 0 from if_neg (by omega))
 generalize tagC tag W.heap.size = tg at *
 clear bt0 hc0 kr
 have x1 := (hc (c1, .int .i64 t0) (by simp)).1
 have HC := hid hc
 have HSL := hid (pisSlot_any wb V p t0 W (bt.view hp hl))
 have B0 := hid bt
 unfold ptr
 simp only [List.append_toArray, List.cons_append, List.nil_append]
 cases hst : slotB p t0 with
 | false =>
  have HE := hid (show mkE p n k m t0 = 2 by unfold mkE; rw [hst, if_neg (by decide)])
  rw [HE.out]
  rw [hst] at HSL
  clear bt hc hp hl hs hst HE
  go_enter Tryz.func161, Tryz.ntmps161
  go_wp2_with fail
  refine HSL.out.mono ?_
  rintro q w1 ⟨rfl, rfl⟩
  go_wp2_with fail
  go_ret
  exact ⟨rfl, tg, KR.out, fun h => by cases h⟩
 | true =>
 rw [hst] at HSL
 obtain ⟨t, rfl, ht⟩ := slotB_in hst
 have hE0 : mkE p n k m t = if clE p n = 0 then (if within 2 8 k = true then (if fcE p t m = 0 then (if (p.slots.getD n.toNat nkey) 2 - usV p n < m then 5 else 0) else fcE p t m) else 3) else clE p n := by unfold mkE; rw [hst, if_pos rfl, Int.toNat_natCast]
 have HFD := hid (fun X (h : Below W.heap.size W X) => findC_any wb V p n X ((bt.below h).view hp hl))
 obtain ⟨g2, cap2, e2⟩ := bt.o.slots.form (by omega)
 have E2 := hid e2
 have HFC := hid (fun X (h : Below W.heap.size W X) => freeC_any wb V p t m X ((bt.below h).view hp hl) hs.lf.slots (fun q a c e => by rw [e2] at e; cases e; exact bt.slotsCap e2) ht)
 have HWK := hid (fun X => withinB k 2 8 X)
 have HKF := hid (show kv (fdK p n) = (cf 6 (fdK p n)).toArray from rfl)
 rw [HKF.out] at HFD
 have HONE := hid (cf_one 6 (fdK p n))
 by_cases hcl : clE p n = 0
 rotate_left
 ·rw [hE0, if_neg hcl]
  rw [eV_n hcl] at HFD ⊢
  have HN := hid hcl
  generalize clE p n = x at HFD HN ⊢
  clear hcl hE0 bt hc hp hl hs hst ht HFC HWK e2 E2 B0 HKF
  go_enter Tryz.func161, Tryz.ntmps161
  go_wp2_with fail
  refine HSL.out.mono ?_
  rintro q w0 ⟨rfl, rfl⟩
  clear x1 HSL
  have z2 := (HC.out (c2, .int .i64 n) (by simp)).1
  go_wp2_with fail
  refine (HFD.out _ (Below.refl _ _)).mono ?_
  rintro q w1 ⟨rfl, hb⟩
  have BL1 := hid hb
  have TH := hid (there_new w1 #[.int .i64 0, .int .i64 0, .int .i64 0, .int .i64 0, .int .i64 0, .int .i64 0] 43 w1.heap.size 6 rfl (by decide))
  have BL2 := hid (show Below W.heap.size W ((w1.alloc (.cells #[.int .i64 0, .int .i64 0, .int .i64 0, .int .i64 0, .int .i64 0, .int .i64 0] 43)).setCells w1.heap.size 0 (cf 6 (fdK p n))) from below_setCells (bal hb (.cells #[.int .i64 0, .int .i64 0, .int .i64 0, .int .i64 0, .int .i64 0, .int .i64 0] 43)) hb.size _ 0)
  have RK := hid (World.rangeAt_setCells_same (w1.alloc (.cells #[.int .i64 0, .int .i64 0, .int .i64 0, .int .i64 0, .int .i64 0, .int .i64 0] 43)) w1.heap.size 0 (cf 6 (fdK p n)) (by rw [cf_len]; exact TH.out))
  have HKB := hid hb.size
  have TK := hid (there_sets (cf 6 (fdK p n)) 0 (w1.alloc (.cells #[.int .i64 0, .int .i64 0, .int .i64 0, .int .i64 0, .int .i64 0, .int .i64 0] 43)) (B := w1.heap.size) TH.out)
  clear hb z2 HFD
  go_upto_region 4 with (first | ((with_reducible (show wpList _ _ _ (⟨_, Op.store 43 _ _, _, _, _, _⟩ :: _) _ _)); refine wp_stK rfl _ _ rfl w1.heap.size 0 rfl (cf 6 (fdK p n)) rfl (cf_len _ _) HONE.out TH.out ?_))
  generalize World.setCells _ _ _ _ = W2 at *
  generalize w1.heap.size = kb at *
  clear TH BL1
  go_wp2_with fail
  go_ret
  exact ⟨rfl, tg, KR.out.trans (.below BL2.out), fun h => absurd h HN.out⟩
 rw [hcl, eV_0] at HFD
 rw [if_pos hcl] at hE0
 cases hwk : within 2 8 k with
 | false =>
  rw [hE0, hwk, if_neg (by decide)]
  rw [hwk] at HWK
  clear hcl hE0 bt hc hp hl hs hst ht HFC e2 E2 B0 hwk HKF
  go_enter Tryz.func161, Tryz.ntmps161
  go_wp2_with fail
  refine HSL.out.mono ?_
  rintro q w0 ⟨rfl, rfl⟩
  clear x1 HSL
  have z2 := (HC.out (c2, .int .i64 n) (by simp)).1
  go_wp2_with fail
  refine (HFD.out _ (Below.refl _ _)).mono ?_
  rintro q w1 ⟨rfl, hb⟩
  have BL1 := hid hb
  have TH := hid (there_new w1 #[.int .i64 0, .int .i64 0, .int .i64 0, .int .i64 0, .int .i64 0, .int .i64 0] 43 w1.heap.size 6 rfl (by decide))
  have BL2 := hid (show Below W.heap.size W ((w1.alloc (.cells #[.int .i64 0, .int .i64 0, .int .i64 0, .int .i64 0, .int .i64 0, .int .i64 0] 43)).setCells w1.heap.size 0 (cf 6 (fdK p n))) from below_setCells (bal hb (.cells #[.int .i64 0, .int .i64 0, .int .i64 0, .int .i64 0, .int .i64 0, .int .i64 0] 43)) hb.size _ 0)
  have RK := hid (World.rangeAt_setCells_same (w1.alloc (.cells #[.int .i64 0, .int .i64 0, .int .i64 0, .int .i64 0, .int .i64 0, .int .i64 0] 43)) w1.heap.size 0 (cf 6 (fdK p n)) (by rw [cf_len]; exact TH.out))
  have HKB := hid hb.size
  have TK := hid (there_sets (cf 6 (fdK p n)) 0 (w1.alloc (.cells #[.int .i64 0, .int .i64 0, .int .i64 0, .int .i64 0, .int .i64 0, .int .i64 0] 43)) (B := w1.heap.size) TH.out)
  clear hb z2 HFD
  go_upto_region 4 with (first | ((with_reducible (show wpList _ _ _ (⟨_, Op.store 43 _ _, _, _, _, _⟩ :: _) _ _)); refine wp_stK rfl _ _ rfl w1.heap.size 0 rfl (cf 6 (fdK p n)) rfl (cf_len _ _) HONE.out TH.out ?_))
  generalize World.setCells _ _ _ _ = W2 at *
  generalize w1.heap.size = kb at *
  clear TH BL1
  have K2 := hid (show Kt tg tg W W2 from .below BL2.out)
  have z3 := (HC.out.kt K2.out (c3, .int .i64 k) (by simp)).1
  go_wp2_with fail
  refine (HWK.out _).mono ?_
  rintro q w3 ⟨rfl, rfl⟩
  go_wp2_with fail
  go_ret
  exact ⟨rfl, tg, KR.out.trans K2.out, fun h => by cases h⟩
 | true =>
 rw [hwk, if_pos rfl] at hE0
 rw [hwk] at HWK
 by_cases hfc : fcE p t m = 0
 rotate_left
 ·rw [hE0, if_neg hfc]
  rw [eV_n hfc] at HFC ⊢
  have HN := hid hfc
  generalize fcE p t m = x at HFC HN ⊢
  clear hcl hE0 bt hc hp hl hs hst ht hfc e2 E2 B0 hwk HKF
  go_enter Tryz.func161, Tryz.ntmps161
  go_wp2_with fail
  refine HSL.out.mono ?_
  rintro q w0 ⟨rfl, rfl⟩
  clear x1 HSL
  have z2 := (HC.out (c2, .int .i64 n) (by simp)).1
  go_wp2_with fail
  refine (HFD.out _ (Below.refl _ _)).mono ?_
  rintro q w1 ⟨rfl, hb⟩
  have BL1 := hid hb
  have TH := hid (there_new w1 #[.int .i64 0, .int .i64 0, .int .i64 0, .int .i64 0, .int .i64 0, .int .i64 0] 43 w1.heap.size 6 rfl (by decide))
  have BL2 := hid (show Below W.heap.size W ((w1.alloc (.cells #[.int .i64 0, .int .i64 0, .int .i64 0, .int .i64 0, .int .i64 0, .int .i64 0] 43)).setCells w1.heap.size 0 (cf 6 (fdK p n))) from below_setCells (bal hb (.cells #[.int .i64 0, .int .i64 0, .int .i64 0, .int .i64 0, .int .i64 0, .int .i64 0] 43)) hb.size _ 0)
  have RK := hid (World.rangeAt_setCells_same (w1.alloc (.cells #[.int .i64 0, .int .i64 0, .int .i64 0, .int .i64 0, .int .i64 0, .int .i64 0] 43)) w1.heap.size 0 (cf 6 (fdK p n)) (by rw [cf_len]; exact TH.out))
  have HKB := hid hb.size
  have TK := hid (there_sets (cf 6 (fdK p n)) 0 (w1.alloc (.cells #[.int .i64 0, .int .i64 0, .int .i64 0, .int .i64 0, .int .i64 0, .int .i64 0] 43)) (B := w1.heap.size) TH.out)
  clear hb z2 HFD
  go_upto_region 4 with (first | ((with_reducible (show wpList _ _ _ (⟨_, Op.store 43 _ _, _, _, _, _⟩ :: _) _ _)); refine wp_stK rfl _ _ rfl w1.heap.size 0 rfl (cf 6 (fdK p n)) rfl (cf_len _ _) HONE.out TH.out ?_))
  generalize World.setCells _ _ _ _ = W2 at *
  generalize w1.heap.size = kb at *
  clear TH BL1
  have K2 := hid (show Kt tg tg W W2 from .below BL2.out)
  have z3 := (HC.out.kt K2.out (c3, .int .i64 k) (by simp)).1
  go_wp2_with fail
  refine (HWK.out _).mono ?_
  rintro q w3 ⟨rfl, rfl⟩
  clear z3
  have z1 := (HC.out.kt K2.out (c1, .int .i64 t) (by simp)).1
  have z4 := (HC.out.kt K2.out (c4, .int .i64 m) (by simp)).1
  go_wp2_with fail
  refine (HFC.out _ BL2.out).mono ?_
  rintro q w3 ⟨rfl, hb⟩
  have BL3 := hid (btr BL2.out hb)
  have RK3 := hid (range_belowO RK.out hb)
  have TK3 := hid (there_belowO TK.out hb)
  clear hb z1 z4 HFC K2 BL2 RK TK
  have K3 := hid (show Kt tg tg W w3 from .below BL3.out)
  go_wp2_with fail
  go_ret
  exact ⟨rfl, tg, KR.out.trans K3.out, fun h => absurd h HN.out⟩
 rw [hfc, eV_0] at HFC
 rw [if_pos hfc] at hE0
 obtain ⟨j, hj, rfl, hs0, hgd, ⟨hb0, hb1⟩, ⟨hl0, hl1⟩, ⟨hm0, hm1⟩, hu0, hu1⟩ := clay_in hs hcl
 obtain ⟨f, hf⟩ : ∃ f, p.slots[j] = f := ⟨_, rfl⟩
 rw [hf] at hs0 hgd hb0 hb1 hl0 hl1 hm0 hm1
 obtain ⟨mn, rfl, hm, hm16, hus, h5⟩ := fc_in hfc
 rw [Int.toNat_natCast, hgd] at hE0
 have hfd : fdK p j = upd f 3 (usV p j) := by unfold fdK; rw [if_pos hcl, Int.toNat_natCast, hgd]
 have HNL := hid (usd_not hus hj (by rw [hf]; omega))
 have hP : mkP p j k mn t = { mkI p j k (mkB p j) t mn with slots := (mkI p j k (mkB p j) t mn).slots.set j (upd f 3 (usV p j + mn)) } := by unfold mkP; rw [Int.toNat_natCast, Int.toNat_natCast, Int.toNat_natCast, hgd]
 have hB : ((mkB p j : Nat) : Int) = f 1 + usV p j := by unfold mkB; rw [Int.toNat_natCast, hgd]; omega
 have HLF := hid (left_any (fdK p j) · (by rw [hfd]; exact ⟨hl0, by show f 2 ≤ 1000; omega⟩) (by rw [hfd]; exact ⟨hu0, by show usV p j ≤ 1000; omega⟩))
 have hk2 : fdK p j 2 = f 2 := by rw [hfd]; rfl
 have hk3 : fdK p j 3 = usV p j := by rw [hfd]; rfl
 have hk1 : fdK p j 1 = f 1 := by rw [hfd]; rfl
 by_cases hfull : f 2 - usV p j < mn
 ·rw [hE0, if_pos hfull]
  have hfl : fdK p j 2 - fdK p j 3 < mn := by rw [hk2, hk3]; exact hfull
  clear hcl hE0 bt hc hp hl hs hst ht hfc e2 E2 B0 hwk HKF hf hs0 hgd hb0 hb1 hl0 hl1 hm0 hm1 hu0 hu1 hm hm16 hus h5 hfd HNL hP hB hk1 hk2 hk3 hfull
  go_enter Tryz.func161, Tryz.ntmps161
  go_wp2_with fail
  refine HSL.out.mono ?_
  rintro q w0 ⟨rfl, rfl⟩
  clear x1 HSL
  have z2 := (HC.out (c2, .int .i64 j) (by simp)).1
  go_wp2_with fail
  refine (HFD.out _ (Below.refl _ _)).mono ?_
  rintro q w1 ⟨rfl, hb⟩
  have BL1 := hid hb
  have TH := hid (there_new w1 #[.int .i64 0, .int .i64 0, .int .i64 0, .int .i64 0, .int .i64 0, .int .i64 0] 43 w1.heap.size 6 rfl (by decide))
  have BL2 := hid (show Below W.heap.size W ((w1.alloc (.cells #[.int .i64 0, .int .i64 0, .int .i64 0, .int .i64 0, .int .i64 0, .int .i64 0] 43)).setCells w1.heap.size 0 (cf 6 (fdK p j))) from below_setCells (bal hb (.cells #[.int .i64 0, .int .i64 0, .int .i64 0, .int .i64 0, .int .i64 0, .int .i64 0] 43)) hb.size _ 0)
  have RK := hid (World.rangeAt_setCells_same (w1.alloc (.cells #[.int .i64 0, .int .i64 0, .int .i64 0, .int .i64 0, .int .i64 0, .int .i64 0] 43)) w1.heap.size 0 (cf 6 (fdK p j)) (by rw [cf_len]; exact TH.out))
  have HKB := hid hb.size
  have TK := hid (there_sets (cf 6 (fdK p j)) 0 (w1.alloc (.cells #[.int .i64 0, .int .i64 0, .int .i64 0, .int .i64 0, .int .i64 0, .int .i64 0] 43)) (B := w1.heap.size) TH.out)
  clear hb z2 HFD
  go_upto_region 4 with (first | ((with_reducible (show wpList _ _ _ (⟨_, Op.store 43 _ _, _, _, _, _⟩ :: _) _ _)); refine wp_stK rfl _ _ rfl w1.heap.size 0 rfl (cf 6 (fdK p j)) rfl (cf_len _ _) HONE.out TH.out ?_))
  generalize World.setCells _ _ _ _ = W2 at *
  generalize w1.heap.size = kb at *
  clear TH BL1
  have K2 := hid (show Kt tg tg W W2 from .below BL2.out)
  have z3 := (HC.out.kt K2.out (c3, .int .i64 k) (by simp)).1
  go_wp2_with fail
  refine (HWK.out _).mono ?_
  rintro q w3 ⟨rfl, rfl⟩
  clear z3
  have z1 := (HC.out.kt K2.out (c1, .int .i64 t) (by simp)).1
  have z4 := (HC.out.kt K2.out (c4, .int .i64 mn) (by simp)).1
  go_wp2_with fail
  refine (HFC.out _ BL2.out).mono ?_
  rintro q w3 ⟨rfl, hb⟩
  have BL3 := hid (btr BL2.out hb)
  have RK3 := hid (range_belowO RK.out hb)
  have TK3 := hid (there_belowO TK.out hb)
  clear hb z1 z4 HFC K2 BL2 RK TK
  have K3 := hid (show Kt tg tg W w3 from .below BL3.out)
  go_upto_region 11 with fail
  have BD : Hid (Below w3.heap.size w3 w3.drew) := hid (below_drew w3 1)
  have KSL := hid (fun X (h : Below w3.heap.size w3 X) => show X.cell? ⟨c4, 0, none⟩ = some (.int .i64 mn) ∧ X.rangeAt kb 0 (cf 6 (fdK p j)) from ⟨(HC.out.kt (K3.out.trans (.below h)) (c4, .int .i64 mn) (by simp)).1, range_belowO RK3.out h⟩)
  refine wp_region_held_drew (S := fun X => X.cell? ⟨c4, 0, none⟩ = some (.int .i64 mn) ∧ X.rangeAt kb 0 (cf 6 (fdK p j))) (by kernel_rfl) (KSL.out _ BD.out) (fun hH0 => ?_)
  have hH := hid hH0
  clear hH0
  refine Mem.tg 0 (.int .i64 mn) rfl (Or.inl ⟨by rfl, fun W h => by have h3 := h.1; clear h; go_simp⟩) hH.out ?_
  simp only [jj]
  refine Mem.tg 1 (.agg (cf 6 (fdK p j)).toArray) rfl (yieldsIf_load_mid (by rfl) _ _ rfl _ _ rfl (cf 6 (fdK p j)) _ (fun _ h => h.2) Tryz.underlying43 rfl (by rw [info6k, cf_len])) hH.out ?_
  simp only [jj]
  refine wpAnyH_ready (rs := [2]) (by kernel_rfl) (by simp) (AllReadyH.cons rfl (fun K hK => ?_) AllReadyH.nil)
  go_simp
  refine (HLF.out _).mono ?_
  rintro q w4 ⟨rfl, hb⟩
  have A4 := hid (btr BD.out hb)
  clear hb
  go_wp2_with fail
  refine hK.out _ _ (KSL.out _ A4.out) (fun hH0 => ?_)
  have hH2 := hid hH0
  clear hK K hH0
  try simp only [Act.put, jD, jE, jF]
  refine tk 3 (.bool (decide (fdK p j 2 - fdK p j 3 < mn))) rfl hH2.out ?_
  simp only [jj]
  refine wpAnyH_done (by kernel_rfl) ?_ _
  have BL4 := hid (btr BL3.out A4.out)
  have K4 := hid (K3.out.trans (.below A4.out))
  have RK4 := hid (range_belowO RK3.out A4.out)
  have TK4 := hid (there_belowO TK3.out A4.out)
  clear hH hH2 KSL BD A4 HLF RK3 K3 BL3 TK3
  go_wp2_with fail
  go_ret
  exact ⟨rfl, tg, KR.out.trans K4.out, fun h => by cases h⟩
 rw [hE0, if_neg hfull, eV_0]
 have hfl : ¬ (fdK p j 2 - fdK p j 3 < mn) := by rw [hk2, hk3]; exact hfull
 have HBK := hid (show mkB p j + mn ≤ p.kinds.length by omega)
 have HTS := hid (show t + mn ≤ p.slots.length by have := hs.lf.slots; omega)
 have HRM := hid hs.lf.ram
 have HSH := hid (fun X q f (h : BoxT X wb tg V q) (h1 : q.Fits) (h2 : f < q.kinds.length) (h3 : q.ram.length = q.kinds.length * 16) => shape_any wb tg V q f k X h h1 h2 h3)
 have HFT := hid (fun i => mkI_fits hp (j : Int) k (mkB p j) t i)
 have HLN := hid (fun i => mkI_len p (j : Int) k (mkB p j) t i)
 have hmn : (mn : Int) ≤ 16 := by omega
 have ht3 : (t : Int) ≤ 1000 := by have := hp.slots; omega
 have hsl3 : (p.slots.length : Int) ≤ 1000 := by have := hp.slots; omega
 have hj3 : (j : Int) < (p.slots.length : Int) := by omega
 have HJ := hid hj
 have HKS := hid (show (p.kinds.length : Int) ≤ 24 by have := hs.lf.k2; omega)
 have HSL6 := hid (show ∀ i, i ≤ mn → ∀ (h : j < (mkI p j k (mkB p j) t i).slots.length), (mkI p j k (mkB p j) t i).slots[j] = f from fun i hi h => by
  have h1 := mkI_at p j k (mkB p j) t j i (by have := HNL.out; omega)
  rw [List.getElem?_eq_getElem h, List.getElem?_eq_getElem hj, hf] at h1
  exact Option.some.inj h1)
 obtain ⟨bs, hbs⟩ : ∃ bs, f 1 = bs := ⟨_, rfl⟩
 obtain ⟨us, hus2⟩ : ∃ us, usV p j = us := ⟨_, rfl⟩
 have HMB := hid (show ((mkB p j : Nat) : Int) = bs + us by rw [hB, hbs, hus2])
 have HK1 := hid (hk1.trans hbs)
 have HK3 := hid (hk3.trans hus2)
 have HFDU := hid (show fdK p j = upd f 3 us by rw [hfd, hus2])
 have HP := hid (show mkP p j k mn t = { mkI p j k (mkB p j) t mn with slots := (mkI p j k (mkB p j) t mn).slots.set j (upd f 3 (us + mn)) } by rw [hP, hus2])
 have hub0 : 0 ≤ us := by rw [← hus2]; exact hu0
 have hub1 : us ≤ 100 := by rw [← hus2]; exact hu1
 have hbb0 : 0 ≤ bs := by rw [← hbs]; exact hb0
 have hbb1 : bs ≤ 24 := by have := HKS.out; rw [← hbs]; omega
 generalize mkB p j = mb at *
 clear hcl hE0 bt hc hp hl hs hst ht hfc e2 hwk HKF hf hs0 hgd hb0 hb1 hl0 hl1 hm0 hm1 hu0 hu1 hm hm16 hus h5 hfd HNL hP hB hk1 hk2 hk3 hfull hbs hus2
 go_enter Tryz.func161, Tryz.ntmps161
 go_wp2_with fail
 refine HSL.out.mono ?_
 rintro q w0 ⟨rfl, rfl⟩
 clear x1 HSL
 have z2 := (HC.out (c2, .int .i64 j) (by simp)).1
 go_wp2_with fail
 refine (HFD.out _ (Below.refl _ _)).mono ?_
 rintro q w1 ⟨rfl, hb⟩
 have BL1 := hid hb
 have TH := hid (there_new w1 #[.int .i64 0, .int .i64 0, .int .i64 0, .int .i64 0, .int .i64 0, .int .i64 0] 43 w1.heap.size 6 rfl (by decide))
 have BL2 := hid (show Below W.heap.size W ((w1.alloc (.cells #[.int .i64 0, .int .i64 0, .int .i64 0, .int .i64 0, .int .i64 0, .int .i64 0] 43)).setCells w1.heap.size 0 (cf 6 (fdK p j))) from below_setCells (bal hb (.cells #[.int .i64 0, .int .i64 0, .int .i64 0, .int .i64 0, .int .i64 0, .int .i64 0] 43)) hb.size _ 0)
 have RK := hid (World.rangeAt_setCells_same (w1.alloc (.cells #[.int .i64 0, .int .i64 0, .int .i64 0, .int .i64 0, .int .i64 0, .int .i64 0] 43)) w1.heap.size 0 (cf 6 (fdK p j)) (by rw [cf_len]; exact TH.out))
 have HKB := hid hb.size
 have TK := hid (there_sets (cf 6 (fdK p j)) 0 (w1.alloc (.cells #[.int .i64 0, .int .i64 0, .int .i64 0, .int .i64 0, .int .i64 0, .int .i64 0] 43)) (B := w1.heap.size) TH.out)
 clear hb z2 HFD
 go_upto_region 4 with (first | ((with_reducible (show wpList _ _ _ (⟨_, Op.store 43 _ _, _, _, _, _⟩ :: _) _ _)); refine wp_stK rfl _ _ rfl w1.heap.size 0 rfl (cf 6 (fdK p j)) rfl (cf_len _ _) HONE.out TH.out ?_))
 generalize World.setCells _ _ _ _ = W2 at *
 generalize w1.heap.size = kb at *
 clear TH BL1
 have K2 := hid (show Kt tg tg W W2 from .below BL2.out)
 have z3 := (HC.out.kt K2.out (c3, .int .i64 k) (by simp)).1
 go_wp2_with fail
 refine (HWK.out _).mono ?_
 rintro q w3 ⟨rfl, rfl⟩
 clear z3
 have z1 := (HC.out.kt K2.out (c1, .int .i64 t) (by simp)).1
 have z4 := (HC.out.kt K2.out (c4, .int .i64 mn) (by simp)).1
 go_wp2_with fail
 refine (HFC.out _ BL2.out).mono ?_
 rintro q w3 ⟨rfl, hb⟩
 have BL3 := hid (btr BL2.out hb)
 have RK3 := hid (range_belowO RK.out hb)
 have TK3 := hid (there_belowO TK.out hb)
 clear hb z1 z4 HFC K2 BL2 RK TK
 have K3 := hid (show Kt tg tg W w3 from .below BL3.out)
 go_upto_region 11 with fail
 have BD : Hid (Below w3.heap.size w3 w3.drew) := hid (below_drew w3 1)
 have KSL := hid (fun X (h : Below w3.heap.size w3 X) => show X.cell? ⟨c4, 0, none⟩ = some (.int .i64 mn) ∧ X.rangeAt kb 0 (cf 6 (fdK p j)) from ⟨(HC.out.kt (K3.out.trans (.below h)) (c4, .int .i64 mn) (by simp)).1, range_belowO RK3.out h⟩)
 refine wp_region_held_drew (S := fun X => X.cell? ⟨c4, 0, none⟩ = some (.int .i64 mn) ∧ X.rangeAt kb 0 (cf 6 (fdK p j))) (by kernel_rfl) (KSL.out _ BD.out) (fun hH0 => ?_)
 have hH := hid hH0
 clear hH0
 refine Mem.tg 0 (.int .i64 mn) rfl (Or.inl ⟨by rfl, fun W h => by have h3 := h.1; clear h; go_simp⟩) hH.out ?_
 simp only [jj]
 refine Mem.tg 1 (.agg (cf 6 (fdK p j)).toArray) rfl (yieldsIf_load_mid (by rfl) _ _ rfl _ _ rfl (cf 6 (fdK p j)) _ (fun _ h => h.2) Tryz.underlying43 rfl (by rw [info6k, cf_len])) hH.out ?_
 simp only [jj]
 refine wpAnyH_ready (rs := [2]) (by kernel_rfl) (by simp) (AllReadyH.cons rfl (fun K hK => ?_) AllReadyH.nil)
 go_simp
 refine (HLF.out _).mono ?_
 rintro q w4 ⟨rfl, hb⟩
 have A4 := hid (btr BD.out hb)
 clear hb
 go_wp2_with fail
 refine hK.out _ _ (KSL.out _ A4.out) (fun hH0 => ?_)
 have hH2 := hid hH0
 clear hK K hH0
 try simp only [Act.put, jD, jE, jF]
 refine tk 3 (.bool (decide (fdK p j 2 - fdK p j 3 < mn))) rfl hH2.out ?_
 simp only [jj]
 refine wpAnyH_done (by kernel_rfl) ?_ _
 have BL4 := hid (btr BL3.out A4.out)
 have K4 := hid (K3.out.trans (.below A4.out))
 have RK4 := hid (range_belowO RK3.out A4.out)
 have TK4 := hid (there_belowO TK3.out A4.out)
 clear hH hH2 KSL BD A4 HLF RK3 K3 BL3 TK3
 have z4 := (HC.out.kt K4.out (c4, .int .i64 mn) (by simp)).1
 have B4 := hid (B0.out.below BL4.out)
 have T4 := hid (T0.out kb HKB.out)
 go_upto_region 14 with fail
 clear z4
 go_loopw [43] (fun i wr => ∃ (a : Nat), a ≤ mn ∧ i = .int .i64 a ∧ Hid (BoxT wr wb tg V (mkI p j k mb t a)) ∧ Hid (Kt tg tg W wr) ∧ Hid (wr.rangeAt kb 0 (cf 6 (fdK p j)) ∧ wr.there kb 0 6)) (fun i _ => mn - (intOf i).toNat)
 case atStart => exact ⟨0, by omega, rfl, B4, K4, hid ⟨RK4.out, TK4.out⟩⟩
 case round =>
  obtain ⟨a, ha, rfl, HBX, HKT, HRT⟩ := hrel
  have HRG := hid HRT.out.1
  have HTG := hid HRT.out.2
  clear RK4 B4 BL4 K4 TK4 HRT
  by_cases hlt : a < mn
  ·have hlt2 : (a : Int) < (mn : Int) := by omega
   have y1 := range_cell HRG.out (k := 1) (v := .int .i64 bs) (by rw [cf_at 6 _ 1 (by omega), HK1.out])
   have y3 := range_cell HRG.out (k := 3) (v := .int .i64 us) (by rw [cf_at 6 _ 3 (by omega), HK3.out])
   have z3 := (HC.out.kt HKT.out (c3, .int .i64 k) (by simp)).1
   obtain ⟨fr, hfr0⟩ : ∃ fr : Nat, mb + a = fr := ⟨_, rfl⟩
   have hfr : bs + us + (a : Int) = (fr : Int) := by have := HMB.out; omega
   have HFR := hid hfr0
   obtain ⟨ta, hta0⟩ : ∃ ta : Nat, t + a = ta := ⟨_, rfl⟩
   have HTA := hid hta0
   have SHA := hid (HSH.out wr (mkI p j k mb t a) fr HBX.out (HFT.out a) (by rw [(HLN.out a).1]; have := HBK.out; omega) (by rw [(HLN.out a).1, (HLN.out a).2.1]; exact HRM.out))
   clear hfr0 hta0
   go_wp2_with fail
   refine SHA.out.mono ?_
   rintro q w5 ⟨rfl, h5, k5⟩
   have B5 := hid h5
   have K5 := hid (HKT.out.trans k5)
   have R5 := hid (show w5.rangeAt kb 0 (cf 6 (fdK p j)) from fun o v hv => k5.cell (HRG.out o v hv) T4.out)
   have T5 := hid (k5.there HTG.out T4.out)
   clear h5 k5 SHA y1 y3 z3 HBX HKT HRG HTG
   have L5 := hid (show (shP (mkI p j k mb t a) fr k).slots.length = p.slots.length from (HLN.out a).2.2)
   have he : V 2 = .slice (some ⟨g2, 0, none⟩) (shP (mkI p j k mb t a) fr k).slots.length cap2 := by rw [L5.out]; exact E2.out
   have hta : ta < p.slots.length := by have := HTS.out; have := HTA.out; omega
   have hta2 : (ta : Int) < (p.slots.length : Int) := by omega
   have hta3 : (t : Int) + (a : Int) = (ta : Int) := by have := HTA.out; omega
   have hta4 : (ta : Int) ≤ 1000 := by omega
   have hta5 : 0 ≤ (ta : Int) := by omega
   have hta6 : (ta : Int) < 2 ^ 62 := by
    have h62 : (2 : Int) ^ 62 = 4611686018427387904 := by decide
    omega
   have BD : Hid (BoxT w5.drew wb tg V (shP (mkI p j k mb t a) fr k)) := hid (B5.out.below (below_drew w5 1))
   have KD : Hid (Kt tg tg W w5.drew) := hid (K5.out.trans (.below (below_drew w5 1)))
   have RD : Hid (w5.drew.rangeAt kb 0 (cf 6 (fdK p j))) := hid (range_belowO R5.out (below_drew w5 1))
   obtain ⟨h6, k6⟩ := BD.out.slotsRow he (i := ta) (by rw [L5.out]; exact hta) (nsl k (fr : Int) j)
   have B6 := hid (show BoxT (w5.drew.setCells g2 (ta * 7) (cf 7 (nsl k (fr : Int) j))) wb tg V (mkI p j k mb t (a + 1)) by
    show BoxT _ wb tg V (mk1 (mkI p j k mb t a) j k mb t a)
    unfold mk1
    rw [HFR.out, HTA.out]
    exact h6)
   have K6 := hid (KD.out.trans k6)
   have R6 := hid (show (w5.drew.setCells g2 (ta * 7) (cf 7 (nsl k (fr : Int) j))).rangeAt kb 0 (cf 6 (fdK p j)) from fun o v hv => k6.cell (RD.out o v hv) T4.out)
   have T6 := hid (k6.there (there_belowO T5.out (below_drew w5 1)) T4.out)
   have TH6 := hid (BD.out.slotsThere he (ta * 7) 7 (by rw [L5.out]; omega))
   have KS := hid (fun X q (h : BoxT X wb tg V q) (kk : Kt tg tg W X) => show X.cell? ⟨wb, 2, none⟩ = some (.slice (some ⟨g2, 0, none⟩) p.slots.length cap2) ∧ X.cell? ⟨c1, 0, none⟩ = some (.int .i64 t) ∧ X.cell? ⟨c2, 0, none⟩ = some (.int .i64 j) ∧ X.cell? ⟨c3, 0, none⟩ = some (.int .i64 k) from ⟨by rw [range_cell h.r (k := 2) rfl, E2.out], (HC.out.kt kk (c1, .int .i64 t) (by simp)).1, (HC.out.kt kk (c2, .int .i64 j) (by simp)).1, (HC.out.kt kk (c3, .int .i64 k) (by simp)).1⟩)
   clear h6 k6 he
   go_upto_region 18 with fail
   refine wp_region_held_drew (S := fun X => X.cell? ⟨wb, 2, none⟩ = some (.slice (some ⟨g2, 0, none⟩) p.slots.length cap2) ∧ X.cell? ⟨c1, 0, none⟩ = some (.int .i64 t) ∧ X.cell? ⟨c2, 0, none⟩ = some (.int .i64 j) ∧ X.cell? ⟨c3, 0, none⟩ = some (.int .i64 k)) (by kernel_rfl) (KS.out _ _ BD.out KD.out) (fun hH0 => ?_)
   have hH := hid hH0
   clear hH0
   refine tk 0 (.pointer (some ⟨wb, 0, none⟩)) rfl hH.out ?_
   simp only [jj]
   refine tk 1 (.pointer (some ⟨wb, 0, none⟩)) rfl hH.out ?_
   simp only [jj]
   refine tk 2 (.pointer (some ⟨wb, 2, none⟩)) rfl hH.out ?_
   simp only [jj]
   refine Mem.tg 3 (.slice (some ⟨g2, 0, none⟩) p.slots.length cap2) rfl (Or.inl ⟨by rfl, fun W h => by have h3 := h.1; clear h; go_simp⟩) hH.out ?_
   simp only [jj]
   refine Mem.tg 4 (.int .i64 t) rfl (Or.inl ⟨by rfl, fun W h => by have h3 := h.2.1; clear h; go_simp⟩) hH.out ?_
   simp only [jj]
   refine tk 5 (.int .i64 a) rfl hH.out ?_
   simp only [jj]
   refine Mem.tg 6 (.int .i64 ta) rfl (Or.inl ⟨by rfl, fun W h => by clear h; go_simp; try exact wraps_i64 _ hta5 hta6⟩) hH.out ?_
   simp only [jj]
   refine Mem.tg 7 (.int .i64 k) rfl (Or.inl ⟨by rfl, fun W h => by have h3 := h.2.2.2; clear h; go_simp⟩) hH.out ?_
   simp only [jj]
   refine tk 8 (.int .i64 (fr : Int)) rfl hH.out ?_
   simp only [jj]
   refine tk 9 (.agg #[.int .i64 k, .int .i64 (fr : Int), .int .i64 1, .int .i64 0, .int .i64 7, .int .i64 0]) rfl hH.out ?_
   simp only [jj]
   refine Mem.tg 10 (.int .i64 j) rfl (Or.inl ⟨by rfl, fun W h => by have h3 := h.2.2.1; clear h; go_simp⟩) hH.out ?_
   simp only [jj]
   refine tk 11 (.agg #[.int .i64 k, .int .i64 (fr : Int), .int .i64 1, .int .i64 0, .int .i64 7, .int .i64 0, .int .i64 j]) rfl hH.out ?_
   simp only [jj]
   refine tk 12 (.pointer (some ⟨g2, ta * 7, none⟩)) rfl hH.out ?_
   simp only [jj]
   refine wpAnyH_ready (rs := [13]) (by kernel_rfl) (by simp) (AllReadyH.cons rfl (fun K hK => ?_) AllReadyH.nil)
   refine wp_store_mid 45 _ _ rfl g2 (ta * 7) (cf 7 (nsl k (fr : Int) j)).toArray rfl rfl TH6.out (by rw [info7s]; rfl) (all_oneCell_toArray (cf_one 7 _)) ?_
   refine hK.out _ _ (KS.out _ _ B6.out K6.out) (fun _ => ?_)
   clear hK K hH
   try simp only [Act.put]
   refine wpAnyH_done (by kernel_rfl) ?_ _
   clear KS BD KD RD B5 K5 R5 TH6 L5 T5
   generalize World.setCells _ _ _ _ = W6 at *
   go_wp2_with fail
   exact ⟨⟨a + 1, by omega, by go_num, B6, K6, hid ⟨R6.out, T6.out⟩⟩, by simp [intOf]; omega⟩
  ·obtain rfl : a = mn := by omega
   have hge : ¬ ((a : Int) < (a : Int)) := by omega
   have y3 := range_cell HRG.out (k := 3) (v := .int .i64 us) (by rw [cf_at 6 _ 3 (by omega), HK3.out])
   have z4 := (HC.out.kt HKT.out (c4, .int .i64 a) (by simp)).1
   have f3 := (HTG.out 3 (by omega)).2
   rw [Nat.zero_add] at f3
   have R7 := hid (range_upd HRG.out (us + a))
   have B7 := hid (HBX.out.kp (T := fun x => x = kb) ((Kp.refl (fun x => x = kb) wr).setCell (b := kb) (o := 3) (.inl rfl) (.int .i64 (us + a))) (fun x _ e => by rw [e]; exact T4.out) (fun _ _ => rfl))
   have K7 := hid (HKT.out.setOut (b := kb) (o := 3) HKB.out (.int .i64 (us + a)))
   go_upto_region 21 with fail
   generalize World.setCell _ _ _ = W7 at *
   clear y3 z4 f3 HRG HTG HBX HKT
   have EQ := hid (show upd (fdK p j) 3 (us + a) = upd f 3 (us + a) by
    rw [HFDU.out]
    funext x
    unfold upd
    by_cases hx : x = 3
    ·rw [if_pos hx, if_pos hx]
    ·rw [if_neg hx, if_neg hx, if_neg hx])
   rw [EQ.out] at R7
   obtain ⟨kf, hkf⟩ : ∃ kf, upd f 3 (us + a) = kf := ⟨_, rfl⟩
   have HKF := hid hkf
   rw [hkf] at R7
   have L7 := hid (HLN.out a).2.2
   have he : V 2 = .slice (some ⟨g2, 0, none⟩) (mkI p j k mb t a).slots.length cap2 := by rw [L7.out]; exact E2.out
   have hjl : j < (mkI p j k mb t a).slots.length := by rw [L7.out]; exact HJ.out
   have hsj := HSL6.out a (Nat.le_refl _) hjl
   have BD : Hid (BoxT W7.drew wb tg V (mkI p j k mb t a)) := hid (B7.out.below (below_drew W7 1))
   have KD : Hid (Kt tg tg W W7.drew) := hid (K7.out.trans (.below (below_drew W7 1)))
   have RD : Hid (W7.drew.rangeAt kb 0 (cf 6 kf)) := hid (range_belowO R7.out (below_drew W7 1))
   obtain ⟨h8, k8⟩ := BD.out.slotsKey he hjl kf (by rw [hsj, ← hkf]; rfl) (fun x hx => by rw [hsj, ← hkf]; unfold upd; rw [if_neg (by omega)])
   rw [← hkf] at h8
   have B8 := hid (show BoxT (W7.drew.setCells g2 (j * 7) (cf 6 kf)) wb tg V (mkP p j k a t) by rw [HP.out]; rw [hkf] at h8 ⊢; exact h8)
   have K8 := hid (KD.out.trans k8)
   have R8 := hid (show (W7.drew.setCells g2 (j * 7) (cf 6 kf)).rangeAt kb 0 (cf 6 kf) from fun o v hv => k8.cell (RD.out o v hv) T4.out)
   have TH8 := hid (BD.out.slotsThere he (j * 7) 6 (by have := HJ.out; rw [L7.out]; omega))
   have KS := hid (fun X q (h : BoxT X wb tg V q) (kk : Kt tg tg W X) (hr : X.rangeAt kb 0 (cf 6 kf)) => show X.cell? ⟨wb, 2, none⟩ = some (.slice (some ⟨g2, 0, none⟩) p.slots.length cap2) ∧ X.cell? ⟨c2, 0, none⟩ = some (.int .i64 j) ∧ X.rangeAt kb 0 (cf 6 kf) from ⟨by rw [range_cell h.r (k := 2) rfl, E2.out], (HC.out.kt kk (c2, .int .i64 j) (by simp)).1, hr⟩)
   clear h8 k8 he hjl hsj hkf HP
   refine wp_region_held_drew (S := fun X => X.cell? ⟨wb, 2, none⟩ = some (.slice (some ⟨g2, 0, none⟩) p.slots.length cap2) ∧ X.cell? ⟨c2, 0, none⟩ = some (.int .i64 j) ∧ X.rangeAt kb 0 (cf 6 kf)) (by kernel_rfl) (KS.out _ _ BD.out KD.out RD.out) (fun hH0 => ?_)
   have hH := hid hH0
   clear hH0
   refine tk 0 (.pointer (some ⟨wb, 0, none⟩)) rfl hH.out ?_
   simp only [jj]
   refine tk 1 (.pointer (some ⟨wb, 0, none⟩)) rfl hH.out ?_
   simp only [jj]
   refine tk 2 (.pointer (some ⟨wb, 2, none⟩)) rfl hH.out ?_
   simp only [jj]
   refine Mem.tg 3 (.slice (some ⟨g2, 0, none⟩) p.slots.length cap2) rfl (Or.inl ⟨by rfl, fun W h => by have h3 := h.1; clear h; go_simp⟩) hH.out ?_
   simp only [jj]
   refine Mem.tg 4 (.int .i64 j) rfl (Or.inl ⟨by rfl, fun W h => by have h3 := h.2.1; clear h; go_simp⟩) hH.out ?_
   simp only [jj]
   refine Mem.tg 5 (.agg (cf 6 kf).toArray) rfl (yieldsIf_load_mid (by rfl) _ _ rfl _ _ rfl (cf 6 kf) _ (fun _ h => h.2.2) Tryz.underlying43 rfl (by rw [info6k, cf_len])) hH.out ?_
   simp only [jj]
   refine tk 6 (.pointer (some ⟨g2, j * 7, none⟩)) rfl hH.out ?_
   simp only [jj]
   refine tk 7 (.pointer (some ⟨g2, j * 7, none⟩)) rfl hH.out ?_
   simp only [jj]
   refine wpAnyH_ready (rs := [8]) (by kernel_rfl) (by simp) (AllReadyH.cons rfl (fun K hK => ?_) AllReadyH.nil)
   refine wp_store_mid 43 _ _ rfl g2 (j * 7) (cf 6 kf).toArray rfl rfl (by rw [List.size_toArray, cf_len]; exact TH8.out) (by rw [info6k]; rfl) (all_oneCell_toArray (cf_one 6 _)) ?_
   refine hK.out _ _ (KS.out _ _ B8.out K8.out R8.out) (fun _ => ?_)
   clear hK K hH
   try simp only [Act.put]
   refine wpAnyH_done (by kernel_rfl) ?_ _
   clear KS BD KD RD B7 K7 R7 TH8
   generalize World.setCells _ _ _ _ = W8 at *
   go_wp2_with fail
   go_ret
   first | exact ⟨rfl, tg, KR.out.trans K8.out, V, B8.out⟩ | exact ⟨rfl, tg, KR.out.trans K8.out, fun _ => ⟨V, B8.out⟩⟩
theorem cf_k1 (args : Array Value) (W : World) : (callFunc 161 args).run Tryz.prog W = .ok (.enter 161 args) W := by
 go_simp
set_option maxRecDepth 100000 in
set_option maxHeartbeats 4000000 in
theorem clayMake_any (V : Nat → Value) (p : PW) (a b c d : Int) (w : World) (hv : WorldV w V p) (hp : p.Fits) :
  Calls Tryz.prog 122 #[.agg (arr11 V), .int .i64 a, .int .i64 b, .int .i64 c, .int .i64 d] w fun x w' => ∃ X, x = .returned (.tuple #[.agg (arr11 X), eV (dE p (mkE p a b c d))]) ∧ FarV w' w.heap.size X (dP p (mkP p a b c d) (mkE p a b c d)) ∧ Below w.heap.size w w' := by
 have RG0 := boxed w V 28
 have RG1 := range_below RG0 (bal (Below.refl _ (w.alloc (.cells (arr11 V) 28))) (.cells #[.int .i64 a] 3))
 have RG2 := range_below RG1 (bal (Below.refl _ ((w.alloc (.cells (arr11 V) 28)).alloc (.cells #[.int .i64 a] 3))) (.cells #[.int .i64 b] 3))
 have RG3 := range_below RG2 (bal (Below.refl _ (((w.alloc (.cells (arr11 V) 28)).alloc (.cells #[.int .i64 a] 3)).alloc (.cells #[.int .i64 b] 3))) (.cells #[.int .i64 c] 3))
 have RG4 := range_below RG3 (bal (Below.refl _ ((((w.alloc (.cells (arr11 V) 28)).alloc (.cells #[.int .i64 a] 3)).alloc (.cells #[.int .i64 b] 3)).alloc (.cells #[.int .i64 c] 3))) (.cells #[.int .i64 d] 3))
 have RG5 := range_below RG4 (bal (Below.refl _ (((((w.alloc (.cells (arr11 V) 28)).alloc (.cells #[.int .i64 a] 3)).alloc (.cells #[.int .i64 b] 3)).alloc (.cells #[.int .i64 c] 3)).alloc (.cells #[.int .i64 d] 3))) (.cells #[.slice none 0 0, .slice none 0 0, .slice none 0 0, .slice none 0 0, .slice none 0 0, .slice none 0 0, .slice none 0 0, .slice none 0 0, .slice none 0 0, .slice none 0 0, .int .i64 0] 28))
 have RG := hid RG5
 have B0 := hid (bal (bal (bal (bal (bal (bal (Below.refl w.heap.size w) (.cells (arr11 V) 28)) (.cells #[.int .i64 a] 3)) (.cells #[.int .i64 b] 3)) (.cells #[.int .i64 c] 3)) (.cells #[.int .i64 d] 3)) (.cells #[.slice none 0 0, .slice none 0 0, .slice none 0 0, .slice none 0 0, .slice none 0 0, .slice none 0 0, .slice none 0 0, .slice none 0 0, .slice none 0 0, .slice none 0 0, .int .i64 0] 28))
 have y1 := (cells_alloc (cells_alloc (cells_alloc (cells_alloc (cells_at (w.alloc (.cells (arr11 V) 28)) #[.int .i64 a] 3 (w.heap.size + 1) (by simp)) (by simp) (.cells #[.int .i64 b] 3)) (by simp) (.cells #[.int .i64 c] 3)) (by simp) (.cells #[.int .i64 d] 3)) (by simp) (.cells #[.slice none 0 0, .slice none 0 0, .slice none 0 0, .slice none 0 0, .slice none 0 0, .slice none 0 0, .slice none 0 0, .slice none 0 0, .slice none 0 0, .slice none 0 0, .int .i64 0] 28)) 0
 have y2 := (cells_alloc (cells_alloc (cells_alloc (cells_at ((w.alloc (.cells (arr11 V) 28)).alloc (.cells #[.int .i64 a] 3)) #[.int .i64 b] 3 (w.heap.size + 2) (by simp)) (by simp) (.cells #[.int .i64 c] 3)) (by simp) (.cells #[.int .i64 d] 3)) (by simp) (.cells #[.slice none 0 0, .slice none 0 0, .slice none 0 0, .slice none 0 0, .slice none 0 0, .slice none 0 0, .slice none 0 0, .slice none 0 0, .slice none 0 0, .slice none 0 0, .int .i64 0] 28)) 0
 have y3 := (cells_alloc (cells_alloc (cells_at (((w.alloc (.cells (arr11 V) 28)).alloc (.cells #[.int .i64 a] 3)).alloc (.cells #[.int .i64 b] 3)) #[.int .i64 c] 3 (w.heap.size + 3) (by simp)) (by simp) (.cells #[.int .i64 d] 3)) (by simp) (.cells #[.slice none 0 0, .slice none 0 0, .slice none 0 0, .slice none 0 0, .slice none 0 0, .slice none 0 0, .slice none 0 0, .slice none 0 0, .slice none 0 0, .slice none 0 0, .int .i64 0] 28)) 0
 have y4 := (cells_alloc (cells_at ((((w.alloc (.cells (arr11 V) 28)).alloc (.cells #[.int .i64 a] 3)).alloc (.cells #[.int .i64 b] 3)).alloc (.cells #[.int .i64 c] 3)) #[.int .i64 d] 3 (w.heap.size + 4) (by simp)) (by simp) (.cells #[.slice none 0 0, .slice none 0 0, .slice none 0 0, .slice none 0 0, .slice none 0 0, .slice none 0 0, .slice none 0 0, .slice none 0 0, .slice none 0 0, .slice none 0 0, .int .i64 0] 28)) 0
 have HC := hid (show Caps [((w.heap.size + 1), .int .i64 a), ((w.heap.size + 2), .int .i64 b), ((w.heap.size + 3), .int .i64 c), ((w.heap.size + 4), .int .i64 d)] ((((((w.alloc (.cells (arr11 V) 28)).alloc (.cells #[.int .i64 a] 3)).alloc (.cells #[.int .i64 b] 3)).alloc (.cells #[.int .i64 c] 3)).alloc (.cells #[.int .i64 d] 3)).alloc (.cells #[.slice none 0 0, .slice none 0 0, .slice none 0 0, .slice none 0 0, .slice none 0 0, .slice none 0 0, .slice none 0 0, .slice none 0 0, .slice none 0 0, .slice none 0 0, .int .i64 0] 28)) from fun x hx => by
  simp only [List.mem_cons, List.not_mem_nil, or_false] at hx
  rcases hx with rfl | rfl | rfl | rfl
  ·exact y1
  ·exact y2
  ·exact y3
  ·exact y4)
 have SZ := hid (show ((((((w.alloc (.cells (arr11 V) 28)).alloc (.cells #[.int .i64 a] 3)).alloc (.cells #[.int .i64 b] 3)).alloc (.cells #[.int .i64 c] 3)).alloc (.cells #[.int .i64 d] 3)).alloc (.cells #[.slice none 0 0, .slice none 0 0, .slice none 0 0, .slice none 0 0, .slice none 0 0, .slice none 0 0, .slice none 0 0, .slice none 0 0, .slice none 0 0, .slice none 0 0, .int .i64 0] 28)).heap.size = w.heap.size + 6 by simp)
 have TR := hid (there_new (((((w.alloc (.cells (arr11 V) 28)).alloc (.cells #[.int .i64 a] 3)).alloc (.cells #[.int .i64 b] 3)).alloc (.cells #[.int .i64 c] 3)).alloc (.cells #[.int .i64 d] 3)) #[.slice none 0 0, .slice none 0 0, .slice none 0 0, .slice none 0 0, .slice none 0 0, .slice none 0 0, .slice none 0 0, .slice none 0 0, .slice none 0 0, .slice none 0 0, .int .i64 0] 28 (w.heap.size + 5) 11 (by simp) (by decide))
 clear RG0 RG1 RG2 RG3 RG4 RG5
 have HL := hid (tlbs_le hv.tlbs)
 have HD := hid (do_far 161 #[ptr (w.heap.size + 4), ptr (w.heap.size + 1), ptr (w.heap.size + 2), ptr (w.heap.size + 3)] (Caps [((w.heap.size + 1), .int .i64 a), ((w.heap.size + 2), .int .i64 b), ((w.heap.size + 3), .int .i64 c), ((w.heap.size + 4), .int .i64 d)]) V p (mkP p a b c d) (mkE p a b c d) ((((((w.alloc (.cells (arr11 V) 28)).alloc (.cells #[.int .i64 a] 3)).alloc (.cells #[.int .i64 b] 3)).alloc (.cells #[.int .i64 c] 3)).alloc (.cells #[.int .i64 d] 3)).alloc (.cells #[.slice none 0 0, .slice none 0 0, .slice none 0 0, .slice none 0 0, .slice none 0 0, .slice none 0 0, .slice none 0 0, .slice none 0 0, .slice none 0 0, .slice none 0 0, .int .i64 0] 28)) (hv.below B0.out) hp cf_k1 (fun X h => HC.out.below h) (fun h => (make_deed _ _ _ _ a b c d p hp HL.out h).caps (by rw [mk_tlbs]; exact HL.out)))
 unfold ptr at HD
 generalize dE p (mkE p a b c d) = de at HD ⊢
 generalize dP p (mkP p a b c d) (mkE p a b c d) = dp at HD ⊢
 clear hv hp HL y1 y2 y3 y4
 go_enter Tryz.func122, Tryz.ntmps122
 go_wp2_with (first | ((with_reducible (show wpList _ _ _ (⟨_, Op.load 28 _, _, _, _, _⟩ :: _) _ _)); refine wp_ldWg (by rfl) _ rfl _ rfl V RG.out ?_))
 generalize World.alloc _ _ = W0 at *
 refine HD.out.mono ?_
 rintro q w1 ⟨X, rfl, hF, hb⟩
 have T1 := hid (there_belowO TR.out hb)
 have one := hid (world_one hF.v0)
 have RX := hid (World.rangeAt_setCells_same w1 (w.heap.size + 5) 0 (arr11 X).toList T1.out)
 have BX := hid (below_setCells (btr B0.out hb) (show w.heap.size ≤ w.heap.size + 5 by omega) (arr11 X).toList 0)
 have WX := hid ((hF.put (w.heap.size + 5) 0 (arr11 X).toList (by rw [SZ.out]; omega)).mono (show w.heap.size ≤ _ by rw [SZ.out]; omega))
 clear hF hb HD
 go_wp2_with (first | ((with_reducible (show wpList _ _ _ (⟨_, Op.store 28 _ _, _, _, _, _⟩ :: _) _ _)); refine wpList_store_mid rfl 28 _ _ rfl (w.heap.size + 5) 0 (arr11 X) rfl rfl T1.out infoW one.out ?_))
 exact bodyPost_ret (v := .tuple #[.agg (arr11 X), eV de]) (results_d2 rfl rfl (run_loadVar_mid _ (w.heap.size + 5) 0 28 (arr11 X).toList _ RX.out Tryz.underlying28 rfl infoW) rfl) rfl ⟨X, rfl, WX.out, BX.out⟩
end Go.Proofs.YtkocmkaeaagbaaaGreatDoor.Wd
