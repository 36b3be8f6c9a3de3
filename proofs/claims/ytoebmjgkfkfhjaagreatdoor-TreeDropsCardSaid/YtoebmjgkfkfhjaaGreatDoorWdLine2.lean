/- Lines, by the other text: keyholdref.lineWell; walked. -/
import Derived.Test.YtoebmjgkfkfhjaaGreatDoorGTask
import Derived.BigQuiet
import Derived.Deep.RegionHeld3
namespace Go.Proofs.YtoebmjgkfkfhjaaGreatDoor.Wd
open Go.RowKit Go.Proofs.YtoebmjgkfkfhjaaGreatDoor.Mem Go.Proofs.YtoebmjgkfkfhjaaGreatDoor.Bw Go.Proofs.YtoebmjgkfkfhjaaGreatDoor.Nums Go.Proofs.YtoebmjgkfkfhjaaGreatDoor.Mmu
theorem far_wB (y : Int) : decide (y < 0 ∨ 65535 < y) = !wB y := by
 unfold wB
 by_cases h : 0 ≤ y ∧ y ≤ 65535
 ·rw [decide_eq_true h, decide_eq_false (by omega)]; rfl
 ·rw [decide_eq_false h, decide_eq_true (by omega)]; rfl
theorem cell3 {W : World} {b : Nat} {V : Nat → Value} {x : Value} (h : W.rangeAt b 0 (arr11 V).toList) (e : V 3 = x) : W.cell? ⟨b, 3, none⟩ = some x := by
 rw [← e]
 exact range_cell h rfl
set_option maxRecDepth 100000 in
set_option maxHeartbeats 2000000 in
theorem lineWell_any (V : Nat → Value) (p : PW) (n : Nat) (zs : List Int) (w : World) (hv : WorldV w V p) (hp : p.Fits) (ht : p.tasks.length = p.kinds.length) (hk : n < p.kinds.length) (hbt : n < p.bits.length) (hn : n < p.lines.length) (hz : p.lines[n] = zs) :
  Calls Tryz.prog 97 #[.agg (arr11 V), .int .i64 n] w fun r w' => r = .returned (.bool (!blB p n p.kinds[n] p.bits[n] zs)) ∧ Below w.heap.size w w' := by
 have RG := hid (boxed w V 28)
 have B0 := hid (bal (Below.refl w.heap.size w) (.cells (arr11 V) 28))
 obtain ⟨q4, b4, off4, cap4, e4, hq4, hz4⟩ := hv.lines
 obtain ⟨q1, b1, off1, cap1, e1, hq1, hz1⟩ := hv.kinds
 obtain ⟨q5, b5, off5, cap5, e5, hq5, hz5⟩ := hv.bits
 obtain ⟨q3, b3, off3, cap3, e3, hq3, hz3⟩ := hv.tasks
 have hl4 : (p.lines.length : Int) ≤ 1000 := by have := hp.lines; omega
 have hl1 : (p.kinds.length : Int) ≤ 1000 := by have := hp.kinds; omega
 have hl5 : (p.bits.length : Int) ≤ 1000 := by have := hp.bits; omega
 have hl3 : (p.tasks.length : Int) ≤ 1000 := by have := hp.tasks; omega
 have hl : zs.length ≤ 1000 := hz ▸ hp.line _ (List.getElem_mem hn)
 have hl2 : (zs.length : Int) ≤ 1000 := by omega
 have hk2 : (n : Int) < (p.kinds.length : Int) := by omega
 have hbt2 : (n : Int) < (p.bits.length : Int) := by omega
 have hn2 : (n : Int) < (p.lines.length : Int) := by omega
 obtain rfl := hq1 (by omega)
 obtain rfl := hq5 (by omega)
 obtain rfl := hq4 (by omega)
 have d1 := (hz1.below B0.out) n hk
 have d5 := (hz5.below B0.out) n hbt
 obtain ⟨x, dx, hx⟩ := hz4 n hn
 have dx2 := (B0.out.cell (World.block_lt_of_cell? _ _ dx)).trans dx
 rw [hz] at hx
 obtain ⟨q, b, off, cap, rfl, hq, hzz⟩ := hx
 have r1 : (w.alloc (.cells (arr11 V) 28)).cell? ⟨w.heap.size, 1, none⟩ = some (V 1) := range_cell RG.out rfl
 have r4 : (w.alloc (.cells (arr11 V) 28)).cell? ⟨w.heap.size, 4, none⟩ = some (V 4) := range_cell RG.out rfl
 have r5 : (w.alloc (.cells (arr11 V) 28)).cell? ⟨w.heap.size, 5, none⟩ = some (V 5) := range_cell RG.out rfl
 have HV := hid hv
 have HP := hid hp
 have HT := hid ht
 have HQ := hid hq
 have HZ := hid hzz
 have HQ3 := hid hq3
 have HZ3 := hid hz3
 have HB := hid (show (!blB p n p.kinds[n] p.bits[n] zs) = (!(hdB p.kinds[n] p.bits[n] zs.length) && !zs.any (tB p n (zs.getD 0 0))) by unfold blB; rw [Bool.not_or])
 generalize p.kinds[n] = k at d1 HB ⊢
 generalize p.bits[n] = y at d5 HB ⊢
 clear hz1 hz5 hq1 hq5 hv hq hzz hq3 hz3 ht hz4 hq4 dx hz hp
 have HF := hid (far_wB y)
 have H00 := hid (fun (h : 0 < zs.length) => getD0 h)
 generalize zs.getD 0 0 = z0 at H00 HB
 by_cases hz : 0 < zs.length
 ·have hz2 : (0 : Int) < (zs.length : Int) := by omega
  have hqe := HQ.out hz
  subst hqe
  by_cases h8 : k = 8
  ·subst h8
   by_cases hy : y = 0
   ·subst hy
    have HW := hid (show wB 0 = true by decide)
    have HB2 := hid (show hdB 8 0 zs.length = false by simp [hdB])
    rw [HB2.out] at HB
    clear HB2
    go_enter Tryz.func97, Tryz.ntmps97
    go_wp2_with fail
    refine (Isa.far_any 0 65535 _).mono ?_
    rintro r w2 ⟨rfl, rfl⟩
    rw [HF.out, HW.out]
    go_wp2_with fail
    clear d1 d5 r1 r4 r5 dx2 HF HW
    generalize World.alloc _ _ = W0 at RG B0 ⊢
    go_loopw [7] (fun i wr => ∃ kk : Nat, kk ≤ zs.length ∧ i = .int .i64 kk ∧ Hid (∀ j (hj : j < zs.length), j < kk → tB p n z0 zs[j] = false) ∧ Hid (Below W0.heap.size W0 wr)) (fun i _ => zs.length - (intOf i).toNat)
    case atStart => exact ⟨0, by omega, rfl, hid fun j _ h => by omega, hid (Below.refl _ _)⟩
    case round =>
     obtain ⟨kk, hkk, rfl, HE, HW⟩ := hrel
     have HWW := hid (btr B0.out HW.out)
     by_cases hlt : kk < zs.length
     ·have hlt2 : (kk : Int) < (zs.length : Int) := by omega
      have HY := hid (show tB p n z0 zs[kk] = true → zs.any (tB p n z0) = true from fun h => any_yes kk hlt h)
      have HS := hid (show tB p n z0 zs[kk] = false → ∀ j (hj : j < zs.length), j < kk + 1 → tB p n z0 zs[j] = false from fun hf j hj hjk => by
       by_cases e : j = kk
       ·subst e; exact hf
       ·exact HE.out j hj (by omega))
      have H0 := hid (show isB p zs[kk] 6 = true → isB p z0 6 = true from fun h => by
       rw [← H00.out hz]
       by_cases e : kk = 0
       ·subst e; exact h
       ·exact tB_in (HE.out 0 hz (by omega)))
      have KC := hid (fun W (hb : Below w.heap.size w W) => (HZ.out.below hb) kk hlt)
      have K0 := hid (fun W (hb : Below w.heap.size w W) => (HZ.out.below hb) 0 hz)
      rw [H00.out hz] at K0
      have KR := hid (fun W (hb : Below W0.heap.size W0 W) => range_below RG.out hb)
      generalize zs[kk] = z at KC HY HS H0
      have BD : Hid (Below wr.heap.size wr wr.drew) := hid (below_drew wr 1)
      cases hi : isB p z 6 with
      | false =>
       have HN := hid (HY.out (by unfold tB; rw [hi]; rfl))
       have hn2 : ¬ (kindAt p z).getD (-1) = 6 := fun e => by
        rw [isB_kind (by decide), e] at hi
        simp at hi
       clear hi HY HS
       have KS := hid (show ∀ W, Below wr.heap.size wr W → W.rangeAt w.heap.size 0 (arr11 V).toList ∧ W.cell? ⟨b, off + kk, none⟩ = some (.int .i64 z) from fun W hb => ⟨KR.out W (btr HW.out hb), KC.out W (btr HWW.out hb)⟩)
       have KK := hid (fun W (hb : Below wr.heap.size wr W) => kindOf_any V p z W (HV.out.below (btr HWW.out hb)) HP.out)
       generalize (kindAt p z).getD (-1) = kd at hn2 KK
       have hn3 : (kd != 6) = true := by simpa using hn2
       go_wp2_with fail
       refine wp_region_held_drew (S := fun W => W.rangeAt w.heap.size 0 (arr11 V).toList ∧ W.cell? ⟨b, off + kk, none⟩ = some (.int .i64 z)) (by kernel_rfl) (KS.out _ BD.out) (fun hH0 => ?_)
       have hH := hid hH0
       clear hH0
       refine tg 0 (.agg (arr11 V)) rfl (yieldsIf_load_mid (by rfl) _ _ rfl _ _ rfl ((arr11 V).toList) _ (fun _ h => h.1) Tryz.underlying28 rfl infoW) hH.out ?_
       simp only [jj]
       refine tk 1 (.slice (some ⟨b, off, none⟩) zs.length cap) rfl hH.out ?_
       simp only [jj]
       refine tk 2 (.int .i64 kk) rfl hH.out ?_
       simp only [jj]
       refine tk 3 (.pointer (some ⟨b, off + kk, none⟩)) rfl hH.out ?_
       simp only [jj]
       refine tg 4 (.int .i64 z) rfl (Or.inl ⟨by rfl, fun W h => by have h3 := h.2; clear h; go_simp⟩) hH.out ?_
       simp only [jj]
       refine wpAnyH_ready (rs := [5]) (by kernel_rfl) (by simp) (AllReadyH.cons rfl (fun K hK => ?_) AllReadyH.nil)
       go_simp
       refine (KK.out _ BD.out).mono ?_
       rintro r w1 ⟨rfl, hb⟩
       have A1 := hid (btr BD.out hb)
       clear hb
       go_wp2_with fail
       refine hK.out _ _ (KS.out _ A1.out) (fun hH0 => ?_)
       have hH2 := hid hH0
       clear hK K hH0
       try simp only [Act.put, jD, jE, jF]
       refine tk 6 (.bool true) rfl hH2.out ?_
       simp only [jj]
       refine tk 7 (.bool true) rfl hH2.out ?_
       simp only [jj]
       refine tn 8 undef rfl hH2.out ?_
       simp only [jj]
       refine tn 9 undef rfl hH2.out ?_
       simp only [jj]
       refine tn 10 undef rfl hH2.out ?_
       simp only [jj]
       refine tn 11 undef rfl hH2.out ?_
       simp only [jj]
       refine tn 12 undef rfl hH2.out ?_
       simp only [jj]
       refine tn 13 undef rfl hH2.out ?_
       simp only [jj]
       refine tn 14 undef rfl hH2.out ?_
       simp only [jj]
       refine tn 15 undef rfl hH2.out ?_
       simp only [jj]
       refine tn 16 undef rfl hH2.out ?_
       simp only [jj]
       refine tn 17 undef rfl hH2.out ?_
       simp only [jj]
       refine tn 18 undef rfl hH2.out ?_
       simp only [jj]
       refine tk 19 (.bool true) rfl hH2.out ?_
       simp only [jj]
       refine wpAnyH_done (by kernel_rfl) ?_ _
       clear hH hH2
       have BZ := hid (btr HWW.out A1.out)
       go_wp2_with fail
       go_ret
       exact ⟨by rw [HB.out, HN.out]; rfl, BZ.out⟩
      | true =>
       have HI := hid (show (kindAt p z).getD (-1) = 6 by simpa [isB_kind (p := p) (f := z) (k := 6) (by decide)] using hi)
       obtain ⟨j, rfl, hj0⟩ := isB_in hi
       obtain ⟨j0, rfl, hj1⟩ := isB_in (H0.out hi)
       have hj : j < p.tasks.length := by rw [HT.out]; exact hj0
       have hjj : j0 < p.tasks.length := by rw [HT.out]; exact hj1
       have hj2 : (j : Int) < (p.tasks.length : Int) := by omega
       have hj3 : (j0 : Int) < (p.tasks.length : Int) := by omega
       have hqe2 := HQ3.out (by omega)
       subst hqe2
       have K14 := hid (fun W (hb : Below w.heap.size w W) => range_at (range_belowO (HZ3.out j hj) hb) (cf_at 20 _ 14 (by omega)))
       have K9 := hid (fun W (hb : Below w.heap.size w W) => range_at (range_belowO (HZ3.out j hj) hb) (cf_at 20 _ 9 (by omega)))
       have K90 := hid (fun W (hb : Below w.heap.size w W) => range_at (range_belowO (HZ3.out j0 hjj) hb) (cf_at 20 _ 9 (by omega)))
       have HR := hid (show tB p n (j0 : Int) (j : Int) = !(p.tasks[j] 14 == (n : Int) && (p.tasks[j] 9 == 4) == (p.tasks[j0] 9 == 4)) by
        unfold tB
        rw [hi, atV_at hj, wtB_at hj, wtB_at hjj]
        rfl)
       have KK := hid (fun W (hb : Below wr.heap.size wr W) => kindOf_any V p j W (HV.out.below (btr HWW.out hb)) HP.out)
       rw [HI.out] at KK
       generalize p.tasks[j] 14 = y14 at K14 HR
       generalize p.tasks[j] 9 = y9 at K9 HR
       generalize p.tasks[j0] 9 = y90 at K90 HR
       clear hi H0 HI
       have KS := hid (show ∀ W, Below wr.heap.size wr W → W.rangeAt w.heap.size 0 (arr11 V).toList ∧ W.cell? ⟨b, off + kk, none⟩ = some (.int .i64 j) ∧ W.cell? ⟨b3, off3 + j * 20 + 14, none⟩ = some (.int .i64 y14) from fun W hb => ⟨KR.out W (btr HW.out hb), KC.out W (btr HWW.out hb), K14.out W (btr HWW.out hb)⟩)
       by_cases hy : y14 = (n : Int)
       ·have HR2 := hid (show tB p n (j0 : Int) (j : Int) = !((y9 == 4) == (y90 == 4)) by rw [HR.out, hy]; simp)
        have hy3 : (y14 != (n : Int)) = false := by simpa using hy
        clear HR hy
        go_wp2_with fail
        refine wp_region_held_drew (S := fun W => W.rangeAt w.heap.size 0 (arr11 V).toList ∧ W.cell? ⟨b, off + kk, none⟩ = some (.int .i64 j) ∧ W.cell? ⟨b3, off3 + j * 20 + 14, none⟩ = some (.int .i64 y14)) (by kernel_rfl) (KS.out _ BD.out) (fun hH0 => ?_)
        have hH := hid hH0
        clear hH0
        refine tg 0 (.agg (arr11 V)) rfl (yieldsIf_load_mid (by rfl) _ _ rfl _ _ rfl ((arr11 V).toList) _ (fun _ h => h.1) Tryz.underlying28 rfl infoW) hH.out ?_
        simp only [jj]
        refine tk 1 (.slice (some ⟨b, off, none⟩) zs.length cap) rfl hH.out ?_
        simp only [jj]
        refine tk 2 (.int .i64 kk) rfl hH.out ?_
        simp only [jj]
        refine tk 3 (.pointer (some ⟨b, off + kk, none⟩)) rfl hH.out ?_
        simp only [jj]
        refine tg 4 (.int .i64 j) rfl (Or.inl ⟨by rfl, fun W h => by have h3 := h.2.1; clear h; go_simp⟩) hH.out ?_
        simp only [jj]
        refine wpAnyH_ready (rs := [5]) (by kernel_rfl) (by simp) (AllReadyH.cons rfl (fun K hK => ?_) AllReadyH.nil)
        go_simp
        refine (KK.out _ BD.out).mono ?_
        rintro r w1 ⟨rfl, hb⟩
        have A1 := hid (btr BD.out hb)
        clear hb
        go_wp2_with fail
        refine hK.out _ _ (KS.out _ A1.out) (fun hH0 => ?_)
        have hH2 := hid hH0
        clear hK K hH0
        try simp only [Act.put, jD, jE, jF]
        refine tk 6 (.bool false) rfl hH2.out ?_
        simp only [jj]
        refine tk 7 (.bool false) rfl hH2.out ?_
        simp only [jj]
        refine tk 8 (.pointer (some ⟨w.heap.size, 3, none⟩)) rfl hH2.out ?_
        simp only [jj]
        refine tg 9 (.slice (some ⟨b3, off3, none⟩) p.tasks.length cap3) rfl (Or.inl ⟨by rfl, fun W h => by have h3 := cell3 h.1 e3; clear h; go_simp⟩) hH2.out ?_
        simp only [jj]
        refine tk 10 (.slice (some ⟨b, off, none⟩) zs.length cap) rfl hH2.out ?_
        simp only [jj]
        refine tk 11 (.int .i64 kk) rfl hH2.out ?_
        simp only [jj]
        refine tk 12 (.pointer (some ⟨b, off + kk, none⟩)) rfl hH2.out ?_
        simp only [jj]
        refine tg 13 (.int .i64 j) rfl (Or.inl ⟨by rfl, fun W h => by have h3 := h.2.1; clear h; go_simp⟩) hH2.out ?_
        simp only [jj]
        refine tk 14 (.pointer (some ⟨b3, off3 + j * 20, none⟩)) rfl hH2.out ?_
        simp only [jj]
        refine tk 15 (.pointer (some ⟨b3, off3 + j * 20 + 14, none⟩)) rfl hH2.out ?_
        simp only [jj]
        refine tg 16 (.int .i64 y14) rfl (Or.inl ⟨by rfl, fun W h => by have h3 := h.2.2; clear h; go_simp⟩) hH2.out ?_
        simp only [jj]
        refine tk 17 (.int .i64 n) rfl hH2.out ?_
        simp only [jj]
        refine tk 18 (.bool false) rfl hH2.out ?_
        simp only [jj]
        refine tk 19 (.bool false) rfl hH2.out ?_
        simp only [jj]
        refine wpAnyH_done (by kernel_rfl) ?_ _
        clear hH hH2
        have BY := hid (btr HW.out A1.out)
        have BZ := hid (btr HWW.out A1.out)
        have r3 : w1.cell? ⟨w.heap.size, 3, none⟩ = some (V 3) := range_cell (KR.out w1 BY.out) rfl
        have c0 := KC.out w1 BZ.out
        have c00 := K0.out w1 BZ.out
        rw [Nat.add_zero] at c00
        have c9 := K9.out w1 BZ.out
        have c90 := K90.out w1 BZ.out
        go_wp2_with fail
        go_quiet (fail)
        have B4 := hid (below_drewN BY.out nq)
        generalize World.drewN _ _ = W4 at B4 ⊢
        clear r3 c0 c00 c9 c90 KS KK
        have HN := hid (show (y9 == 4) = (y90 == 4) → _ from fun e => HS.out (by rw [HR2.out, e]; cases (y90 == 4) <;> rfl))
        have HM := hid (show (y9 == 4) ≠ (y90 == 4) → _ from fun e => HY.out (by rw [HR2.out]; revert e; cases (y9 == 4) <;> cases (y90 == 4) <;> simp))
        clear HR2 HS HY
        generalize (y9 == 4) = ba at HN HM ⊢
        generalize (y90 == 4) = bb at HN HM ⊢
        cases ba <;> cases bb
        ·go_wp2_with fail
         exact ⟨⟨kk + 1, by omega, by go_num, hid (HN.out rfl), B4⟩, by simp [intOf]; omega⟩
        ·go_wp2_with fail
         go_ret
         exact ⟨by rw [HB.out, HM.out (by decide)]; rfl, btr B0.out B4.out⟩
        ·go_wp2_with fail
         go_ret
         exact ⟨by rw [HB.out, HM.out (by decide)]; rfl, btr B0.out B4.out⟩
        ·go_wp2_with fail
         exact ⟨⟨kk + 1, by omega, by go_num, hid (HN.out rfl), B4⟩, by simp [intOf]; omega⟩
       ·have HN := hid (HY.out (by rw [HR.out]; simp [hy]))
        have hyn : (y14 != (n : Int)) = true := by simpa using hy
        clear HR hy HY HS
        go_wp2_with fail
        refine wp_region_held_drew (S := fun W => W.rangeAt w.heap.size 0 (arr11 V).toList ∧ W.cell? ⟨b, off + kk, none⟩ = some (.int .i64 j) ∧ W.cell? ⟨b3, off3 + j * 20 + 14, none⟩ = some (.int .i64 y14)) (by kernel_rfl) (KS.out _ BD.out) (fun hH0 => ?_)
        have hH := hid hH0
        clear hH0
        refine tg 0 (.agg (arr11 V)) rfl (yieldsIf_load_mid (by rfl) _ _ rfl _ _ rfl ((arr11 V).toList) _ (fun _ h => h.1) Tryz.underlying28 rfl infoW) hH.out ?_
        simp only [jj]
        refine tk 1 (.slice (some ⟨b, off, none⟩) zs.length cap) rfl hH.out ?_
        simp only [jj]
        refine tk 2 (.int .i64 kk) rfl hH.out ?_
        simp only [jj]
        refine tk 3 (.pointer (some ⟨b, off + kk, none⟩)) rfl hH.out ?_
        simp only [jj]
        refine tg 4 (.int .i64 j) rfl (Or.inl ⟨by rfl, fun W h => by have h3 := h.2.1; clear h; go_simp⟩) hH.out ?_
        simp only [jj]
        refine wpAnyH_ready (rs := [5]) (by kernel_rfl) (by simp) (AllReadyH.cons rfl (fun K hK => ?_) AllReadyH.nil)
        go_simp
        refine (KK.out _ BD.out).mono ?_
        rintro r w1 ⟨rfl, hb⟩
        have A1 := hid (btr BD.out hb)
        clear hb
        go_wp2_with fail
        refine hK.out _ _ (KS.out _ A1.out) (fun hH0 => ?_)
        have hH2 := hid hH0
        clear hK K hH0
        try simp only [Act.put, jD, jE, jF]
        refine tk 6 (.bool false) rfl hH2.out ?_
        simp only [jj]
        refine tk 7 (.bool false) rfl hH2.out ?_
        simp only [jj]
        refine tk 8 (.pointer (some ⟨w.heap.size, 3, none⟩)) rfl hH2.out ?_
        simp only [jj]
        refine tg 9 (.slice (some ⟨b3, off3, none⟩) p.tasks.length cap3) rfl (Or.inl ⟨by rfl, fun W h => by have h3 := cell3 h.1 e3; clear h; go_simp⟩) hH2.out ?_
        simp only [jj]
        refine tk 10 (.slice (some ⟨b, off, none⟩) zs.length cap) rfl hH2.out ?_
        simp only [jj]
        refine tk 11 (.int .i64 kk) rfl hH2.out ?_
        simp only [jj]
        refine tk 12 (.pointer (some ⟨b, off + kk, none⟩)) rfl hH2.out ?_
        simp only [jj]
        refine tg 13 (.int .i64 j) rfl (Or.inl ⟨by rfl, fun W h => by have h3 := h.2.1; clear h; go_simp⟩) hH2.out ?_
        simp only [jj]
        refine tk 14 (.pointer (some ⟨b3, off3 + j * 20, none⟩)) rfl hH2.out ?_
        simp only [jj]
        refine tk 15 (.pointer (some ⟨b3, off3 + j * 20 + 14, none⟩)) rfl hH2.out ?_
        simp only [jj]
        refine tg 16 (.int .i64 y14) rfl (Or.inl ⟨by rfl, fun W h => by have h3 := h.2.2; clear h; go_simp⟩) hH2.out ?_
        simp only [jj]
        refine tk 17 (.int .i64 n) rfl hH2.out ?_
        simp only [jj]
        refine tk 18 (.bool true) rfl hH2.out ?_
        simp only [jj]
        refine tk 19 (.bool true) rfl hH2.out ?_
        simp only [jj]
        refine wpAnyH_done (by kernel_rfl) ?_ _
        clear hH hH2
        have BZ := hid (btr HWW.out A1.out)
        go_wp2_with fail
        go_ret
        exact ⟨by rw [HB.out, HN.out]; rfl, BZ.out⟩
     ·obtain rfl : kk = zs.length := by omega
      have hge : ¬ ((zs.length : Int) < (zs.length : Int)) := by omega
      have HG := hid (show zs.any (tB p n z0) = false from any_no fun k h => HE.out k h h)
      go_wp2_with fail
      go_ret
      exact ⟨by rw [HB.out, HG.out]; rfl, HWW.out⟩
   ·have hy2 : (y != 0) = true := by simpa using hy
    have HB2 := hid (show hdB 8 y zs.length = true by simp [hdB, hz, hy])
    rw [HB2.out] at HB
    clear HB2 hy
    go_enter Tryz.func97, Tryz.ntmps97
    go_wp2_with fail
    go_ret
    exact ⟨by rw [HB.out]; rfl, B0.out⟩
  ·have h8b : (k != 8) = true := by simpa using h8
   by_cases h7 : k = 7
   ·subst h7
    by_cases hy : y = 0
    ·subst hy
     have HW := hid (show wB 0 = true by decide)
     have HB2 := hid (show hdB 7 0 zs.length = false by simp [hdB])
     rw [HB2.out] at HB
     clear HB2 h8 h8b
     go_enter Tryz.func97, Tryz.ntmps97
     go_wp2_with fail
     refine (Isa.far_any 0 65535 _).mono ?_
     rintro r w2 ⟨rfl, rfl⟩
     rw [HF.out, HW.out]
     go_wp2_with fail
     clear d1 d5 r1 r4 r5 dx2 HF HW
     generalize World.alloc _ _ = W0 at RG B0 ⊢
     go_loopw [7] (fun i wr => ∃ kk : Nat, kk ≤ zs.length ∧ i = .int .i64 kk ∧ Hid (∀ j (hj : j < zs.length), j < kk → tB p n z0 zs[j] = false) ∧ Hid (Below W0.heap.size W0 wr)) (fun i _ => zs.length - (intOf i).toNat)
     case atStart => exact ⟨0, by omega, rfl, hid fun j _ h => by omega, hid (Below.refl _ _)⟩
     case round =>
      obtain ⟨kk, hkk, rfl, HE, HW⟩ := hrel
      have HWW := hid (btr B0.out HW.out)
      by_cases hlt : kk < zs.length
      ·have hlt2 : (kk : Int) < (zs.length : Int) := by omega
       have HY := hid (show tB p n z0 zs[kk] = true → zs.any (tB p n z0) = true from fun h => any_yes kk hlt h)
       have HS := hid (show tB p n z0 zs[kk] = false → ∀ j (hj : j < zs.length), j < kk + 1 → tB p n z0 zs[j] = false from fun hf j hj hjk => by
        by_cases e : j = kk
        ·subst e; exact hf
        ·exact HE.out j hj (by omega))
       have H0 := hid (show isB p zs[kk] 6 = true → isB p z0 6 = true from fun h => by
        rw [← H00.out hz]
        by_cases e : kk = 0
        ·subst e; exact h
        ·exact tB_in (HE.out 0 hz (by omega)))
       have KC := hid (fun W (hb : Below w.heap.size w W) => (HZ.out.below hb) kk hlt)
       have K0 := hid (fun W (hb : Below w.heap.size w W) => (HZ.out.below hb) 0 hz)
       rw [H00.out hz] at K0
       have KR := hid (fun W (hb : Below W0.heap.size W0 W) => range_below RG.out hb)
       generalize zs[kk] = z at KC HY HS H0
       have BD : Hid (Below wr.heap.size wr wr.drew) := hid (below_drew wr 1)
       cases hi : isB p z 6 with
       | false =>
        have HN := hid (HY.out (by unfold tB; rw [hi]; rfl))
        have hn2 : ¬ (kindAt p z).getD (-1) = 6 := fun e => by
         rw [isB_kind (by decide), e] at hi
         simp at hi
        clear hi HY HS
        have KS := hid (show ∀ W, Below wr.heap.size wr W → W.rangeAt w.heap.size 0 (arr11 V).toList ∧ W.cell? ⟨b, off + kk, none⟩ = some (.int .i64 z) from fun W hb => ⟨KR.out W (btr HW.out hb), KC.out W (btr HWW.out hb)⟩)
        have KK := hid (fun W (hb : Below wr.heap.size wr W) => kindOf_any V p z W (HV.out.below (btr HWW.out hb)) HP.out)
        generalize (kindAt p z).getD (-1) = kd at hn2 KK
        have hn3 : (kd != 6) = true := by simpa using hn2
        go_wp2_with fail
        refine wp_region_held_drew (S := fun W => W.rangeAt w.heap.size 0 (arr11 V).toList ∧ W.cell? ⟨b, off + kk, none⟩ = some (.int .i64 z)) (by kernel_rfl) (KS.out _ BD.out) (fun hH0 => ?_)
        have hH := hid hH0
        clear hH0
        refine tg 0 (.agg (arr11 V)) rfl (yieldsIf_load_mid (by rfl) _ _ rfl _ _ rfl ((arr11 V).toList) _ (fun _ h => h.1) Tryz.underlying28 rfl infoW) hH.out ?_
        simp only [jj]
        refine tk 1 (.slice (some ⟨b, off, none⟩) zs.length cap) rfl hH.out ?_
        simp only [jj]
        refine tk 2 (.int .i64 kk) rfl hH.out ?_
        simp only [jj]
        refine tk 3 (.pointer (some ⟨b, off + kk, none⟩)) rfl hH.out ?_
        simp only [jj]
        refine tg 4 (.int .i64 z) rfl (Or.inl ⟨by rfl, fun W h => by have h3 := h.2; clear h; go_simp⟩) hH.out ?_
        simp only [jj]
        refine wpAnyH_ready (rs := [5]) (by kernel_rfl) (by simp) (AllReadyH.cons rfl (fun K hK => ?_) AllReadyH.nil)
        go_simp
        refine (KK.out _ BD.out).mono ?_
        rintro r w1 ⟨rfl, hb⟩
        have A1 := hid (btr BD.out hb)
        clear hb
        go_wp2_with fail
        refine hK.out _ _ (KS.out _ A1.out) (fun hH0 => ?_)
        have hH2 := hid hH0
        clear hK K hH0
        try simp only [Act.put, jD, jE, jF]
        refine tk 6 (.bool true) rfl hH2.out ?_
        simp only [jj]
        refine tk 7 (.bool true) rfl hH2.out ?_
        simp only [jj]
        refine tn 8 undef rfl hH2.out ?_
        simp only [jj]
        refine tn 9 undef rfl hH2.out ?_
        simp only [jj]
        refine tn 10 undef rfl hH2.out ?_
        simp only [jj]
        refine tn 11 undef rfl hH2.out ?_
        simp only [jj]
        refine tn 12 undef rfl hH2.out ?_
        simp only [jj]
        refine tn 13 undef rfl hH2.out ?_
        simp only [jj]
        refine tn 14 undef rfl hH2.out ?_
        simp only [jj]
        refine tn 15 undef rfl hH2.out ?_
        simp only [jj]
        refine tn 16 undef rfl hH2.out ?_
        simp only [jj]
        refine tn 17 undef rfl hH2.out ?_
        simp only [jj]
        refine tn 18 undef rfl hH2.out ?_
        simp only [jj]
        refine tk 19 (.bool true) rfl hH2.out ?_
        simp only [jj]
        refine wpAnyH_done (by kernel_rfl) ?_ _
        clear hH hH2
        have BZ := hid (btr HWW.out A1.out)
        go_wp2_with fail
        go_ret
        exact ⟨by rw [HB.out, HN.out]; rfl, BZ.out⟩
       | true =>
        have HI := hid (show (kindAt p z).getD (-1) = 6 by simpa [isB_kind (p := p) (f := z) (k := 6) (by decide)] using hi)
        obtain ⟨j, rfl, hj0⟩ := isB_in hi
        obtain ⟨j0, rfl, hj1⟩ := isB_in (H0.out hi)
        have hj : j < p.tasks.length := by rw [HT.out]; exact hj0
        have hjj : j0 < p.tasks.length := by rw [HT.out]; exact hj1
        have hj2 : (j : Int) < (p.tasks.length : Int) := by omega
        have hj3 : (j0 : Int) < (p.tasks.length : Int) := by omega
        have hqe2 := HQ3.out (by omega)
        subst hqe2
        have K14 := hid (fun W (hb : Below w.heap.size w W) => range_at (range_belowO (HZ3.out j hj) hb) (cf_at 20 _ 14 (by omega)))
        have K9 := hid (fun W (hb : Below w.heap.size w W) => range_at (range_belowO (HZ3.out j hj) hb) (cf_at 20 _ 9 (by omega)))
        have K90 := hid (fun W (hb : Below w.heap.size w W) => range_at (range_belowO (HZ3.out j0 hjj) hb) (cf_at 20 _ 9 (by omega)))
        have HR := hid (show tB p n (j0 : Int) (j : Int) = !(p.tasks[j] 14 == (n : Int) && (p.tasks[j] 9 == 4) == (p.tasks[j0] 9 == 4)) by
         unfold tB
         rw [hi, atV_at hj, wtB_at hj, wtB_at hjj]
         rfl)
        have KK := hid (fun W (hb : Below wr.heap.size wr W) => kindOf_any V p j W (HV.out.below (btr HWW.out hb)) HP.out)
        rw [HI.out] at KK
        generalize p.tasks[j] 14 = y14 at K14 HR
        generalize p.tasks[j] 9 = y9 at K9 HR
        generalize p.tasks[j0] 9 = y90 at K90 HR
        clear hi H0 HI
        have KS := hid (show ∀ W, Below wr.heap.size wr W → W.rangeAt w.heap.size 0 (arr11 V).toList ∧ W.cell? ⟨b, off + kk, none⟩ = some (.int .i64 j) ∧ W.cell? ⟨b3, off3 + j * 20 + 14, none⟩ = some (.int .i64 y14) from fun W hb => ⟨KR.out W (btr HW.out hb), KC.out W (btr HWW.out hb), K14.out W (btr HWW.out hb)⟩)
        by_cases hy : y14 = (n : Int)
        ·have HR2 := hid (show tB p n (j0 : Int) (j : Int) = !((y9 == 4) == (y90 == 4)) by rw [HR.out, hy]; simp)
         have hy3 : (y14 != (n : Int)) = false := by simpa using hy
         clear HR hy
         go_wp2_with fail
         refine wp_region_held_drew (S := fun W => W.rangeAt w.heap.size 0 (arr11 V).toList ∧ W.cell? ⟨b, off + kk, none⟩ = some (.int .i64 j) ∧ W.cell? ⟨b3, off3 + j * 20 + 14, none⟩ = some (.int .i64 y14)) (by kernel_rfl) (KS.out _ BD.out) (fun hH0 => ?_)
         have hH := hid hH0
         clear hH0
         refine tg 0 (.agg (arr11 V)) rfl (yieldsIf_load_mid (by rfl) _ _ rfl _ _ rfl ((arr11 V).toList) _ (fun _ h => h.1) Tryz.underlying28 rfl infoW) hH.out ?_
         simp only [jj]
         refine tk 1 (.slice (some ⟨b, off, none⟩) zs.length cap) rfl hH.out ?_
         simp only [jj]
         refine tk 2 (.int .i64 kk) rfl hH.out ?_
         simp only [jj]
         refine tk 3 (.pointer (some ⟨b, off + kk, none⟩)) rfl hH.out ?_
         simp only [jj]
         refine tg 4 (.int .i64 j) rfl (Or.inl ⟨by rfl, fun W h => by have h3 := h.2.1; clear h; go_simp⟩) hH.out ?_
         simp only [jj]
         refine wpAnyH_ready (rs := [5]) (by kernel_rfl) (by simp) (AllReadyH.cons rfl (fun K hK => ?_) AllReadyH.nil)
         go_simp
         refine (KK.out _ BD.out).mono ?_
         rintro r w1 ⟨rfl, hb⟩
         have A1 := hid (btr BD.out hb)
         clear hb
         go_wp2_with fail
         refine hK.out _ _ (KS.out _ A1.out) (fun hH0 => ?_)
         have hH2 := hid hH0
         clear hK K hH0
         try simp only [Act.put, jD, jE, jF]
         refine tk 6 (.bool false) rfl hH2.out ?_
         simp only [jj]
         refine tk 7 (.bool false) rfl hH2.out ?_
         simp only [jj]
         refine tk 8 (.pointer (some ⟨w.heap.size, 3, none⟩)) rfl hH2.out ?_
         simp only [jj]
         refine tg 9 (.slice (some ⟨b3, off3, none⟩) p.tasks.length cap3) rfl (Or.inl ⟨by rfl, fun W h => by have h3 := cell3 h.1 e3; clear h; go_simp⟩) hH2.out ?_
         simp only [jj]
         refine tk 10 (.slice (some ⟨b, off, none⟩) zs.length cap) rfl hH2.out ?_
         simp only [jj]
         refine tk 11 (.int .i64 kk) rfl hH2.out ?_
         simp only [jj]
         refine tk 12 (.pointer (some ⟨b, off + kk, none⟩)) rfl hH2.out ?_
         simp only [jj]
         refine tg 13 (.int .i64 j) rfl (Or.inl ⟨by rfl, fun W h => by have h3 := h.2.1; clear h; go_simp⟩) hH2.out ?_
         simp only [jj]
         refine tk 14 (.pointer (some ⟨b3, off3 + j * 20, none⟩)) rfl hH2.out ?_
         simp only [jj]
         refine tk 15 (.pointer (some ⟨b3, off3 + j * 20 + 14, none⟩)) rfl hH2.out ?_
         simp only [jj]
         refine tg 16 (.int .i64 y14) rfl (Or.inl ⟨by rfl, fun W h => by have h3 := h.2.2; clear h; go_simp⟩) hH2.out ?_
         simp only [jj]
         refine tk 17 (.int .i64 n) rfl hH2.out ?_
         simp only [jj]
         refine tk 18 (.bool false) rfl hH2.out ?_
         simp only [jj]
         refine tk 19 (.bool false) rfl hH2.out ?_
         simp only [jj]
         refine wpAnyH_done (by kernel_rfl) ?_ _
         clear hH hH2
         have BY := hid (btr HW.out A1.out)
         have BZ := hid (btr HWW.out A1.out)
         have r3 : w1.cell? ⟨w.heap.size, 3, none⟩ = some (V 3) := range_cell (KR.out w1 BY.out) rfl
         have c0 := KC.out w1 BZ.out
         have c00 := K0.out w1 BZ.out
         rw [Nat.add_zero] at c00
         have c9 := K9.out w1 BZ.out
         have c90 := K90.out w1 BZ.out
         go_wp2_with fail
         go_quiet (fail)
         have B4 := hid (below_drewN BY.out nq)
         generalize World.drewN _ _ = W4 at B4 ⊢
         clear r3 c0 c00 c9 c90 KS KK
         have HN := hid (show (y9 == 4) = (y90 == 4) → _ from fun e => HS.out (by rw [HR2.out, e]; cases (y90 == 4) <;> rfl))
         have HM := hid (show (y9 == 4) ≠ (y90 == 4) → _ from fun e => HY.out (by rw [HR2.out]; revert e; cases (y9 == 4) <;> cases (y90 == 4) <;> simp))
         clear HR2 HS HY
         generalize (y9 == 4) = ba at HN HM ⊢
         generalize (y90 == 4) = bb at HN HM ⊢
         cases ba <;> cases bb
         ·go_wp2_with fail
          exact ⟨⟨kk + 1, by omega, by go_num, hid (HN.out rfl), B4⟩, by simp [intOf]; omega⟩
         ·go_wp2_with fail
          go_ret
          exact ⟨by rw [HB.out, HM.out (by decide)]; rfl, btr B0.out B4.out⟩
         ·go_wp2_with fail
          go_ret
          exact ⟨by rw [HB.out, HM.out (by decide)]; rfl, btr B0.out B4.out⟩
         ·go_wp2_with fail
          exact ⟨⟨kk + 1, by omega, by go_num, hid (HN.out rfl), B4⟩, by simp [intOf]; omega⟩
        ·have HN := hid (HY.out (by rw [HR.out]; simp [hy]))
         have hyn : (y14 != (n : Int)) = true := by simpa using hy
         clear HR hy HY HS
         go_wp2_with fail
         refine wp_region_held_drew (S := fun W => W.rangeAt w.heap.size 0 (arr11 V).toList ∧ W.cell? ⟨b, off + kk, none⟩ = some (.int .i64 j) ∧ W.cell? ⟨b3, off3 + j * 20 + 14, none⟩ = some (.int .i64 y14)) (by kernel_rfl) (KS.out _ BD.out) (fun hH0 => ?_)
         have hH := hid hH0
         clear hH0
         refine tg 0 (.agg (arr11 V)) rfl (yieldsIf_load_mid (by rfl) _ _ rfl _ _ rfl ((arr11 V).toList) _ (fun _ h => h.1) Tryz.underlying28 rfl infoW) hH.out ?_
         simp only [jj]
         refine tk 1 (.slice (some ⟨b, off, none⟩) zs.length cap) rfl hH.out ?_
         simp only [jj]
         refine tk 2 (.int .i64 kk) rfl hH.out ?_
         simp only [jj]
         refine tk 3 (.pointer (some ⟨b, off + kk, none⟩)) rfl hH.out ?_
         simp only [jj]
         refine tg 4 (.int .i64 j) rfl (Or.inl ⟨by rfl, fun W h => by have h3 := h.2.1; clear h; go_simp⟩) hH.out ?_
         simp only [jj]
         refine wpAnyH_ready (rs := [5]) (by kernel_rfl) (by simp) (AllReadyH.cons rfl (fun K hK => ?_) AllReadyH.nil)
         go_simp
         refine (KK.out _ BD.out).mono ?_
         rintro r w1 ⟨rfl, hb⟩
         have A1 := hid (btr BD.out hb)
         clear hb
         go_wp2_with fail
         refine hK.out _ _ (KS.out _ A1.out) (fun hH0 => ?_)
         have hH2 := hid hH0
         clear hK K hH0
         try simp only [Act.put, jD, jE, jF]
         refine tk 6 (.bool false) rfl hH2.out ?_
         simp only [jj]
         refine tk 7 (.bool false) rfl hH2.out ?_
         simp only [jj]
         refine tk 8 (.pointer (some ⟨w.heap.size, 3, none⟩)) rfl hH2.out ?_
         simp only [jj]
         refine tg 9 (.slice (some ⟨b3, off3, none⟩) p.tasks.length cap3) rfl (Or.inl ⟨by rfl, fun W h => by have h3 := cell3 h.1 e3; clear h; go_simp⟩) hH2.out ?_
         simp only [jj]
         refine tk 10 (.slice (some ⟨b, off, none⟩) zs.length cap) rfl hH2.out ?_
         simp only [jj]
         refine tk 11 (.int .i64 kk) rfl hH2.out ?_
         simp only [jj]
         refine tk 12 (.pointer (some ⟨b, off + kk, none⟩)) rfl hH2.out ?_
         simp only [jj]
         refine tg 13 (.int .i64 j) rfl (Or.inl ⟨by rfl, fun W h => by have h3 := h.2.1; clear h; go_simp⟩) hH2.out ?_
         simp only [jj]
         refine tk 14 (.pointer (some ⟨b3, off3 + j * 20, none⟩)) rfl hH2.out ?_
         simp only [jj]
         refine tk 15 (.pointer (some ⟨b3, off3 + j * 20 + 14, none⟩)) rfl hH2.out ?_
         simp only [jj]
         refine tg 16 (.int .i64 y14) rfl (Or.inl ⟨by rfl, fun W h => by have h3 := h.2.2; clear h; go_simp⟩) hH2.out ?_
         simp only [jj]
         refine tk 17 (.int .i64 n) rfl hH2.out ?_
         simp only [jj]
         refine tk 18 (.bool true) rfl hH2.out ?_
         simp only [jj]
         refine tk 19 (.bool true) rfl hH2.out ?_
         simp only [jj]
         refine wpAnyH_done (by kernel_rfl) ?_ _
         clear hH hH2
         have BZ := hid (btr HWW.out A1.out)
         go_wp2_with fail
         go_ret
         exact ⟨by rw [HB.out, HN.out]; rfl, BZ.out⟩
      ·obtain rfl : kk = zs.length := by omega
       have hge : ¬ ((zs.length : Int) < (zs.length : Int)) := by omega
       have HG := hid (show zs.any (tB p n z0) = false from any_no fun k h => HE.out k h h)
       go_wp2_with fail
       go_ret
       exact ⟨by rw [HB.out, HG.out]; rfl, HWW.out⟩
    ·have hy2 : (y != 0) = true := by simpa using hy
     have HB2 := hid (show hdB 7 y zs.length = true by simp [hdB, hz, hy])
     rw [HB2.out] at HB
     clear HB2 hy h8 h8b
     go_enter Tryz.func97, Tryz.ntmps97
     go_wp2_with fail
     go_ret
     exact ⟨by rw [HB.out]; rfl, B0.out⟩
   ·have h7b : (k != 7) = true := by simpa using h7
    have HB2 := hid (show hdB k y zs.length = true by simp [hdB, hz, h7, h8])
    rw [HB2.out] at HB
    clear HB2 h7 h8
    go_enter Tryz.func97, Tryz.ntmps97
    go_wp2_with fail
    go_ret
    exact ⟨by rw [HB.out]; rfl, B0.out⟩
 ·have hz2 : ¬ (0 : Int) < (zs.length : Int) := by omega
  have hz0 : zs = [] := List.length_eq_zero_iff.1 (by omega)
  have HG := hid (show zs.any (tB p n z0) = false by rw [hz0]; rfl)
  clear hz0
  by_cases hy : y = 0
  ·subst hy
   have HW := hid (show wB 0 = true by decide)
   have HB2 := hid (show hdB k 0 zs.length = false by simp [hdB, hz])
   rw [HB2.out, HG.out] at HB
   clear HB2
   go_enter Tryz.func97, Tryz.ntmps97
   go_wp2_with fail
   refine (Isa.far_any 0 65535 _).mono ?_
   rintro r w2 ⟨rfl, rfl⟩
   rw [HF.out, HW.out]
   go_wp2_with fail
   go_loopw [7] (fun i wr => i = .int .i64 0 ∧ Hid (Below w.heap.size w wr)) (fun _ _ => 0)
   case atStart => exact ⟨rfl, B0⟩
   case round =>
    obtain ⟨rfl, HWX⟩ := hrel
    go_wp2_with fail
    go_ret
    exact ⟨by rw [HB.out]; rfl, HWX.out⟩
  ·have hy2 : (y != 0) = true := by simpa using hy
   by_cases h8 : k = 8
   ·subst h8
    cases hw : wB y with
    | true =>
     have HW := hid hw
     have HB2 := hid (show hdB 8 y zs.length = false by simp [hdB, hz, hw])
     rw [HB2.out, HG.out] at HB
     clear HB2 hw hy
     go_enter Tryz.func97, Tryz.ntmps97
     go_wp2_with fail
     refine (Isa.far_any y 65535 _).mono ?_
     rintro r w2 ⟨rfl, rfl⟩
     rw [HF.out, HW.out]
     go_wp2_with fail
     go_loopw [7] (fun i wr => i = .int .i64 0 ∧ Hid (Below w.heap.size w wr)) (fun _ _ => 0)
     case atStart => exact ⟨rfl, B0⟩
     case round =>
      obtain ⟨rfl, HWX⟩ := hrel
      go_wp2_with fail
      go_ret
      exact ⟨by rw [HB.out]; rfl, HWX.out⟩
    | false =>
     have HW := hid hw
     have HB2 := hid (show hdB 8 y zs.length = true by simp [hdB, hz, hw, hy])
     rw [HB2.out] at HB
     clear HB2 hw hy
     go_enter Tryz.func97, Tryz.ntmps97
     go_wp2_with fail
     refine (Isa.far_any y 65535 _).mono ?_
     rintro r w2 ⟨rfl, rfl⟩
     rw [HF.out, HW.out]
     go_wp2_with fail
     go_ret
     exact ⟨by rw [HB.out]; rfl, B0.out⟩
   ·have h8b : (k != 8) = true := by simpa using h8
    have HB2 := hid (show hdB k y zs.length = true by simp [hdB, hz, h8, hy])
    rw [HB2.out] at HB
    clear HB2 h8 hy
    go_enter Tryz.func97, Tryz.ntmps97
    go_wp2_with fail
    go_ret
    exact ⟨by rw [HB.out]; rfl, B0.out⟩
end Go.Proofs.YtoebmjgkfkfhjaaGreatDoor.Wd
