/- Whether a world is sound, by the other text: keyholdref.WorldMay; walked. (Written by mk_may.py.) -/
import Derived.Test.YtoebmjgkfkfhjaaGreatDoorWdMay0
import Derived.BigQuiet
import Derived.Deep.RegionHeld3
namespace Go.Proofs.YtoebmjgkfkfhjaaGreatDoor.Wd
open Go.RowKit Go.Proofs.YtoebmjgkfkfhjaaGreatDoor.Mem Go.Proofs.YtoebmjgkfkfhjaaGreatDoor.Bw Go.Proofs.YtoebmjgkfkfhjaaGreatDoor.Nums Go.Proofs.YtoebmjgkfkfhjaaGreatDoor.Mmu
set_option maxRecDepth 100000 in
set_option maxHeartbeats 80000000 in
theorem worldMay_yes (V : Nat → Value) (p : PW) (w : World) (hv : WorldV w V p) (hp : p.Fits) (hlf : LF p) (ht : within 0 1000000 p.time = true) (ha : wmA p = firstOf (looks p)) :
  Calls Tryz.prog 61 #[.agg (arr11 V)] w fun r w' => r = .returned (.agg #[.int .i64 (wmA p).1, .int .i64 (wmA p).2]) ∧ Below w.heap.size w w' := by
 have RG := hid (boxed w V 28)
 have B0 := hid (bal (bal (Below.refl w.heap.size w) (.cells (arr11 V) 28)) (.cells #[.int .i64 0, .int .i64 0] 53))
 have RG0 := hid (range_below RG.out (bal (Below.refl _ (w.alloc (.cells (arr11 V) 28))) (.cells #[.int .i64 0, .int .i64 0] 53)))
 have CB := hid (cells_at (w.alloc (.cells (arr11 V) 28)) #[.int .i64 0, .int .i64 0] 53 (w.heap.size + 1) (by simp))
 have FB := hid (show ∀ o, ((w.alloc (.cells (arr11 V) 28)).alloc (.cells #[.int .i64 0, .int .i64 0] 53)).frozen? ⟨w.heap.size + 1, o, none⟩ = false from fun o => World.frozen?_alloc_at _ _ _ _ (by simp))
 have SZ := hid (show w.heap.size + 1 < ((w.alloc (.cells (arr11 V) 28)).alloc (.cells #[.int .i64 0, .int .i64 0] 53)).heap.size by simp)
 obtain ⟨q0, b0, off0, cap0, e0, hq0, hz0⟩ := hv.ram
 obtain ⟨q1, b1, off1, cap1, e1, hq1, hz1⟩ := hv.kinds
 obtain ⟨q6, b6, off6, cap6, e6, hq6, hz6⟩ := hv.cores
 obtain ⟨q7, b7, off7, cap7, e7, hq7, hz7⟩ := hv.ready
 obtain ⟨q8, b8, off8, cap8, e8, hq8, hz8⟩ := hv.tlbs
 obtain ⟨q9, b9, off9, cap9, e9, hq9, hz9⟩ := hv.doms
 obtain ⟨q2, c2, e2⟩ := hv.slots.slice
 obtain ⟨q3, c3, e3⟩ := hv.tasks.slice
 obtain ⟨q4, c4, e4⟩ := lens_in hv.lines
 obtain ⟨q5, c5, e5⟩ := len_in hv.bits
 have e10 := hv.time
 have l0 : (p.ram.length : Int) ≤ 1000 := by have := hp.ram; omega
 have l1 : (p.kinds.length : Int) ≤ 1000 := by have := hp.kinds; omega
 have l2 : (p.slots.length : Int) ≤ 1000 := by have := hp.slots; omega
 have l3 : (p.tasks.length : Int) ≤ 1000 := by have := hp.tasks; omega
 have l4 : (p.lines.length : Int) ≤ 1000 := by have := hp.lines; omega
 have l5 : (p.bits.length : Int) ≤ 1000 := by have := hp.bits; omega
 have l6 : (p.cores.length : Int) ≤ 1000 := by have := hp.cores; omega
 have l7 : (p.ready.length : Int) ≤ 1000 := by have := hp.ready; omega
 have l8 : (p.tlbs.length : Int) ≤ 1000 := by have := hp.tlbs; omega
 have l9 : (p.doms.length : Int) ≤ 1000 := by have := hp.doms; omega
 obtain rfl := hq0 (by have := hlf.k1; have := hlf.ram; omega)
 have HZ0 := hid hz0
 clear hq0 hz0
 obtain rfl := hq1 (by have := hlf.k1; omega)
 have HZ1 := hid hz1
 clear hq1 hz1
 obtain rfl := hq6 (by have := hlf.c1; omega)
 have HZ6 := hid hz6
 clear hq6 hz6
 obtain rfl := hq7 (by have := hlf.c1; have := hlf.ready; omega)
 have HZ7 := hid hz7
 clear hq7 hz7
 obtain rfl := hq8 (by have := hlf.c1; have := hlf.tlbs; omega)
 have HZ8 := hid hz8
 clear hq8 hz8
 obtain rfl := hq9 (by have := hlf.d1; omega)
 have HZ9 := hid hz9
 clear hq9 hz9
 have HL := hid hlf
 have HP := hid hp
 have HV0 := hid hv
 have HTM := hid ht
 have HA := hid (ha.trans (congrArg firstOf (looks_eq p)))
 have yk1 : ¬ (p.kinds.length : Int) < 1 := by have := hlf.k1; omega
 have yk2 : ¬ (24 : Int) < (p.kinds.length : Int) := by have := hlf.k2; omega
 have yc1 : ¬ (p.cores.length : Int) < 1 := by have := hlf.c1; omega
 have yc2 : ¬ (4 : Int) < (p.cores.length : Int) := by have := hlf.c2; omega
 have yd1 : ¬ (p.doms.length : Int) < 1 := by have := hlf.d1; omega
 have yd2 : ¬ (8 : Int) < (p.doms.length : Int) := by have := hlf.d2; omega
 have yram : ((p.ram.length : Int) != (p.kinds.length : Int) * 16) = false := by have := hlf.ram; simp; omega
 have yslots : ((p.slots.length : Int) != (p.kinds.length : Int) * 16) = false := by have := hlf.slots; simp; omega
 have ytasks : ((p.tasks.length : Int) != (p.kinds.length : Int)) = false := by have := hlf.tasks; simp; omega
 have ylines : ((p.lines.length : Int) != (p.kinds.length : Int)) = false := by have := hlf.lines; simp; omega
 have ybits : ((p.bits.length : Int) != (p.kinds.length : Int)) = false := by have := hlf.bits; simp; omega
 have yready : ((p.ready.length : Int) != (p.cores.length : Int) * 4) = false := by have := hlf.ready; simp; omega
 have ytlbs : ((p.tlbs.length : Int) != (p.cores.length : Int)) = false := by have := hlf.tlbs; simp; omega
 clear hv hp hlf ht ha RG
 have g0 : ((w.alloc (.cells (arr11 V) 28)).alloc (.cells #[.int .i64 0, .int .i64 0] 53)).cell? ⟨w.heap.size, 0, none⟩ = some (V 0) := range_cell RG0.out rfl
 have g1 : ((w.alloc (.cells (arr11 V) 28)).alloc (.cells #[.int .i64 0, .int .i64 0] 53)).cell? ⟨w.heap.size, 1, none⟩ = some (V 1) := range_cell RG0.out rfl
 have g2 : ((w.alloc (.cells (arr11 V) 28)).alloc (.cells #[.int .i64 0, .int .i64 0] 53)).cell? ⟨w.heap.size, 2, none⟩ = some (V 2) := range_cell RG0.out rfl
 have g3 : ((w.alloc (.cells (arr11 V) 28)).alloc (.cells #[.int .i64 0, .int .i64 0] 53)).cell? ⟨w.heap.size, 3, none⟩ = some (V 3) := range_cell RG0.out rfl
 have g4 : ((w.alloc (.cells (arr11 V) 28)).alloc (.cells #[.int .i64 0, .int .i64 0] 53)).cell? ⟨w.heap.size, 4, none⟩ = some (V 4) := range_cell RG0.out rfl
 have g5 : ((w.alloc (.cells (arr11 V) 28)).alloc (.cells #[.int .i64 0, .int .i64 0] 53)).cell? ⟨w.heap.size, 5, none⟩ = some (V 5) := range_cell RG0.out rfl
 have g6 : ((w.alloc (.cells (arr11 V) 28)).alloc (.cells #[.int .i64 0, .int .i64 0] 53)).cell? ⟨w.heap.size, 6, none⟩ = some (V 6) := range_cell RG0.out rfl
 have g7 : ((w.alloc (.cells (arr11 V) 28)).alloc (.cells #[.int .i64 0, .int .i64 0] 53)).cell? ⟨w.heap.size, 7, none⟩ = some (V 7) := range_cell RG0.out rfl
 have g8 : ((w.alloc (.cells (arr11 V) 28)).alloc (.cells #[.int .i64 0, .int .i64 0] 53)).cell? ⟨w.heap.size, 8, none⟩ = some (V 8) := range_cell RG0.out rfl
 have g9 : ((w.alloc (.cells (arr11 V) 28)).alloc (.cells #[.int .i64 0, .int .i64 0] 53)).cell? ⟨w.heap.size, 9, none⟩ = some (V 9) := range_cell RG0.out rfl
 have g10 : ((w.alloc (.cells (arr11 V) 28)).alloc (.cells #[.int .i64 0, .int .i64 0] 53)).cell? ⟨w.heap.size, 10, none⟩ = some (V 10) := range_cell RG0.out rfl
 go_enter Tryz.func61, Tryz.ntmps61
 go_upto_region 3 with fail
 simp only [List.append_eq, List.cons_append, List.nil_append]
 go_wp2_with fail
 refine (farW p.time 1000000 _).mono ?_
 rintro r w1 ⟨rfl, rfl⟩
 rw [HTM.out]
 go_wp2_with fail
 clear g0 g1 g2 g3 g4 g5 g6 g7 g8 g9 g10 yk1 yk2 yc1 yc2 yd1 yd2 yram yslots ytasks ylines ybits yready ytlbs
 generalize World.alloc _ _ = W0 at *
 have BE := B0
 clear B0
 have KR := hid (show ∀ W, Below W0.heap.size W0 W → W.rangeAt w.heap.size 0 (arr11 V).toList ∧ (∀ o, W.cell? ⟨w.heap.size + 1, o, none⟩ = (#[.int .i64 0, .int .i64 0] : Array Value)[o]?) ∧ (∀ o, W.frozen? ⟨w.heap.size + 1, o, none⟩ = false) from fun W hb => ⟨range_below RG0.out hb, cells_next CB.out SZ.out hb, fun o => (hb.frozen (p := ⟨w.heap.size + 1, o, none⟩) SZ.out).trans (FB.out o)⟩)
 have HVW := hid (fun W (hb : Below W0.heap.size W0 W) => HV0.out.below (btr BE.out hb))
 clear RG0 CB FB SZ HV0 HTM e10
 have C0 := hid (Below.refl W0.heap.size W0)
 go_loopw [5] (fun i wr => ∃ k : Nat, k ≤ p.ram.length ∧ i = .int .i64 k ∧ Hid (∀ j (hj : j < p.ram.length), j < k → bad0 p j p.ram[j] = false) ∧ Hid (Below W0.heap.size W0 wr)) (fun i _ => p.ram.length - (intOf i).toNat)
 case atStart => exact ⟨0, by omega, rfl, hid fun j _ h => by omega, C0⟩
 case round =>
  obtain ⟨k, hk, rfl, HE, HW⟩ := hrel
  have g0 : wr.cell? ⟨w.heap.size, 0, none⟩ = some (V 0) := range_cell (KR.out wr HW.out).1 rfl
  by_cases hlt : k < p.ram.length
  ·have hlt2 : (k : Int) < (p.ram.length : Int) := by omega
   have hkf : k < p.ram.length := by omega
   have HY := hid (show (!within 0 65535 p.ram[k]) = true → bad0 p k p.ram[k] = true from id)
   have HS := hid (show (!within 0 65535 p.ram[k]) = false → ∀ j (hj : j < p.ram.length), j < k + 1 → bad0 p j p.ram[j] = false from fun hf j hj hjk => by
    by_cases e : j = k
    ·subst e; exact hf
    ·exact HE.out j hj (by omega))
   have cz := (HZ0.out.below (btr BE.out HW.out)) k hkf
   have CT := hid (farW p.ram[k] 65535 wr)
   generalize within 0 65535 p.ram[k] = bb at CT HY HS
   go_wp2_with fail
   refine CT.out.mono ?_
   rintro r w1 ⟨rfl, rfl⟩
   clear CT cz
   cases bb with
   | false =>
    have HN := hid (show wmA p = (1, (k : Int)) by
     rw [HA.out, lk_some (bad := bad0 p) k hkf (HY.out rfl) HE.out]
     rfl)
    clear HY HS HE
    have cc := (KR.out wr HW.out).2.1
    have ff := (KR.out wr HW.out).2.2
    go_wp2_with fail
    have qq := two_set (v0 := .int .i64 1) (v1 := .int .i64 k) cc
    exact bodyPost_ret (v := .agg #[.int .i64 1, .int .i64 k]) (by simp [results, Tryz.results61, go_sem, qq 0, qq 1]) rfl ⟨by rw [HN.out], bset (bset (btr BE.out HW.out) (Nat.le_succ _) _) (Nat.le_succ _) _⟩
   | true =>
    have HT := hid (HS.out rfl)
    clear HY HS HE
    go_wp2_with fail
    exact ⟨⟨k + 1, by omega, by go_num, HT, HW⟩, by simp [intOf]; omega⟩
  ·obtain rfl : k = p.ram.length := by omega
   have hge : ¬ ((p.ram.length : Int) < (p.ram.length : Int)) := by omega
   have HX := hid (show ∀ j (hj : j < p.ram.length), bad0 p j p.ram[j] = false from fun j hj => HE.out j hj (by omega))
   have L0 := hid (lk_none (bad := bad0 p) HX.out)
   have HRW := hid (fun (k : Nat) (hk : k < p.ram.length) => nw_in (HX.out k hk))
   clear HX HE hk hlt
   go_wp2_with fail
   clear hge g0
   generalize wr = v1 at *
   rename Hid (Below W0.heap.size W0 v1) => C1
   go_loopw [6] (fun i wr => ∃ k : Nat, k ≤ p.kinds.length ∧ i = .int .i64 k ∧ Hid (∀ j (hj : j < p.kinds.length), j < k → bad1 p j p.kinds[j] = false) ∧ Hid (Below W0.heap.size W0 wr)) (fun i _ => p.kinds.length - (intOf i).toNat)
   case atStart => exact ⟨0, by omega, rfl, hid fun j _ h => by omega, C1⟩
   case round =>
    obtain ⟨k, hk, rfl, HE, HW⟩ := hrel
    have g1 : wr.cell? ⟨w.heap.size, 1, none⟩ = some (V 1) := range_cell (KR.out wr HW.out).1 rfl
    by_cases hlt : k < p.kinds.length
    ·have hlt2 : (k : Int) < (p.kinds.length : Int) := by omega
     have hkf : k < p.kinds.length := by omega
     have HY := hid (show (!within 0 8 p.kinds[k] || p.kinds[k] == 1) = true → bad1 p k p.kinds[k] = true from id)
     have HS := hid (show (!within 0 8 p.kinds[k] || p.kinds[k] == 1) = false → ∀ j (hj : j < p.kinds.length), j < k + 1 → bad1 p j p.kinds[j] = false from fun hf j hj hjk => by
      by_cases e : j = k
      ·subst e; exact hf
      ·exact HE.out j hj (by omega))
     have cz := (HZ1.out.below (btr BE.out HW.out)) k hkf
     have CT := hid (farW p.kinds[k] 8 wr)
     generalize within 0 8 p.kinds[k] = bb at CT HY HS
     have hz1 : (p.kinds[k] == 1) = (p.kinds[k] == 1) := rfl
     generalize hb1 : (p.kinds[k] == 1) = b1 at HY HS hz1
     clear hz1
     go_wp2_with fail
     refine CT.out.mono ?_
     rintro r w1 ⟨rfl, rfl⟩
     clear CT
     cases bb with
     | false =>
      clear hb1
      have HN := hid (show wmA p = (3, (k : Int)) by
       rw [HA.out, L0.out, lk_some (bad := bad1 p) k hkf (HY.out rfl) HE.out]
       rfl)
      clear HY HS HE
      have cc := (KR.out wr HW.out).2.1
      have ff := (KR.out wr HW.out).2.2
      go_wp2_with fail
      have qq := two_set (v0 := .int .i64 3) (v1 := .int .i64 k) cc
      exact bodyPost_ret (v := .agg #[.int .i64 3, .int .i64 k]) (by simp [results, Tryz.results61, go_sem, qq 0, qq 1]) rfl ⟨by rw [HN.out], bset (bset (btr BE.out HW.out) (Nat.le_succ _) _) (Nat.le_succ _) _⟩
     | true =>
      cases b1 with
      | true =>
       have HN := hid (show wmA p = (3, (k : Int)) by
        rw [HA.out, L0.out, lk_some (bad := bad1 p) k hkf (HY.out rfl) HE.out]
        rfl)
       clear HY HS HE
       have cc := (KR.out wr HW.out).2.1
       have ff := (KR.out wr HW.out).2.2
       go_wp2_with fail
       have qq := two_set (v0 := .int .i64 3) (v1 := .int .i64 k) cc
       exact bodyPost_ret (v := .agg #[.int .i64 3, .int .i64 k]) (by simp [results, Tryz.results61, go_sem, qq 0, qq 1]) rfl ⟨by rw [HN.out], bset (bset (btr BE.out HW.out) (Nat.le_succ _) _) (Nat.le_succ _) _⟩
      | false =>
       have HT := hid (HS.out rfl)
       clear HY HS HE
       go_wp2_with fail
       exact ⟨⟨k + 1, by omega, by go_num, HT, HW⟩, by simp [intOf]; omega⟩
    ·obtain rfl : k = p.kinds.length := by omega
     have hge : ¬ ((p.kinds.length : Int) < (p.kinds.length : Int)) := by omega
     have HX := hid (show ∀ j (hj : j < p.kinds.length), bad1 p j p.kinds[j] = false from fun j hj => HE.out j hj (by omega))
     have L1 := hid (lk_none (bad := bad1 p) HX.out)
     clear HX HE hk hlt
     go_wp2_with fail
     clear hge g1
     generalize wr = v2 at *
     rename Hid (Below W0.heap.size W0 v2) => C2
     go_loopw [7] (fun i wr => ∃ k : Nat, k ≤ p.doms.length ∧ i = .int .i64 k ∧ Hid (∀ j (hj : j < p.doms.length), j < k → bad2 p j p.doms[j] = false) ∧ Hid (Below W0.heap.size W0 wr)) (fun i _ => p.doms.length - (intOf i).toNat)
     case atStart => exact ⟨0, by omega, rfl, hid fun j _ h => by omega, C2⟩
     case round =>
      obtain ⟨k, hk, rfl, HE, HW⟩ := hrel
      have g9 : wr.cell? ⟨w.heap.size, 9, none⟩ = some (V 9) := range_cell (KR.out wr HW.out).1 rfl
      by_cases hlt : k < p.doms.length
      ·have hlt2 : (k : Int) < (p.doms.length : Int) := by omega
       have hkf : k < p.doms.length := by omega
       have HY := hid (show (!within 0 3 p.doms[k]) = true → bad2 p k p.doms[k] = true from id)
       have HS := hid (show (!within 0 3 p.doms[k]) = false → ∀ j (hj : j < p.doms.length), j < k + 1 → bad2 p j p.doms[j] = false from fun hf j hj hjk => by
        by_cases e : j = k
        ·subst e; exact hf
        ·exact HE.out j hj (by omega))
       have cz := (HZ9.out.below (btr BE.out HW.out)) k hkf
       have CT := hid (farW p.doms[k] 3 wr)
       generalize within 0 3 p.doms[k] = bb at CT HY HS
       go_wp2_with fail
       refine CT.out.mono ?_
       rintro r w1 ⟨rfl, rfl⟩
       clear CT cz
       cases bb with
       | false =>
        have HN := hid (show wmA p = (2, (k : Int)) by
         rw [HA.out, L0.out, L1.out, lk_some (bad := bad2 p) k hkf (HY.out rfl) HE.out]
         rfl)
        clear HY HS HE
        have cc := (KR.out wr HW.out).2.1
        have ff := (KR.out wr HW.out).2.2
        go_wp2_with fail
        have qq := two_set (v0 := .int .i64 2) (v1 := .int .i64 k) cc
        exact bodyPost_ret (v := .agg #[.int .i64 2, .int .i64 k]) (by simp [results, Tryz.results61, go_sem, qq 0, qq 1]) rfl ⟨by rw [HN.out], bset (bset (btr BE.out HW.out) (Nat.le_succ _) _) (Nat.le_succ _) _⟩
       | true =>
        have HT := hid (HS.out rfl)
        clear HY HS HE
        go_wp2_with fail
        exact ⟨⟨k + 1, by omega, by go_num, HT, HW⟩, by simp [intOf]; omega⟩
      ·obtain rfl : k = p.doms.length := by omega
       have hge : ¬ ((p.doms.length : Int) < (p.doms.length : Int)) := by omega
       have HX := hid (show ∀ j (hj : j < p.doms.length), bad2 p j p.doms[j] = false from fun j hj => HE.out j hj (by omega))
       have L2 := hid (lk_none (bad := bad2 p) HX.out)
       clear HX HE hk hlt
       go_wp2_with fail
       clear hge g9
       generalize wr = v3 at *
       rename Hid (Below W0.heap.size W0 v3) => C3
       go_loopw [8] (fun i wr => ∃ k : Nat, k ≤ p.slots.length ∧ i = .int .i64 k ∧ Hid (∀ j (hj : j < p.slots.length), j < k → bad3 p j p.slots[j] = false) ∧ Hid (Below W0.heap.size W0 wr)) (fun i _ => p.slots.length - (intOf i).toNat)
       case atStart => exact ⟨0, by omega, rfl, hid fun j _ h => by omega, C3⟩
       case round =>
        obtain ⟨k, hk, rfl, HE, HW⟩ := hrel
        have g2 : wr.cell? ⟨w.heap.size, 2, none⟩ = some (V 2) := range_cell (KR.out wr HW.out).1 rfl
        by_cases hlt : k < p.slots.length
        ·have hlt2 : (k : Int) < (p.slots.length : Int) := by omega
         have hkf : k < p.slots.length := by omega
         have HS := hid (show bad3 p k p.slots[k] = false → ∀ j (hj : j < p.slots.length), j < k + 1 → bad3 p j p.slots[j] = false from fun hf j hj hjk => by
          by_cases e : j = k
          ·subst e; exact hf
          ·exact HE.out j hj (by omega))
         have CT := hid (show Calls Tryz.prog 94 #[.agg (arr11 V), .int .i64 k] wr (fun r w' => r = .returned (.bool (!bad3 p k p.slots[k])) ∧ Below wr.heap.size wr w') from by
           have hk2 : k / 16 < p.kinds.length := by have := HL.out.slots; omega
           have := slotWell_any V p k (k / 16) wr (HVW.out wr HW.out) HP.out hkf (by omega) hk2
           rw [← getD_at hk2] at this
           exact this)
         have RGc := hid (KR.out wr HW.out).1
         cases hbb : bad3 p k p.slots[k] with
         | true =>
          have HBD := hid hbb
          clear HS
          rw [hbb] at CT
          clear hbb
          go_wp2_with (first | ((with_reducible (show wpList _ _ _ (⟨_, Op.load 28 _, _, _, _, _⟩ :: _) _ _)); refine wp_ldWg (by rfl) _ rfl _ rfl V RGc.out ?_))
          refine CT.out.mono ?_
          rintro r w1 ⟨rfl, hb⟩
          have C := hid (btr HW.out hb)
          clear CT hb RGc
          have HN := hid (show wmA p = (8, (k : Int)) by
           rw [HA.out, L0.out, L1.out, L2.out, lk_some (bad := bad3 p) k hkf (HBD.out) HE.out]
           rfl)
          clear HBD HE
          have cc := (KR.out w1 C.out).2.1
          have ff := (KR.out w1 C.out).2.2
          go_wp2_with fail
          have qq := two_set (v0 := .int .i64 8) (v1 := .int .i64 k) cc
          exact bodyPost_ret (v := .agg #[.int .i64 8, .int .i64 k]) (by simp [results, Tryz.results61, go_sem, qq 0, qq 1]) rfl ⟨by rw [HN.out], bset (bset (btr BE.out C.out) (Nat.le_succ _) _) (Nat.le_succ _) _⟩
         | false =>
          have HT := hid (HS.out hbb)
          clear HS HE
          rw [hbb] at CT
          clear hbb
          go_wp2_with (first | ((with_reducible (show wpList _ _ _ (⟨_, Op.load 28 _, _, _, _, _⟩ :: _) _ _)); refine wp_ldWg (by rfl) _ rfl _ rfl V RGc.out ?_))
          refine CT.out.mono ?_
          rintro r w1 ⟨rfl, hb⟩
          have C := hid (btr HW.out hb)
          clear CT hb RGc
          go_wp2_with fail
          exact ⟨⟨k + 1, by omega, by go_num, HT, C⟩, by simp [intOf]; omega⟩
        ·obtain rfl : k = p.slots.length := by omega
         have hge : ¬ ((p.slots.length : Int) < (p.slots.length : Int)) := by omega
         have HX := hid (show ∀ j (hj : j < p.slots.length), bad3 p j p.slots[j] = false from fun j hj => HE.out j hj (by omega))
         have L3 := hid (lk_none (bad := bad3 p) HX.out)
         have HKB := hid (kb_of (g := fun k => p.kinds.getD (k / 16) 0) (fun k hk => HX.out k hk))
         clear HX HE hk hlt
         go_wp2_with fail
         clear hge g2
         generalize wr = v4 at *
         rename Hid (Below W0.heap.size W0 v4) => C4
         go_loopw [9] (fun i wr => ∃ k : Nat, k ≤ p.kinds.length ∧ i = .int .i64 k ∧ Hid (∀ j (hj : j < p.kinds.length), j < k → bad4 p j p.kinds[j] = false) ∧ Hid (Below W0.heap.size W0 wr)) (fun i _ => p.kinds.length - (intOf i).toNat)
         case atStart => exact ⟨0, by omega, rfl, hid fun j _ h => by omega, C4⟩
         case round =>
          obtain ⟨k, hk, rfl, HE, HW⟩ := hrel
          by_cases hlt : k < p.kinds.length
          ·have hlt2 : (k : Int) < (p.kinds.length : Int) := by omega
           have hkf : k < p.kinds.length := by omega
           have HS := hid (show bad4 p k p.kinds[k] = false → ∀ j (hj : j < p.kinds.length), j < k + 1 → bad4 p j p.kinds[j] = false from fun hf j hj hjk => by
            by_cases e : j = k
            ·subst e; exact hf
            ·exact HE.out j hj (by omega))
           have CT := hid (show Calls Tryz.prog 95 #[.agg (arr11 V), .int .i64 k] wr (fun r w' => r = .returned (.bool (!bad4 p k p.kinds[k])) ∧ Below wr.heap.size wr w') from frameWell_any V p k wr (HVW.out wr HW.out) HP.out HKB.out hkf)
           have RGc := hid (KR.out wr HW.out).1
           cases hbb : bad4 p k p.kinds[k] with
           | true =>
            have HBD := hid hbb
            clear HS
            rw [hbb] at CT
            clear hbb
            go_wp2_with (first | ((with_reducible (show wpList _ _ _ (⟨_, Op.load 28 _, _, _, _, _⟩ :: _) _ _)); refine wp_ldWg (by rfl) _ rfl _ rfl V RGc.out ?_))
            refine CT.out.mono ?_
            rintro r w1 ⟨rfl, hb⟩
            have C := hid (btr HW.out hb)
            clear CT hb RGc
            have HN := hid (show wmA p = (8, (k : Int)) by
             rw [HA.out, L0.out, L1.out, L2.out, L3.out, lk_some (bad := bad4 p) k hkf (HBD.out) HE.out]
             rfl)
            clear HBD HE
            have cc := (KR.out w1 C.out).2.1
            have ff := (KR.out w1 C.out).2.2
            go_wp2_with fail
            have qq := two_set (v0 := .int .i64 8) (v1 := .int .i64 k) cc
            exact bodyPost_ret (v := .agg #[.int .i64 8, .int .i64 k]) (by simp [results, Tryz.results61, go_sem, qq 0, qq 1]) rfl ⟨by rw [HN.out], bset (bset (btr BE.out C.out) (Nat.le_succ _) _) (Nat.le_succ _) _⟩
           | false =>
            have HT := hid (HS.out hbb)
            clear HS HE
            rw [hbb] at CT
            clear hbb
            go_wp2_with (first | ((with_reducible (show wpList _ _ _ (⟨_, Op.load 28 _, _, _, _, _⟩ :: _) _ _)); refine wp_ldWg (by rfl) _ rfl _ rfl V RGc.out ?_))
            refine CT.out.mono ?_
            rintro r w1 ⟨rfl, hb⟩
            have C := hid (btr HW.out hb)
            clear CT hb RGc
            go_wp2_with fail
            exact ⟨⟨k + 1, by omega, by go_num, HT, C⟩, by simp [intOf]; omega⟩
          ·obtain rfl : k = p.kinds.length := by omega
           have hge : ¬ ((p.kinds.length : Int) < (p.kinds.length : Int)) := by omega
           have HX := hid (show ∀ j (hj : j < p.kinds.length), bad4 p j p.kinds[j] = false from fun j hj => HE.out j hj (by omega))
           have L4 := hid (lk_none (bad := bad4 p) HX.out)
           clear HX HE hk hlt
           go_wp2_with fail
           clear hge
           generalize wr = v5 at *
           rename Hid (Below W0.heap.size W0 v5) => C5
           go_loopw [10] (fun i wr => ∃ k : Nat, k ≤ p.kinds.length ∧ i = .int .i64 k ∧ Hid (∀ j (hj : j < p.tasks.length), j < k → bad5 p j p.tasks[j] = false) ∧ Hid (Below W0.heap.size W0 wr)) (fun i _ => p.kinds.length - (intOf i).toNat)
           case atStart => exact ⟨0, by omega, rfl, hid fun j _ h => by omega, C5⟩
           case round =>
            obtain ⟨k, hk, rfl, HE, HW⟩ := hrel
            by_cases hlt : k < p.kinds.length
            ·have hlt2 : (k : Int) < (p.kinds.length : Int) := by omega
             have hkf : k < p.tasks.length := by have := HL.out.tasks; omega
             have HS := hid (show bad5 p k p.tasks[k] = false → ∀ j (hj : j < p.tasks.length), j < k + 1 → bad5 p j p.tasks[j] = false from fun hf j hj hjk => by
              by_cases e : j = k
              ·subst e; exact hf
              ·exact HE.out j hj (by omega))
             have CT := hid (show Calls Tryz.prog 96 #[.agg (arr11 V), .int .i64 k] wr (fun r w' => r = .returned (.bool (!bad5 p k p.tasks[k])) ∧ Below wr.heap.size wr w') from by
               have := taskWell_any V p k wr (HVW.out wr HW.out) HP.out hlt HL.out.tasks HL.out.lines
               rw [← getD_at hlt] at this
               exact this)
             have RGc := hid (KR.out wr HW.out).1
             cases hbb : bad5 p k p.tasks[k] with
             | true =>
              have HBD := hid hbb
              clear HS
              rw [hbb] at CT
              clear hbb
              go_wp2_with (first | ((with_reducible (show wpList _ _ _ (⟨_, Op.load 28 _, _, _, _, _⟩ :: _) _ _)); refine wp_ldWg (by rfl) _ rfl _ rfl V RGc.out ?_))
              refine CT.out.mono ?_
              rintro r w1 ⟨rfl, hb⟩
              have C := hid (btr HW.out hb)
              clear CT hb RGc
              have HN := hid (show wmA p = (8, (k : Int)) by
               rw [HA.out, L0.out, L1.out, L2.out, L3.out, L4.out, lk_some (bad := bad5 p) k hkf (HBD.out) HE.out]
               rfl)
              clear HBD HE
              have cc := (KR.out w1 C.out).2.1
              have ff := (KR.out w1 C.out).2.2
              go_wp2_with fail
              have qq := two_set (v0 := .int .i64 8) (v1 := .int .i64 k) cc
              exact bodyPost_ret (v := .agg #[.int .i64 8, .int .i64 k]) (by simp [results, Tryz.results61, go_sem, qq 0, qq 1]) rfl ⟨by rw [HN.out], bset (bset (btr BE.out C.out) (Nat.le_succ _) _) (Nat.le_succ _) _⟩
             | false =>
              have HT := hid (HS.out hbb)
              clear HS HE
              rw [hbb] at CT
              clear hbb
              go_wp2_with (first | ((with_reducible (show wpList _ _ _ (⟨_, Op.load 28 _, _, _, _, _⟩ :: _) _ _)); refine wp_ldWg (by rfl) _ rfl _ rfl V RGc.out ?_))
              refine CT.out.mono ?_
              rintro r w1 ⟨rfl, hb⟩
              have C := hid (btr HW.out hb)
              clear CT hb RGc
              go_wp2_with fail
              exact ⟨⟨k + 1, by omega, by go_num, HT, C⟩, by simp [intOf]; omega⟩
            ·obtain rfl : k = p.kinds.length := by omega
             have hge : ¬ ((p.kinds.length : Int) < (p.kinds.length : Int)) := by omega
             have HX := hid (show ∀ j (hj : j < p.tasks.length), bad5 p j p.tasks[j] = false from fun j hj => HE.out j hj (by have := HL.out.tasks; omega))
             have L5 := hid (lk_none (bad := bad5 p) HX.out)
             clear HX HE hk hlt
             go_wp2_with fail
             clear hge
             generalize wr = v6 at *
             rename Hid (Below W0.heap.size W0 v6) => C6
             go_loopw [11] (fun i wr => ∃ k : Nat, k ≤ p.kinds.length ∧ i = .int .i64 k ∧ Hid (∀ j (hj : j < p.lines.length), j < k → bad6 p j p.lines[j] = false) ∧ Hid (Below W0.heap.size W0 wr)) (fun i _ => p.kinds.length - (intOf i).toNat)
             case atStart => exact ⟨0, by omega, rfl, hid fun j _ h => by omega, C6⟩
             case round =>
              obtain ⟨k, hk, rfl, HE, HW⟩ := hrel
              by_cases hlt : k < p.kinds.length
              ·have hlt2 : (k : Int) < (p.kinds.length : Int) := by omega
               have hkf : k < p.lines.length := by have := HL.out.lines; omega
               have HS := hid (show bad6 p k p.lines[k] = false → ∀ j (hj : j < p.lines.length), j < k + 1 → bad6 p j p.lines[j] = false from fun hf j hj hjk => by
                by_cases e : j = k
                ·subst e; exact hf
                ·exact HE.out j hj (by omega))
               have CT := hid (show Calls Tryz.prog 97 #[.agg (arr11 V), .int .i64 k] wr (fun r w' => r = .returned (.bool (!bad6 p k p.lines[k])) ∧ Below wr.heap.size wr w') from by
                 have hk3 : k < p.bits.length := by have := HL.out.bits; omega
                 have := lineWell_any V p k p.lines[k] wr (HVW.out wr HW.out) HP.out HL.out.tasks hlt hk3 hkf rfl
                 rw [← getD_at hlt, ← getD_at hk3] at this
                 exact this)
               have RGc := hid (KR.out wr HW.out).1
               cases hbb : bad6 p k p.lines[k] with
               | true =>
                have HBD := hid hbb
                clear HS
                rw [hbb] at CT
                clear hbb
                go_wp2_with (first | ((with_reducible (show wpList _ _ _ (⟨_, Op.load 28 _, _, _, _, _⟩ :: _) _ _)); refine wp_ldWg (by rfl) _ rfl _ rfl V RGc.out ?_))
                refine CT.out.mono ?_
                rintro r w1 ⟨rfl, hb⟩
                have C := hid (btr HW.out hb)
                clear CT hb RGc
                have HN := hid (show wmA p = (8, (k : Int)) by
                 rw [HA.out, L0.out, L1.out, L2.out, L3.out, L4.out, L5.out, lk_some (bad := bad6 p) k hkf (HBD.out) HE.out]
                 rfl)
                clear HBD HE
                have cc := (KR.out w1 C.out).2.1
                have ff := (KR.out w1 C.out).2.2
                go_wp2_with fail
                have qq := two_set (v0 := .int .i64 8) (v1 := .int .i64 k) cc
                exact bodyPost_ret (v := .agg #[.int .i64 8, .int .i64 k]) (by simp [results, Tryz.results61, go_sem, qq 0, qq 1]) rfl ⟨by rw [HN.out], bset (bset (btr BE.out C.out) (Nat.le_succ _) _) (Nat.le_succ _) _⟩
               | false =>
                have HT := hid (HS.out hbb)
                clear HS HE
                rw [hbb] at CT
                clear hbb
                go_wp2_with (first | ((with_reducible (show wpList _ _ _ (⟨_, Op.load 28 _, _, _, _, _⟩ :: _) _ _)); refine wp_ldWg (by rfl) _ rfl _ rfl V RGc.out ?_))
                refine CT.out.mono ?_
                rintro r w1 ⟨rfl, hb⟩
                have C := hid (btr HW.out hb)
                clear CT hb RGc
                go_wp2_with fail
                exact ⟨⟨k + 1, by omega, by go_num, HT, C⟩, by simp [intOf]; omega⟩
              ·obtain rfl : k = p.kinds.length := by omega
               have hge : ¬ ((p.kinds.length : Int) < (p.kinds.length : Int)) := by omega
               have HX := hid (show ∀ j (hj : j < p.lines.length), bad6 p j p.lines[j] = false from fun j hj => HE.out j hj (by have := HL.out.lines; omega))
               have L6 := hid (lk_none (bad := bad6 p) HX.out)
               clear HX HE hk hlt
               go_wp2_with fail
               clear hge
               generalize wr = v7 at *
               rename Hid (Below W0.heap.size W0 v7) => C7
               go_loopw [12] (fun i wr => ∃ k : Nat, k ≤ p.cores.length ∧ i = .int .i64 k ∧ Hid (∀ j (hj : j < p.cores.length), j < k → bad7 p j p.cores[j] = false) ∧ Hid (Below W0.heap.size W0 wr)) (fun i _ => p.cores.length - (intOf i).toNat)
               case atStart => exact ⟨0, by omega, rfl, hid fun j _ h => by omega, C7⟩
               case round =>
                obtain ⟨k, hk, rfl, HE, HW⟩ := hrel
                by_cases hlt : k < p.cores.length
                ·have hlt2 : (k : Int) < (p.cores.length : Int) := by omega
                 have hkf : k < p.cores.length := by omega
                 have HY := hid (show (!(p.cores[k] == -1) && !rdB p p.cores[k] k) = true → bad7 p k p.cores[k] = true from id)
                 have HS := hid (show (!(p.cores[k] == -1) && !rdB p p.cores[k] k) = false → ∀ j (hj : j < p.cores.length), j < k + 1 → bad7 p j p.cores[j] = false from fun hf j hj hjk => by
                  by_cases e : j = k
                  ·subst e; exact hf
                  ·exact HE.out j hj (by omega))
                 have KC := hid (fun W (hb : Below w.heap.size w W) => (HZ6.out.below hb) k hkf)
                 have BD : Hid (Below wr.heap.size wr wr.drew) := hid (below_drew wr 1)
                 have KK := hid (fun W (hb : Below wr.heap.size wr W) => readyAt_any V p p.cores[k] k (-1) W (HVW.out W (btr HW.out hb)) HP.out HL.out.tasks)
                 rw [rp_any] at KK
                 generalize rdB p p.cores[k] k = rb at HY HS KK
                 have HY3 := hid (show ∀ z, p.cores[k] = z → (!(z == -1) && !rb) = true → bad7 p k p.cores[k] = true from fun z e h => HY.out (by rw [e]; exact h))
                 have HS3 := hid (show ∀ z, p.cores[k] = z → (!(z == -1) && !rb) = false → _ from fun z e h => HS.out (by rw [e]; exact h))
                 clear HY HS
                 generalize hz : p.cores[k] = z at KC KK
                 have HY := hid (HY3.out z hz)
                 have HS := hid (HS3.out z hz)
                 clear HY3 HS3 hz
                 have KS := hid (show ∀ W, Below wr.heap.size wr W → W.rangeAt w.heap.size 0 (arr11 V).toList ∧ W.cell? ⟨b6, off6 + k, none⟩ = some (.int .i64 z) from fun W hb => ⟨(KR.out W (btr HW.out hb)).1, KC.out W (btr BE.out (btr HW.out hb))⟩)
                 by_cases hz : z = -1
                 ·subst hz
                  go_wp2_with fail
                  refine wp_region_held_drew (S := fun W => W.rangeAt w.heap.size 0 (arr11 V).toList ∧ W.cell? ⟨b6, off6 + k, none⟩ = some (.int .i64 (-1))) (by kernel_rfl) (KS.out _ BD.out) (fun hH0 => ?_)
                  have hH := hid hH0
                  clear hH0
                  refine tk 0 (.pointer (some ⟨w.heap.size, 6, none⟩)) rfl hH.out ?_
                  simp only [jj]
                  refine tg 1 (.slice (some ⟨b6, off6, none⟩) p.cores.length cap6) rfl (Or.inl ⟨by rfl, fun W h => by have h3 := cell6 h.1 e6; clear h; go_simp⟩) hH.out ?_
                  simp only [jj]
                  refine tk 2 (.int .i64 k) rfl hH.out ?_
                  simp only [jj]
                  refine tk 3 (.pointer (some ⟨b6, off6 + k, none⟩)) rfl hH.out ?_
                  simp only [jj]
                  refine tg 4 (.int .i64 (-1)) rfl (Or.inl ⟨by rfl, fun W h => by have h3 := h.2; clear h; go_simp⟩) hH.out ?_
                  simp only [jj]
                  refine tk 5 (.bool false) rfl hH.out ?_
                  simp only [jj]
                  refine tk 6 (.bool false) rfl hH.out ?_
                  simp only [jj]
                  refine tn 7 undef rfl hH.out ?_
                  simp only [jj]
                  refine tn 8 undef rfl hH.out ?_
                  simp only [jj]
                  refine tn 9 undef rfl hH.out ?_
                  simp only [jj]
                  refine tn 10 undef rfl hH.out ?_
                  simp only [jj]
                  refine tn 11 undef rfl hH.out ?_
                  simp only [jj]
                  refine tn 12 undef rfl hH.out ?_
                  simp only [jj]
                  refine tn 13 undef rfl hH.out ?_
                  simp only [jj]
                  refine tn 14 undef rfl hH.out ?_
                  simp only [jj]
                  refine tn 15 undef rfl hH.out ?_
                  simp only [jj]
                  refine tk 16 (.bool false) rfl hH.out ?_
                  simp only [jj]
                  refine wpAnyH_done (by kernel_rfl) ?_ _
                  clear hH
                  have C := hid (btr HW.out BD.out)
                  have HT := hid (HS.out (by rfl))
                  clear HY HS HE
                  go_wp2_with fail
                  exact ⟨⟨k + 1, by omega, by go_num, HT, C⟩, by simp [intOf]; omega⟩
                 ·have hz2 : (z != -1) = true := by simpa using hz
                  have hz3 : (z == -1) = false := by simpa using hz
                  rw [hz3, Bool.not_false, Bool.true_and] at HY HS
                  clear hz hz3
                  go_wp2_with fail
                  refine wp_region_held_drew (S := fun W => W.rangeAt w.heap.size 0 (arr11 V).toList ∧ W.cell? ⟨b6, off6 + k, none⟩ = some (.int .i64 z)) (by kernel_rfl) (KS.out _ BD.out) (fun hH0 => ?_)
                  have hH := hid hH0
                  clear hH0
                  refine tk 0 (.pointer (some ⟨w.heap.size, 6, none⟩)) rfl hH.out ?_
                  simp only [jj]
                  refine tg 1 (.slice (some ⟨b6, off6, none⟩) p.cores.length cap6) rfl (Or.inl ⟨by rfl, fun W h => by have h3 := cell6 h.1 e6; clear h; go_simp⟩) hH.out ?_
                  simp only [jj]
                  refine tk 2 (.int .i64 k) rfl hH.out ?_
                  simp only [jj]
                  refine tk 3 (.pointer (some ⟨b6, off6 + k, none⟩)) rfl hH.out ?_
                  simp only [jj]
                  refine tg 4 (.int .i64 z) rfl (Or.inl ⟨by rfl, fun W h => by have h3 := h.2; clear h; go_simp⟩) hH.out ?_
                  simp only [jj]
                  refine tk 5 (.bool true) rfl hH.out ?_
                  simp only [jj]
                  refine tk 6 (.bool true) rfl hH.out ?_
                  simp only [jj]
                  refine tg 7 (.agg (arr11 V)) rfl (yieldsIf_load_mid (by rfl) _ _ rfl _ _ rfl ((arr11 V).toList) _ (fun _ h => h.1) Tryz.underlying28 rfl infoW) hH.out ?_
                  simp only [jj]
                  refine tk 8 (.pointer (some ⟨w.heap.size, 6, none⟩)) rfl hH.out ?_
                  simp only [jj]
                  refine tg 9 (.slice (some ⟨b6, off6, none⟩) p.cores.length cap6) rfl (Or.inl ⟨by rfl, fun W h => by have h3 := cell6 h.1 e6; clear h; go_simp⟩) hH.out ?_
                  simp only [jj]
                  refine tk 10 (.int .i64 k) rfl hH.out ?_
                  simp only [jj]
                  refine tk 11 (.pointer (some ⟨b6, off6 + k, none⟩)) rfl hH.out ?_
                  simp only [jj]
                  refine tg 12 (.int .i64 z) rfl (Or.inl ⟨by rfl, fun W h => by have h3 := h.2; clear h; go_simp⟩) hH.out ?_
                  simp only [jj]
                  refine tk 13 (.int .i64 k) rfl hH.out ?_
                  simp only [jj]
                  refine wpAnyH_ready (rs := [14]) (by kernel_rfl) (by simp) (AllReadyH.cons rfl (fun K hK => ?_) AllReadyH.nil)
                  go_simp
                  refine (KK.out _ BD.out).mono ?_
                  rintro r w1 ⟨rfl, hb⟩
                  have A1 := hid (btr BD.out hb)
                  clear hb
                  go_wp2_with fail
                  refine hK.out _ _ (KS.out _ A1.out) (fun hH0 => ?_)
                  have hH2 := hid hH0
                  clear hK K hH0
                  try simp only [Act.put, jD, jE, jF]
                  cases rb with
                  | false =>
                   refine tk 15 (.bool true) rfl hH2.out ?_
                   simp only [jj]
                   refine tk 16 (.bool true) rfl hH2.out ?_
                   simp only [jj]
                   refine wpAnyH_done (by kernel_rfl) ?_ _
                   clear hH hH2
                   have C := hid (btr HW.out A1.out)
                   have HN := hid (show wmA p = (8, (k : Int)) by
                    rw [HA.out, L0.out, L1.out, L2.out, L3.out, L4.out, L5.out, L6.out, lk_some (bad := bad7 p) k hkf (HY.out rfl) HE.out]
                    rfl)
                   clear HY HS HE
                   have cc := (KR.out w1 C.out).2.1
                   have ff := (KR.out w1 C.out).2.2
                   go_wp2_with fail
                   have qq := two_set (v0 := .int .i64 8) (v1 := .int .i64 k) cc
                   exact bodyPost_ret (v := .agg #[.int .i64 8, .int .i64 k]) (by simp [results, Tryz.results61, go_sem, qq 0, qq 1]) rfl ⟨by rw [HN.out], bset (bset (btr BE.out C.out) (Nat.le_succ _) _) (Nat.le_succ _) _⟩
                  | true =>
                   refine tk 15 (.bool false) rfl hH2.out ?_
                   simp only [jj]
                   refine tk 16 (.bool false) rfl hH2.out ?_
                   simp only [jj]
                   refine wpAnyH_done (by kernel_rfl) ?_ _
                   clear hH hH2
                   have C := hid (btr HW.out A1.out)
                   have HT := hid (HS.out rfl)
                   clear HY HS HE
                   go_wp2_with fail
                   exact ⟨⟨k + 1, by omega, by go_num, HT, C⟩, by simp [intOf]; omega⟩
                ·obtain rfl : k = p.cores.length := by omega
                 have hge : ¬ ((p.cores.length : Int) < (p.cores.length : Int)) := by omega
                 have HX := hid (show ∀ j (hj : j < p.cores.length), bad7 p j p.cores[j] = false from fun j hj => HE.out j hj (by omega))
                 have L7 := hid (lk_none (bad := bad7 p) HX.out)
                 clear HX HE hk hlt
                 go_wp2_with fail
                 clear hge
                 generalize wr = v8 at *
                 rename Hid (Below W0.heap.size W0 v8) => C8
                 go_loopw [13] (fun i wr => ∃ k : Nat, k ≤ p.ready.length ∧ i = .int .i64 k ∧ Hid (∀ j (hj : j < p.ready.length), j < k → bad8 p j p.ready[j] = false) ∧ Hid (Below W0.heap.size W0 wr)) (fun i _ => p.ready.length - (intOf i).toNat)
                 case atStart => exact ⟨0, by omega, rfl, hid fun j _ h => by omega, C8⟩
                 case round =>
                  obtain ⟨k, hk, rfl, HE, HW⟩ := hrel
                  have g7 : wr.cell? ⟨w.heap.size, 7, none⟩ = some (V 7) := range_cell (KR.out wr HW.out).1 rfl
                  by_cases hlt : k < p.ready.length
                  ·have hlt2 : (k : Int) < (p.ready.length : Int) := by omega
                   have hkf : k < p.ready.length := by omega
                   have HY := hid (show brB p k p.ready[k] = true → bad8 p k p.ready[k] = true from id)
                   have HS := hid (show brB p k p.ready[k] = false → ∀ j (hj : j < p.ready.length), j < k + 1 → bad8 p j p.ready[j] = false from fun hf j hj hjk => by
                    by_cases e : j = k
                    ·subst e; exact hf
                    ·exact HE.out j hj (by omega))
                   have HLN := hid (HP.out.next p.ready[k] (List.getElem_mem hkf))
                   obtain ⟨x, dx, hx⟩ := HZ7.out k hkf
                   have KX := hid (fun W (hb : Below w.heap.size w W) => (hb.cell (World.block_lt_of_cell? _ _ dx)).trans dx)
                   have HZR := hid (show ∀ l, p.ready[k] = l → (brB p k l = true → bad8 p k p.ready[k] = true) from fun l e h => HY.out (by rw [e]; exact h))
                   have HZS := hid (show ∀ l, p.ready[k] = l → (brB p k l = false → _) from fun l e h => HS.out (by rw [e]; exact h))
                   clear HY HS
                   generalize hzs : p.ready[k] = zs at hx HLN
                   have HYB := hid (HZR.out zs hzs)
                   have HSB := hid (HZS.out zs hzs)
                   clear HZR HZS hzs dx
                   obtain ⟨q, b, off, cap, rfl, hq, hz⟩ := hx
                   have HQ := hid hq
                   have HZ := hid hz
                   have hl2 : (zs.length : Int) ≤ 1000 := by have := HLN.out; omega
                   clear hq hz
                   have hk1000 : (k : Int) ≤ 1000 := by omega
                   have wq : IntKind.i64.wrap ((k : Int) / 4) = (k : Int) / 4 := wraps_i64 _ (by omega) (by omega)
                   have tq : (k : Int).tmod 4 = (k : Int) % 4 := Int.tmod_eq_emod_of_nonneg (by omega)
                   go_wp2_with fail
                   go_loopw [14] (fun i wx => ∃ m : Nat, m ≤ zs.length ∧ i = .int .i64 m ∧ Hid (∀ j (hj : j < zs.length), j < m → (!rpB p zs[j] ((k : Int) / 4) ((k : Int) % 4)) = false) ∧ Hid (Below W0.heap.size W0 wx)) (fun i _ => zs.length - (intOf i).toNat)
                   case atStart => exact ⟨0, by omega, rfl, hid fun j _ h => by omega, HW⟩
                   case round =>
                    obtain ⟨m, hm, rfl, HE2, HW2⟩ := hrel
                    clear g7
                    have g7 : wr.cell? ⟨w.heap.size, 7, none⟩ = some (V 7) := range_cell (KR.out wr HW2.out).1 rfl
                    have dx := KX.out wr (btr BE.out HW2.out)
                    by_cases hmt : m < zs.length
                    ·have hmt2 : (m : Int) < (zs.length : Int) := by omega
                     have hqe := HQ.out (by omega)
                     subst hqe
                     have KC := hid (fun W (hb : Below w.heap.size w W) => (HZ.out.below hb) m hmt)
                     have BD : Hid (Below wr.heap.size wr wr.drew) := hid (below_drew wr 1)
                     have HY2 := hid (show (!rpB p zs[m] ((k : Int) / 4) ((k : Int) % 4)) = true → brB p k zs = true from fun h => any_yes m hmt h)
                     have HS2 := hid (show (!rpB p zs[m] ((k : Int) / 4) ((k : Int) % 4)) = false → ∀ j (hj : j < zs.length), j < m + 1 → (!rpB p zs[j] ((k : Int) / 4) ((k : Int) % 4)) = false from fun hf j hj hjk => by
                      by_cases e : j = m
                      ·subst e; exact hf
                      ·exact HE2.out j hj (by omega))
                     have KK := hid (fun W (hb : Below wr.heap.size wr W) => readyAt_any V p zs[m] ((k : Int) / 4) ((k : Int) % 4) W (HVW.out W (btr HW2.out hb)) HP.out HL.out.tasks)
                     generalize rpB p zs[m] ((k : Int) / 4) ((k : Int) % 4) = rb at HY2 HS2 KK
                     generalize zs[m] = z at KC KK
                     have KS := hid (show ∀ W, Below wr.heap.size wr W → W.rangeAt w.heap.size 0 (arr11 V).toList ∧ W.cell? ⟨b7, off7 + k, none⟩ = some (.slice (some ⟨b, off, none⟩) zs.length cap) ∧ W.cell? ⟨b, off + m, none⟩ = some (.int .i64 z) from fun W hb => ⟨(KR.out W (btr HW2.out hb)).1, KX.out W (btr BE.out (btr HW2.out hb)), KC.out W (btr BE.out (btr HW2.out hb))⟩)
                     go_wp2_with fail
                     clear g7 dx
                     refine wp_region_held_drew (S := fun W => W.rangeAt w.heap.size 0 (arr11 V).toList ∧ W.cell? ⟨b7, off7 + k, none⟩ = some (.slice (some ⟨b, off, none⟩) zs.length cap) ∧ W.cell? ⟨b, off + m, none⟩ = some (.int .i64 z)) (by kernel_rfl) (KS.out _ BD.out) (fun hH0 => ?_)
                     have hH := hid hH0
                     clear hH0
                     refine tg 0 (.agg (arr11 V)) rfl (yieldsIf_load_mid (by rfl) _ _ rfl _ _ rfl ((arr11 V).toList) _ (fun _ h => h.1) Tryz.underlying28 rfl infoW) hH.out ?_
                     simp only [jj]
                     refine tk 1 (.pointer (some ⟨w.heap.size, 7, none⟩)) rfl hH.out ?_
                     simp only [jj]
                     refine tg 2 (.slice (some ⟨b7, off7, none⟩) p.ready.length cap7) rfl (Or.inl ⟨by rfl, fun W h => by have h3 := cell7 h.1 e7; clear h; go_simp⟩) hH.out ?_
                     simp only [jj]
                     refine tk 3 (.int .i64 k) rfl hH.out ?_
                     simp only [jj]
                     refine tk 4 (.pointer (some ⟨b7, off7 + k, none⟩)) rfl hH.out ?_
                     simp only [jj]
                     refine tg 5 (.slice (some ⟨b, off, none⟩) zs.length cap) rfl (Or.inl ⟨by rfl, fun W h => by have h3 := h.2.1; clear h; go_simp⟩) hH.out ?_
                     simp only [jj]
                     refine tk 6 (.int .i64 m) rfl hH.out ?_
                     simp only [jj]
                     refine tk 7 (.pointer (some ⟨b, off + m, none⟩)) rfl hH.out ?_
                     simp only [jj]
                     refine tg 8 (.int .i64 z) rfl (Or.inl ⟨by rfl, fun W h => by have h3 := h.2.2; clear h; go_simp⟩) hH.out ?_
                     simp only [jj]
                     refine tk 9 (.int .i64 k) rfl hH.out ?_
                     simp only [jj]
                     refine tk 10 (.int .i64 ((k : Int) / 4)) rfl hH.out ?_
                     simp only [jj]
                     refine tk 11 (.int .i64 k) rfl hH.out ?_
                     simp only [jj]
                     refine tk 12 (.int .i64 ((k : Int) % 4)) rfl hH.out ?_
                     simp only [jj]
                     refine wpAnyH_ready (rs := [13]) (by kernel_rfl) (by simp) (AllReadyH.cons rfl (fun K hK => ?_) AllReadyH.nil)
                     go_simp
                     refine (KK.out _ BD.out).mono ?_
                     rintro r w1 ⟨rfl, hb⟩
                     have A1 := hid (btr BD.out hb)
                     clear hb
                     go_wp2_with fail
                     refine hK.out _ _ (KS.out _ A1.out) (fun hH0 => ?_)
                     have hH2 := hid hH0
                     clear hK K hH0
                     try simp only [Act.put, jD, jE, jF]
                     cases rb with
                     | false =>
                      refine tk 14 (.bool true) rfl hH2.out ?_
                      simp only [jj]
                      refine wpAnyH_done (by kernel_rfl) ?_ _
                      clear hH hH2
                      have C := hid (btr HW2.out A1.out)
                      have HY := hid (fun (_ : true = true) => HYB.out (HY2.out rfl))
                      have HS := HSB
                      clear HY2 HS2 HYB HSB HE2
                      have HN := hid (show wmA p = (8, (k : Int)) by
                       rw [HA.out, L0.out, L1.out, L2.out, L3.out, L4.out, L5.out, L6.out, L7.out, lk_some (bad := bad8 p) k hkf (HY.out rfl) HE.out]
                       rfl)
                      clear HY HS HE
                      have cc := (KR.out w1 C.out).2.1
                      have ff := (KR.out w1 C.out).2.2
                      go_wp2_with fail
                      have qq := two_set (v0 := .int .i64 8) (v1 := .int .i64 k) cc
                      exact bodyPost_ret (v := .agg #[.int .i64 8, .int .i64 k]) (by simp [results, Tryz.results61, go_sem, qq 0, qq 1]) rfl ⟨by rw [HN.out], bset (bset (btr BE.out C.out) (Nat.le_succ _) _) (Nat.le_succ _) _⟩
                     | true =>
                      refine tk 14 (.bool false) rfl hH2.out ?_
                      simp only [jj]
                      refine wpAnyH_done (by kernel_rfl) ?_ _
                      clear hH hH2
                      have C := hid (btr HW2.out A1.out)
                      have HT2 := hid (HS2.out rfl)
                      clear HY2 HS2 HE2
                      go_wp2_with fail
                      exact ⟨⟨m + 1, by omega, by go_num, HT2, C⟩, by simp [intOf]; omega⟩
                    ·obtain rfl : m = zs.length := by omega
                     have hgm : ¬ ((zs.length : Int) < (zs.length : Int)) := by omega
                     have HT := hid (HSB.out (any_no fun j h => HE2.out j h h))
                     clear HYB HSB HE HE2
                     go_wp2_with fail
                     exact ⟨⟨k + 1, by omega, by go_num, HT, HW2⟩, by simp [intOf]; omega⟩
                  ·obtain rfl : k = p.ready.length := by omega
                   have hge : ¬ ((p.ready.length : Int) < (p.ready.length : Int)) := by omega
                   have HX := hid (show ∀ j (hj : j < p.ready.length), bad8 p j p.ready[j] = false from fun j hj => HE.out j hj (by omega))
                   have L8 := hid (lk_none (bad := bad8 p) HX.out)
                   clear HX HE hk hlt
                   go_wp2_with fail
                   clear hge g7
                   generalize wr = v9 at *
                   rename Hid (Below W0.heap.size W0 v9) => C9
                   go_loopw [15] (fun i wr => ∃ k : Nat, k ≤ p.ram.length ∧ i = .int .i64 k ∧ Hid (∀ j (hj : j < p.ram.length), j < k → bad9 p j p.ram[j] = false) ∧ Hid (Below W0.heap.size W0 wr)) (fun i _ => p.ram.length - (intOf i).toNat)
                   case atStart => exact ⟨0, by omega, rfl, hid fun j _ h => by omega, C9⟩
                   case round =>
                    obtain ⟨k, hk, rfl, HE, HW⟩ := hrel
                    have g0 : wr.cell? ⟨w.heap.size, 0, none⟩ = some (V 0) := range_cell (KR.out wr HW.out).1 rfl
                    by_cases hlt : k < p.ram.length
                    ·have hlt2 : (k : Int) < (p.ram.length : Int) := by omega
                     have hkf : k < p.ram.length := by omega
                     have HS := hid (show bad9 p k p.ram[k] = false → ∀ j (hj : j < p.ram.length), j < k + 1 → bad9 p j p.ram[j] = false from fun hf j hj hjk => by
                      by_cases e : j = k
                      ·subst e; exact hf
                      ·exact HE.out j hj (by omega))
                     have CT := hid (show Calls Tryz.prog 99 #[.agg (arr11 V), .int .i64 k] wr (fun r w' => r = .returned (.bool (!bad9 p k p.ram[k])) ∧ Below wr.heap.size wr w') from by
                       have hk2 : k / 16 < p.kinds.length := by have := HL.out.ram; omega
                       have := entryWell_any V p k (k / 16) wr (HVW.out wr HW.out) HP.out hkf (by omega) hk2 (HRW.out k hkf)
                       rw [← getD_at hk2] at this
                       exact this)
                     have RGc := hid (KR.out wr HW.out).1
                     cases hbb : bad9 p k p.ram[k] with
                     | true =>
                      have HBD := hid hbb
                      clear HS
                      rw [hbb] at CT
                      clear hbb
                      go_wp2_with (first | ((with_reducible (show wpList _ _ _ (⟨_, Op.load 28 _, _, _, _, _⟩ :: _) _ _)); refine wp_ldWg (by rfl) _ rfl _ rfl V RGc.out ?_))
                      refine CT.out.mono ?_
                      rintro r w1 ⟨rfl, hb⟩
                      have C := hid (btr HW.out hb)
                      clear CT hb RGc
                      have HN := hid (show wmA p = (9, (k : Int)) by
                       rw [HA.out, L0.out, L1.out, L2.out, L3.out, L4.out, L5.out, L6.out, L7.out, L8.out, lk_some (bad := bad9 p) k hkf (HBD.out) HE.out]
                       rfl)
                      clear HBD HE
                      have cc := (KR.out w1 C.out).2.1
                      have ff := (KR.out w1 C.out).2.2
                      go_wp2_with fail
                      have qq := two_set (v0 := .int .i64 9) (v1 := .int .i64 k) cc
                      exact bodyPost_ret (v := .agg #[.int .i64 9, .int .i64 k]) (by simp [results, Tryz.results61, go_sem, qq 0, qq 1]) rfl ⟨by rw [HN.out], bset (bset (btr BE.out C.out) (Nat.le_succ _) _) (Nat.le_succ _) _⟩
                     | false =>
                      have HT := hid (HS.out hbb)
                      clear HS HE
                      rw [hbb] at CT
                      clear hbb
                      go_wp2_with (first | ((with_reducible (show wpList _ _ _ (⟨_, Op.load 28 _, _, _, _, _⟩ :: _) _ _)); refine wp_ldWg (by rfl) _ rfl _ rfl V RGc.out ?_))
                      refine CT.out.mono ?_
                      rintro r w1 ⟨rfl, hb⟩
                      have C := hid (btr HW.out hb)
                      clear CT hb RGc
                      go_wp2_with fail
                      exact ⟨⟨k + 1, by omega, by go_num, HT, C⟩, by simp [intOf]; omega⟩
                    ·obtain rfl : k = p.ram.length := by omega
                     have hge : ¬ ((p.ram.length : Int) < (p.ram.length : Int)) := by omega
                     have HX := hid (show ∀ j (hj : j < p.ram.length), bad9 p j p.ram[j] = false from fun j hj => HE.out j hj (by omega))
                     have L9 := hid (lk_none (bad := bad9 p) HX.out)
                     clear HX HE hk hlt
                     go_wp2_with fail
                     clear hge g0
                     generalize wr = v10 at *
                     rename Hid (Below W0.heap.size W0 v10) => C10
                     go_loopw [16] (fun i wr => ∃ k : Nat, k ≤ p.cores.length ∧ i = .int .i64 k ∧ Hid (∀ j (hj : j < p.tlbs.length), j < k → bad10 p j p.tlbs[j] = false) ∧ Hid (Below W0.heap.size W0 wr)) (fun i _ => p.cores.length - (intOf i).toNat)
                     case atStart => exact ⟨0, by omega, rfl, hid fun j _ h => by omega, C10⟩
                     case round =>
                      obtain ⟨k, hk, rfl, HE, HW⟩ := hrel
                      by_cases hlt : k < p.cores.length
                      ·have hlt2 : (k : Int) < (p.cores.length : Int) := by omega
                       have hkf : k < p.tlbs.length := by have := HL.out.tlbs; omega
                       have HY := hid (show bmB p p.tlbs[k] = true → bad10 p k p.tlbs[k] = true from id)
                       have HS := hid (show bmB p p.tlbs[k] = false → ∀ j (hj : j < p.tlbs.length), j < k + 1 → bad10 p j p.tlbs[j] = false from fun hf j hj hjk => by
                        by_cases e : j = k
                        ·subst e; exact hf
                        ·exact HE.out j hj (by omega))
                       obtain ⟨x, dx, hx⟩ := HZ8.out k hkf
                       have KX := hid (fun W (hb : Below w.heap.size w W) => (hb.cell (World.block_lt_of_cell? _ _ dx)).trans dx)
                       have HXT := hid (fun W (hb : Below w.heap.size w W) => hx.1.below hb)
                       have BD : Hid (Below wr.heap.size wr wr.drew) := hid (below_drew wr 1)
                       have KK := hid (fun W (hb : Below wr.heap.size wr W) => tlbWell_any V p x p.tlbs[k] W (HVW.out W (btr HW.out hb)) HP.out (ram_in (HVW.out W (btr HW.out hb)) HL.out HRW.out) (HXT.out W (btr BE.out (btr HW.out hb))))
                       generalize bmB p p.tlbs[k] = rb at HY HS KK
                       clear dx hx
                       have KS := hid (show ∀ W, Below wr.heap.size wr W → W.rangeAt w.heap.size 0 (arr11 V).toList ∧ W.cell? ⟨b8, off8 + k, none⟩ = some x from fun W hb => ⟨(KR.out W (btr HW.out hb)).1, KX.out W (btr BE.out (btr HW.out hb))⟩)
                       go_wp2_with fail
                       refine wp_region_held_drew (S := fun W => W.rangeAt w.heap.size 0 (arr11 V).toList ∧ W.cell? ⟨b8, off8 + k, none⟩ = some x) (by kernel_rfl) (KS.out _ BD.out) (fun hH0 => ?_)
                       have hH := hid hH0
                       clear hH0
                       refine tg 0 (.agg (arr11 V)) rfl (yieldsIf_load_mid (by rfl) _ _ rfl _ _ rfl ((arr11 V).toList) _ (fun _ h => h.1) Tryz.underlying28 rfl infoW) hH.out ?_
                       simp only [jj]
                       refine tk 1 (.pointer (some ⟨w.heap.size, 8, none⟩)) rfl hH.out ?_
                       simp only [jj]
                       refine tg 2 (.slice (some ⟨b8, off8, none⟩) p.tlbs.length cap8) rfl (Or.inl ⟨by rfl, fun W h => by have h3 := cell8 h.1 e8; clear h; go_simp⟩) hH.out ?_
                       simp only [jj]
                       refine tk 3 (.int .i64 k) rfl hH.out ?_
                       simp only [jj]
                       refine tk 4 (.pointer (some ⟨b8, off8 + k, none⟩)) rfl hH.out ?_
                       simp only [jj]
                       refine tg 5 x rfl (Or.inl ⟨by rfl, fun W h => by have h3 := h.2; clear h; go_simp⟩) hH.out ?_
                       simp only [jj]
                       refine wpAnyH_ready (rs := [6]) (by kernel_rfl) (by simp) (AllReadyH.cons rfl (fun K hK => ?_) AllReadyH.nil)
                       go_simp
                       refine (KK.out _ BD.out).mono ?_
                       rintro r w1 ⟨rfl, hb⟩
                       have A1 := hid (btr BD.out hb)
                       clear hb
                       go_wp2_with fail
                       refine hK.out _ _ (KS.out _ A1.out) (fun hH0 => ?_)
                       have hH2 := hid hH0
                       clear hK K hH0
                       try simp only [Act.put, jD, jE, jF]
                       cases rb with
                       | true =>
                        refine tk 7 (.bool true) rfl hH2.out ?_
                        simp only [jj]
                        refine wpAnyH_done (by kernel_rfl) ?_ _
                        clear hH hH2
                        have C := hid (btr HW.out A1.out)
                        have HN := hid (show wmA p = (9, (k : Int)) by
                         rw [HA.out, L0.out, L1.out, L2.out, L3.out, L4.out, L5.out, L6.out, L7.out, L8.out, L9.out, lk_some (bad := bad10 p) k hkf (HY.out rfl) HE.out]
                         rfl)
                        clear HY HS HE
                        have cc := (KR.out w1 C.out).2.1
                        have ff := (KR.out w1 C.out).2.2
                        go_wp2_with fail
                        have qq := two_set (v0 := .int .i64 9) (v1 := .int .i64 k) cc
                        exact bodyPost_ret (v := .agg #[.int .i64 9, .int .i64 k]) (by simp [results, Tryz.results61, go_sem, qq 0, qq 1]) rfl ⟨by rw [HN.out], bset (bset (btr BE.out C.out) (Nat.le_succ _) _) (Nat.le_succ _) _⟩
                       | false =>
                        refine tk 7 (.bool false) rfl hH2.out ?_
                        simp only [jj]
                        refine wpAnyH_done (by kernel_rfl) ?_ _
                        clear hH hH2
                        have C := hid (btr HW.out A1.out)
                        have HT := hid (HS.out rfl)
                        clear HY HS HE
                        go_wp2_with fail
                        exact ⟨⟨k + 1, by omega, by go_num, HT, C⟩, by simp [intOf]; omega⟩
                      ·obtain rfl : k = p.cores.length := by omega
                       have hge : ¬ ((p.cores.length : Int) < (p.cores.length : Int)) := by omega
                       have HX := hid (show ∀ j (hj : j < p.tlbs.length), bad10 p j p.tlbs[j] = false from fun j hj => HE.out j hj (by have := HL.out.tlbs; omega))
                       have L10 := hid (lk_none (bad := bad10 p) HX.out)
                       clear HX HE hk hlt
                       have HN := hid (show wmA p = (0, -1) by
                        rw [HA.out, L0.out, L1.out, L2.out, L3.out, L4.out, L5.out, L6.out, L7.out, L8.out, L9.out, L10.out]
                        rfl)
                       go_wp2_with fail
                       refine (mayFine _).mono ?_
                       rintro r w1 ⟨rfl, hb⟩
                       have C := hid (btr HW.out hb)
                       clear hb
                       have cc := (KR.out w1 C.out).2.1
                       have ff := (KR.out w1 C.out).2.2
                       go_wp2_with fail
                       have qq := two_set (v0 := .int .i64 0) (v1 := .int .i64 (-1)) cc
                       exact bodyPost_ret (v := .agg #[.int .i64 0, .int .i64 (-1)]) (by simp [results, Tryz.results61, go_sem, qq 0, qq 1]) rfl ⟨by rw [HN.out], bset (bset (btr BE.out C.out) (Nat.le_succ _) _) (Nat.le_succ _) _⟩
end Go.Proofs.YtoebmjgkfkfhjaaGreatDoor.Wd
