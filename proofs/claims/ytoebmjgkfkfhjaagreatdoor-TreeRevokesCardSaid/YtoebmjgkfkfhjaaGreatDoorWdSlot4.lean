/- Slots, by the other text: keyholdref.slotWell; walked. (Written by mk_slot4.py.) -/
import Derived.Test.YtoebmjgkfkfhjaaGreatDoorGSlot3
import Derived.Test.YtoebmjgkfkfhjaaGreatDoorRefBits
import Derived.BigQuiet
namespace Go.Proofs.YtoebmjgkfkfhjaaGreatDoor.Wd
open Go.RowKit Go.Proofs.YtoebmjgkfkfhjaaGreatDoor.Mem Go.Proofs.YtoebmjgkfkfhjaaGreatDoor.Bw Go.Proofs.YtoebmjgkfkfhjaaGreatDoor.Nums Go.Proofs.YtoebmjgkfkfhjaaGreatDoor.Mmu
theorem and_bits8 : ∀ a, a < 8 → ∀ b, b < 8 → (bits .andNot .i64 ((b : Nat) : Int) ((a : Nat) : Int) == 0) = (((bw 6 a b : Nat) : Int) == (b : Int)) := by decide
theorem and_bits {x y : Int} (x0 : 0 ≤ x) (x1 : x ≤ 7) (y0 : 0 ≤ y) (y1 : y ≤ 7) : (anB y x == 0) = (((bw 6 x.toNat y.toNat : Nat) : Int) == y) := by
 have h := and_bits8 x.toNat (by omega) y.toNat (by omega)
 rw [show ((x.toNat : Nat) : Int) = x by omega, show ((y.toNat : Nat) : Int) = y by omega] at h
 exact h
theorem key_bounds {s : Nat → Int} (hc : kc s = 0) (h0 : ¬ s 0 = 0) : 0 ≤ s 1 ∧ s 1 ≤ 23 ∧ 1 ≤ s 2 ∧ s 2 ≤ 24 ∧ 0 ≤ s 4 ∧ s 4 ≤ 7 := by
 have h : KP.chk (s 0) (s 1) (s 2) (s 3) (s 4) (s 5) = 0 := hc
 obtain ⟨k0, k1, b0, b1, l0, l1, m0, m1, r0, r1, g0, g1⟩ := KP.chk_zero h
 rw [chk_plain] at h
 split at h
 ·omega
 split at h
 ·omega
 split at h
 ·omega
 ·omega
set_option maxRecDepth 100000 in
set_option maxHeartbeats 4000000 in
theorem slotWell_any (V : Nat → Value) (p : PW) (n m : Nat) (w : World) (hv : WorldV w V p) (hp : p.Fits) (hn : n < p.slots.length) (hm : (n : Int) / 16 = (m : Int)) (hk : m < p.kinds.length) :
  Calls Tryz.prog 94 #[.agg (arr11 V), .int .i64 n] w fun r w' => r = .returned (.bool (!bsB p p.kinds[m] p.slots[n])) ∧ Below w.heap.size w w' := by
 have RG := hid (boxed w V 28)
 have B0 := hid (bal (Below.refl w.heap.size w) (.cells (arr11 V) 28))
 obtain ⟨q1, b1, off1, cap1, e1, hq1, hz1⟩ := hv.kinds
 obtain ⟨q2, b2, off2, cap2, e2, hq2, hz2⟩ := hv.slots
 have hl1 : (p.kinds.length : Int) ≤ 1000 := by have := hp.kinds; omega
 have hl2 : (p.slots.length : Int) ≤ 1000 := by have := hp.slots; omega
 have hn2 : (n : Int) < (p.slots.length : Int) := by omega
 have hk2 : (m : Int) < (p.kinds.length : Int) := by omega
 obtain rfl := hq1 (by omega)
 obtain rfl := hq2 (by omega)
 have r2 : (w.alloc (.cells (arr11 V) 28)).cell? ⟨w.heap.size, 2, none⟩ = some (V 2) := range_cell RG.out rfl
 have r1 : (w.alloc (.cells (arr11 V) 28)).cell? ⟨w.heap.size, 1, none⟩ = some (V 1) := range_cell RG.out rfl
 have RZ := range_belowO (hz2 n hn) B0.out
 have x0 := range_at0 RZ (cf_at 7 _ 0 (by omega))
 have x1 := range_at RZ (cf_at 7 _ 1 (by omega))
 have x2 := range_at RZ (cf_at 7 _ 2 (by omega))
 have x3 := range_at RZ (cf_at 7 _ 3 (by omega))
 have x4 := range_at RZ (cf_at 7 _ 4 (by omega))
 have x5 := range_at RZ (cf_at 7 _ 5 (by omega))
 have x6 := range_at RZ (cf_at 7 _ 6 (by omega))
 have HZ1 := hid hz1
 have HZ2 := hid hz2
 generalize p.slots[n] = s at *
 have B2 := hid (bal (bal B0.out (.cells #[.int .i64 (s 0), .int .i64 (s 1), .int .i64 (s 2), .int .i64 (s 3), .int .i64 (s 4), .int .i64 (s 5), .int .i64 (s 6)] 64)) (.cells #[.int .i64 (s 0), .int .i64 (s 1), .int .i64 (s 2), .int .i64 (s 3), .int .i64 (s 4), .int .i64 (s 5)] 60))
 have s1z : (w.alloc (.cells (arr11 V) 28)).heap.size = w.heap.size + 1 := by simp
 have s2z : ((w.alloc (.cells (arr11 V) 28)).alloc (.cells #[.int .i64 (s 0), .int .i64 (s 1), .int .i64 (s 2), .int .i64 (s 3), .int .i64 (s 4), .int .i64 (s 5), .int .i64 (s 6)] 64)).heap.size = w.heap.size + 1 + 1 := by simp
 have s3z := hid (show (((w.alloc (.cells (arr11 V) 28)).alloc (.cells #[.int .i64 (s 0), .int .i64 (s 1), .int .i64 (s 2), .int .i64 (s 3), .int .i64 (s 4), .int .i64 (s 5), .int .i64 (s 6)] 64)).alloc (.cells #[.int .i64 (s 0), .int .i64 (s 1), .int .i64 (s 2), .int .i64 (s 3), .int .i64 (s 4), .int .i64 (s 5)] 60)).heap.size = w.heap.size + 1 + 1 + 1 by simp)
 have RW := hid (range_below (range_below RG.out (bal (Below.refl _ _) (.cells #[.int .i64 (s 0), .int .i64 (s 1), .int .i64 (s 2), .int .i64 (s 3), .int .i64 (s 4), .int .i64 (s 5), .int .i64 (s 6)] 64))) (bal (Below.refl _ _) (.cells #[.int .i64 (s 0), .int .i64 (s 1), .int .i64 (s 2), .int .i64 (s 3), .int .i64 (s 4), .int .i64 (s 5)] 60)))
 have CS := hid (cells_alloc (cells_at (w.alloc (.cells (arr11 V) 28)) #[.int .i64 (s 0), .int .i64 (s 1), .int .i64 (s 2), .int .i64 (s 3), .int .i64 (s 4), .int .i64 (s 5), .int .i64 (s 6)] 64 (w.heap.size + 1) s1z.symm) (by rw [s2z]; omega) (.cells #[.int .i64 (s 0), .int .i64 (s 1), .int .i64 (s 2), .int .i64 (s 3), .int .i64 (s 4), .int .i64 (s 5)] 60))
 have CK := hid (cells_at ((w.alloc (.cells (arr11 V) 28)).alloc (.cells #[.int .i64 (s 0), .int .i64 (s 1), .int .i64 (s 2), .int .i64 (s 3), .int .i64 (s 4), .int .i64 (s 5), .int .i64 (s 6)] 64)) #[.int .i64 (s 0), .int .i64 (s 1), .int .i64 (s 2), .int .i64 (s 3), .int .i64 (s 4), .int .i64 (s 5)] 60 (w.heap.size + 1 + 1) s2z.symm)
 have HM := hid (fun W (h : Below w.heap.size w W) => (hz1.below h) m hk)
 have HE1 := hid e1
 have HE2 := hid e2
 generalize p.kinds[m] = kd at HM ⊢
 clear hz1 hz2 hq1 hq2 hv s1z s2z RZ hk
 go_enter Tryz.func94, Tryz.ntmps94
 go_upto_region 3 with fail
 generalize World.alloc _ _ = W2 at B2 s3z RW CS CK ⊢
 clear x0 x1 x2 x3 x4 x5 x6 r1 r2 B0 RG
 have KA := hid (show ∀ W, Below W2.heap.size W2 W → W.cell? ⟨w.heap.size, 1, none⟩ = some (V 1) ∧ W.cell? ⟨w.heap.size, 2, none⟩ = some (V 2) ∧ W.cell? ⟨w.heap.size + 1, 6, none⟩ = some (.int .i64 (s 6)) ∧ W.cell? ⟨w.heap.size + 1 + 1, 0, none⟩ = some (.int .i64 (s 0)) ∧ W.cell? ⟨w.heap.size + 1 + 1, 1, none⟩ = some (.int .i64 (s 1)) ∧ W.cell? ⟨w.heap.size + 1 + 1, 2, none⟩ = some (.int .i64 (s 2)) ∧ W.cell? ⟨w.heap.size + 1 + 1, 3, none⟩ = some (.int .i64 (s 3)) ∧ W.cell? ⟨w.heap.size + 1 + 1, 4, none⟩ = some (.int .i64 (s 4)) ∧ W.cell? ⟨w.heap.size + 1 + 1, 5, none⟩ = some (.int .i64 (s 5)) from fun W hb => by
  have g := range_below RW.out hb
  have h1 : w.heap.size + 1 < W2.heap.size := by rw [s3z.out]; omega
  have h2 : w.heap.size + 1 + 1 < W2.heap.size := by rw [s3z.out]; omega
  exact ⟨range_cell g rfl, range_cell g rfl, cells_next CS.out h1 hb 6, cells_next CK.out h2 hb 0, cells_next CK.out h2 hb 1, cells_next CK.out h2 hb 2, cells_next CK.out h2 hb 3, cells_next CK.out h2 hb 4, cells_next CK.out h2 hb 5⟩)
 have HKM := hid (fun W => keyMay_any (s 0) (s 1) (s 2) (s 3) (s 4) (s 5) W)
 obtain ⟨r1, r2, y6, k0, k1, k2, k3, k4, k5⟩ := KA.out W2 (Below.refl _ _)
 have km := HM.out W2 B2.out
 by_cases h0 : s 0 = 0
 ·have h0b : (s 0 == 0) = true := by simpa using h0
  have HC0 := hid (show kc s = 0 → (!bsB p kd s) = (s 6 == -1) from fun hc => by
   have hz : zkB s = true := by
    have hc2 : KP.chk (s 0) (s 1) (s 2) (s 3) (s 4) (s 5) = 0 := hc
    rw [chk_plain, h0, if_neg (by omega), if_pos rfl] at hc2
    split at hc2
    ·rename_i hh
     exact decide_eq_true ⟨h0, hh⟩
    ·omega
   unfold bsB
   rw [hz, if_pos rfl]
   exact Bool.not_not _)
  have HC1 := hid (show ¬ kc s = 0 → (!bsB p kd s) = false from fun hc => by
   have hz : zkB s = false := by
    refine decide_eq_false fun hh => hc ?_
    unfold kc
    rw [hh.1]
    exact KP.chk_2 hh.2
   unfold bsB opB
   rw [hz, show (kc s == 0) = false by simpa using hc]
   simp)
  clear h0
  go_wp2_with fail
  refine (HKM.out W2).mono ?_
  rintro r w1 ⟨rfl, hb⟩
  have A1 := hid hb
  have z6 := (KA.out w1 hb).2.2.1
  rw [show KP.chk (s 0) (s 1) (s 2) (s 3) (s 4) (s 5) = kc s from rfl]
  clear hb
  by_cases hc : kc s = 0
  ·have HN := hid (HC0.out hc)
   rw [hc]
   clear HC0 HC1 hc
   go_wp2_with fail
   go_ret
   exact ⟨by rw [HN.out]; rfl, btr B2.out A1.out⟩
  ·have HN := hid (HC1.out hc)
   generalize kc s = ck at hc ⊢
   have hcb : (ck == 0) = false := by simpa using hc
   clear HC0 HC1
   go_wp2_with fail
   go_ret
   exact ⟨by rw [HN.out]; rfl, btr B2.out A1.out⟩
 have h0b : (s 0 == 0) = false := by simpa using h0
 have HB := hid (show (!bsB p kd s) = (kd == 5 && opB p s && mdB p s && !endB p (s 6)) by
  have hz : zkB s = false := decide_eq_false fun hh => h0 hh.1
  unfold bsB
  rw [hz]
  simp)
 by_cases h5 : kd = 5
 rotate_left
 ·have h52 : (kd != 5) = true := by simpa using h5
  have HN := hid (show (!bsB p kd s) = false by rw [HB.out, show (kd == 5) = false by simpa using h5]; rfl)
  go_wp2_with fail
  go_ret
  exact ⟨by rw [HN.out]; rfl, B2.out⟩
 subst h5
 rw [show ((5 : Int) == 5) = true from rfl, Bool.true_and] at HB
 go_wp2_with fail
 refine (HKM.out W2).mono ?_
 rintro r w1 ⟨rfl, hb⟩
 have A1 := hid hb
 rw [show KP.chk (s 0) (s 1) (s 2) (s 3) (s 4) (s 5) = kc s from rfl]
 clear r1 r2 y6 k0 k1 k2 k3 k4 k5 km hb
 obtain ⟨r1, r2, y6, k0, k1, k2, k3, k4, k5⟩ := KA.out w1 A1.out
 by_cases hc : kc s = 0
 rotate_left
 ·have HN := hid (show (!bsB p 5 s) = false by rw [HB.out]; unfold opB; rw [show (kc s == 0) = false by simpa using hc]; rfl)
  generalize kc s = ck at hc ⊢
  have hcb : (ck != 0) = true := by simpa using hc
  go_wp2_with fail
  go_ret
  exact ⟨by rw [HN.out]; rfl, btr B2.out A1.out⟩
 have HBD := hid (key_bounds hc h0)
 obtain ⟨b0, b1', l0, l1, -⟩ := HBD.out
 have HOP := hid (show opB p s = (decide (s 1 + s 2 ≤ (p.kinds.length : Int)) && (s 0 == 1 || isB p (s 1) (s 0))) by unfold opB; rw [hc]; rfl)
 have HKC := hid hc
 rw [hc]
 clear hc
 have hwr : IntKind.i64.wrap (s 1 + s 2) = s 1 + s 2 := wraps_i64 _ (by omega) (by omega)
 by_cases hs : s 1 + s 2 ≤ (p.kinds.length : Int)
 rotate_left
 ·have hs2 : (p.kinds.length : Int) < s 1 + s 2 := by omega
  have HN := hid (show (!bsB p 5 s) = false by rw [HB.out, HOP.out, decide_eq_false hs]; rfl)
  go_wp2_with fail
  go_ret
  exact ⟨by rw [HN.out]; rfl, btr B2.out A1.out⟩
 have hs2 : ¬ (p.kinds.length : Int) < s 1 + s 2 := by omega
 rw [decide_eq_true hs, Bool.true_and] at HOP
 clear hs
 go_wp2_with fail
 have h1l : s 1 < (p.kinds.length : Int) := by omega
 obtain ⟨j, hj1⟩ : ∃ j : Nat, s 1 = (j : Int) := ⟨(s 1).toNat, by omega⟩
 have hjl : j < p.kinds.length := by omega
 have hjl2 : (j : Int) < (p.kinds.length : Int) := by omega
 have cj := (HZ1.out.below (btr B2.out A1.out)) j hjl
 have HOP2 := hid (show opB p s = (s 0 == 1 || p.kinds[j] == s 0) by
  rw [HOP.out, hj1]
  unfold isB
  rw [kindAt_some hjl]
  rfl)
 generalize p.kinds[j] = z at cj HOP2
 rw [hj1] at k1
 clear HOP hj1 hwr
 cases ho : (s 0 == 1 || z == s 0) with
 | false =>
  rw [Bool.or_eq_false_iff] at ho
  have ho1 : (s 0 != 1) = true := by unfold bne; rw [ho.1]; rfl
  have ho2 : (z != s 0) = true := by unfold bne; rw [ho.2]; rfl
  have HN := hid (show (!bsB p 5 s) = false by rw [HB.out, HOP2.out, ho.1, ho.2]; rfl)
  clear ho
  go_quiet (fail)
  have BB := hid (below_drewN A1.out nq)
  generalize World.drewN _ _ = W4 at BB ⊢
  go_wp2_with fail
  go_ret
  exact ⟨by rw [HN.out]; rfl, btr B2.out BB.out⟩
 | true =>
 rw [ho] at HOP2
 rw [HOP2.out, Bool.true_and] at HB
 clear HOP2
 go_cut [64] (fun r wx => Hid (r = .bool false) ∧ Hid (Below w1.heap.size w1 wx))
 case first =>
  by_cases ho1 : s 0 = 1
  ·have ho2 : (s 0 != 1) = false := by simpa using ho1
   clear ho
   go_quiet (fail)
   have BB := hid (below_drewN (Below.refl w1.heap.size w1) nq)
   go_wp2_with fail
   go_meet
   exact ⟨hid rfl, BB⟩
  ·have ho2 : (s 0 != 1) = true := by simpa using ho1
   have ho3 : (z != s 0) = false := by
    rw [show (s 0 == 1) = false by simpa using ho1, Bool.false_or] at ho
    unfold bne
    rw [ho]
    rfl
   clear ho
   go_quiet (fail)
   have BB := hid (below_drewN (Below.refl w1.heap.size w1) nq)
   go_wp2_with fail
   go_meet
   exact ⟨hid rfl, BB⟩
 case rest =>
 obtain ⟨hx, BX0⟩ := hcut
 obtain rfl := hx.out
 have A2 := hid (btr A1.out BX0.out)
 have B3 := hid (btr B2.out A2.out)
 clear r1 r2 y6 k0 k1 k2 k3 k4 k5 cj BX0 A1 ho
 obtain ⟨r1, r2, y6, k0, k1, k2, k3, k4, k5⟩ := KA.out wc A2.out
 by_cases h6 : s 6 = -1
 ·have h6b : (s 6 == -1) = true := by simpa using h6
  have HN := hid (show (!bsB p 5 s) = true by
   rw [HB.out]
   unfold mdB endB
   rw [h6b, h6, up_no (show slotB p (-1) = false from decide_eq_false (by omega)), show slotB p (-1) = false from decide_eq_false (by omega)]
   rfl)
  clear h6
  go_wp2_with fail
  go_ret
  exact ⟨by rw [HN.out]; rfl, B3.out⟩
 have h6b : (s 6 == -1) = false := by simpa using h6
 cases hsl : slotB p (s 6) with
 | false =>
  have HN := hid (show (!bsB p 5 s) = false by rw [HB.out]; unfold mdB; rw [h6b, hsl]; rfl)
  have h63 : ¬ (0 ≤ s 6 ∧ s 6 ≤ (p.slots.length : Int) - 1) := of_decide_eq_false hsl
  clear hsl h6
  by_cases hx : s 6 < 0
  ·clear h63
   go_wp2_with fail
   go_ret
   exact ⟨by rw [HN.out]; rfl, B3.out⟩
  ·have hx3 : (p.slots.length : Int) ≤ s 6 := by omega
   clear h63
   go_wp2_with fail
   go_ret
   exact ⟨by rw [HN.out]; rfl, B3.out⟩
 | true =>
 obtain ⟨j6, ej6, hj6⟩ := slotB_in hsl
 have hj62 : (j6 : Int) < (p.slots.length : Int) := by omega
 have HMD := hid (show mdB p s = (kc p.slots[j6] == 0 && cmB p.slots[j6] s) by
  unfold mdB fromV
  rw [h6b, hsl, ej6, Int.toNat_natCast, List.getD_eq_getElem?_getD, List.getElem?_eq_getElem hj6]
  rfl)
 have RZ := range_belowO (HZ2.out j6 hj6) B3.out
 have x0 := range_at0 RZ (cf_at 7 _ 0 (by omega))
 have x1 := range_at RZ (cf_at 7 _ 1 (by omega))
 have x2 := range_at RZ (cf_at 7 _ 2 (by omega))
 have x3 := range_at RZ (cf_at 7 _ 3 (by omega))
 have x4 := range_at RZ (cf_at 7 _ 4 (by omega))
 have x5 := range_at RZ (cf_at 7 _ 5 (by omega))
 generalize p.slots[j6] = f at x0 x1 x2 x3 x4 x5 HMD
 clear RZ hsl h6
 have H6 := hid h6b
 rw [ej6] at y6 h6b
 have HA6 := hid ej6
 clear ej6
 have CF := hid (cells_new wc #[.int .i64 (f 0), .int .i64 (f 1), .int .i64 (f 2), .int .i64 (f 3), .int .i64 (f 4), .int .i64 (f 5)] 60)
 have BF := hid (bal (Below.refl wc.heap.size wc) (.cells #[.int .i64 (f 0), .int .i64 (f 1), .int .i64 (f 2), .int .i64 (f 3), .int .i64 (f 4), .int .i64 (f 5)] 60))
 go_wp2_with fail
 refine (keyMay_any (f 0) (f 1) (f 2) (f 3) (f 4) (f 5) _).mono ?_
 rintro r w3 ⟨rfl, hb⟩
 have CF3 := hid (cells_next CF.out (show wc.heap.size < _ by simp) hb)
 have A3 := hid (btr A2.out (btr BF.out hb))
 have B4 := hid (btr B2.out A3.out)
 rw [show KP.chk (f 0) (f 1) (f 2) (f 3) (f 4) (f 5) = kc f from rfl]
 clear x0 x1 x2 x3 x4 x5 CF BF hb r1 r2 y6 k0 k1 k2 k3 k4 k5
 obtain ⟨r1, r2, y6, k0, k1, k2, k3, k4, k5⟩ := KA.out w3 A3.out
 by_cases hcf : kc f = 0
 rotate_left
 ·have HN := hid (show (!bsB p 5 s) = false by rw [HB.out, HMD.out, show (kc f == 0) = false by simpa using hcf]; rfl)
  generalize kc f = ck at hcf ⊢
  have hcb : (ck != 0) = true := by simpa using hcf
  go_wp2_with fail
  go_ret
  exact ⟨by rw [HN.out]; rfl, B4.out⟩
 rw [hcf] at HMD ⊢
 rw [show ((0 : Int) == 0) = true from rfl, Bool.true_and] at HMD
 rw [HMD.out] at HB
 have HBF := hid (KP.chk_zero (show KP.chk (f 0) (f 1) (f 2) (f 3) (f 4) (f 5) = 0 from hcf))
 obtain ⟨-, -, fb0, fb1, -, -, fm0, fm1, fr0, fr1, -, -⟩ := HBF.out
 obtain ⟨-, -, -, -, sr0, sr1⟩ := HBD.out
 clear hcf HMD
 have q0 := CF3.out 0
 have q1 := CF3.out 1
 have q3 := CF3.out 3
 have q4 := CF3.out 4
 have q5 := CF3.out 5
 rw [HA6.out] at y6
 by_cases hf1 : f 0 = 1
 ·have hf1b : (f 0 == 1) = true := by simpa using hf1
  have HB2 := hid (show (!bsB p 5 s) = ((s 0 != 1 && decide (f 1 ≤ s 1 ∧ s 1 ≤ f 1 + f 3 - 1)) && !endB p (s 6)) by rw [HB.out]; unfold cmB; rw [if_pos hf1])
  clear HB hf1
  by_cases hs1 : s 0 = 1
  ·have hs1b : (s 0 == 1) = true := by simpa using hs1
   have HN := hid (show (!bsB p 5 s) = false by rw [HB2.out, hs1]; rfl)
   clear hs1
   go_wp2_with fail
   go_ret
   exact ⟨by rw [HN.out]; rfl, B4.out⟩
  have hs1b : (s 0 == 1) = false := by simpa using hs1
  have HB3 := hid (show (!bsB p 5 s) = (decide (f 1 ≤ s 1 ∧ s 1 ≤ f 1 + f 3 - 1) && !endB p (s 6)) by rw [HB2.out, show (s 0 != 1) = true by simpa using hs1]; rfl)
  clear hs1 HB2
  by_cases ha : s 1 < f 1
  ·have HN := hid (show (!bsB p 5 s) = false by rw [HB3.out, decide_eq_false (by omega)]; rfl)
   go_wp2_with fail
   go_ret
   exact ⟨by rw [HN.out]; rfl, B4.out⟩
  have hws : IntKind.i64.wrap (s 1 - f 1) = s 1 - f 1 := wraps_i64 _ (by omega) (by omega)
  by_cases hd : f 3 ≤ s 1 - f 1
  ·have HN := hid (show (!bsB p 5 s) = false by rw [HB3.out, decide_eq_false (by omega)]; rfl)
   go_wp2_with fail
   go_ret
   exact ⟨by rw [HN.out]; rfl, B4.out⟩
  have HN := hid (show (!bsB p 5 s) = !endB p (s 6) by rw [HB3.out, decide_eq_true (by omega)]; rfl)
  rw [HA6.out] at HN
  generalize hga : (j6 : Int) = a6 at *
  clear hga
  go_wp2_with fail
  go_loopw [8, 9] (fun t i wr => ∃ (k : Nat) (x : Int), k ≤ p.slots.length ∧ i = .int .i64 k ∧ t = .int .i64 x ∧ Hid (up p p.slots.length a6 = up p (p.slots.length - k) x) ∧ Hid (Below w3.heap.size w3 wr)) (fun _ i _ => p.slots.length - (intOf i).toNat)
  case atStart => exact ⟨0, _, by omega, rfl, rfl, hid rfl, hid (Below.refl _ _)⟩
  case round =>
   obtain ⟨k, x, hk, rfl, rfl, HE, HW⟩ := hrel
   have BX := hid (btr A3.out HW.out)
   have BY := hid (btr B2.out BX.out)
   have r2 := (KA.out wr BX.out).2.1
   by_cases hlt : k < p.slots.length
   ·have hlt2 : (k : Int) < (p.slots.length : Int) := by omega
    cases hs : slotB p x with
    | false =>
     have HN2 := hid (show (!bsB p 5 s) = true by rw [HN.out]; unfold endB; rw [HE.out, up_no hs, hs]; rfl)
     have hs3 : ¬ (0 ≤ x ∧ x ≤ (p.slots.length : Int) - 1) := of_decide_eq_false hs
     clear hs
     by_cases hx : x < 0
     ·have hx2 : ¬ 0 ≤ x := by omega
      go_wp2_with fail
      go_ret
      exact ⟨by rw [HN2.out]; rfl, BY.out⟩
     ·have hx2 : 0 ≤ x := by omega
      have hx3 : (p.slots.length : Int) ≤ x := by omega
      have hx4 : ¬ x < (p.slots.length : Int) := by omega
      clear hs3
      go_wp2_with fail
      go_ret
      exact ⟨by rw [HN2.out]; rfl, BY.out⟩
    | true =>
     obtain ⟨jj, rfl, hjj⟩ := slotB_in hs
     have hjj2 : (jj : Int) < (p.slots.length : Int) := by omega
     have c6 := range_at (range_belowO (HZ2.out jj hjj) BY.out) (cf_at 7 _ 6 (by omega))
     have HE2 := hid (show up p p.slots.length a6 = up p (p.slots.length - (k + 1)) (p.slots[jj] 6) by
      rw [HE.out, show p.slots.length - k = (p.slots.length - (k + 1)) + 1 by omega, up_yes hjj])
     generalize p.slots[jj] 6 = y at c6 HE2
     clear hs
     go_wp2_with fail
     exact ⟨⟨k + 1, y, by omega, by go_num, rfl, HE2, HW⟩, by simp [intOf]; omega⟩
   ·obtain rfl : k = p.slots.length := by omega
    have hge : ¬ ((p.slots.length : Int) < (p.slots.length : Int)) := by omega
    have HN2 := hid (show (!bsB p 5 s) = !slotB p x by rw [HN.out]; unfold endB; rw [HE.out, Nat.sub_self]; rfl)
    by_cases hx : x < 0
    ·have HN3 := hid (show (!bsB p 5 s) = true by rw [HN2.out, show slotB p x = false from decide_eq_false (by omega)]; rfl)
     go_wp2_with fail
     go_ret
     exact ⟨by rw [HN3.out]; rfl, BY.out⟩
    ·by_cases hx3 : (p.slots.length : Int) ≤ x
     ·have HN3 := hid (show (!bsB p 5 s) = true by rw [HN2.out, show slotB p x = false from decide_eq_false (by omega)]; rfl)
      go_wp2_with fail
      go_ret
      exact ⟨by rw [HN3.out]; rfl, BY.out⟩
     ·have HN3 := hid (show (!bsB p 5 s) = false by rw [HN2.out, show slotB p x = true from decide_eq_true (by omega)]; rfl)
      go_wp2_with fail
      go_ret
      exact ⟨by rw [HN3.out]; rfl, BY.out⟩
 ·have hf1b : (f 0 == 1) = false := by simpa using hf1
  have HB2 := hid (show (!bsB p 5 s) = ((s 0 == f 0 && s 1 == f 1 && ((bw 6 (f 4).toNat (s 4).toNat : Nat) : Int) == s 4 && (f 5 == 0 || s 5 == f 5)) && !endB p (s 6)) by
   rw [HB.out]
   unfold cmB
   rw [if_neg hf1, and_bits fr0 fr1 sr0 sr1])
  have HBW := hid (show ∀ W, Calls Tryz.prog 37 #[.int .i64 (f 4), .int .i64 (s 4), .int .i64 6] W fun e w' => e = .returned (.int .i64 (bw 6 (f 4).toNat (s 4).toNat : Nat)) ∧ w' = W from fun W => (Cpu.bitwise_int 6 (Or.inl rfl) (f 4) (s 4) W fr0 (by omega) sr0 (by omega)).mono fun _ _ h => ⟨h.1, h.2.symm⟩)
  generalize ((bw 6 (f 4).toNat (s 4).toNat : Nat) : Int) = bq at HB2 HBW
  clear HB hf1
  go_wp2_with fail
  by_cases g0 : s 0 = f 0
  rotate_left
  ·have g0b : (f 0 != s 0) = true := by simpa using fun e => g0 e.symm
   have HN := hid (show (!bsB p 5 s) = false by rw [HB2.out, show (s 0 == f 0) = false by simpa using g0]; rfl)
   clear g0
   go_quiet (fail)
   have BB := hid (below_drewN B4.out nq)
   generalize World.drewN _ _ = W5 at BB ⊢
   go_wp2_with fail
   go_ret
   exact ⟨by rw [HN.out]; rfl, BB.out⟩
  have g0b : (f 0 != s 0) = false := by simpa using g0.symm
  by_cases g1 : s 1 = f 1
  rotate_left
  ·have g1b : (f 1 != s 1) = true := by simpa using fun e => g1 e.symm
   have HN := hid (show (!bsB p 5 s) = false by rw [HB2.out, show (s 1 == f 1) = false by simpa using g1]; simp)
   clear g0 g1
   go_quiet (fail)
   have BB := hid (below_drewN B4.out nq)
   generalize World.drewN _ _ = W5 at BB ⊢
   go_wp2_with fail
   go_ret
   exact ⟨by rw [HN.out]; rfl, BB.out⟩
  have g1b : (f 1 != s 1) = false := by simpa using g1.symm
  rw [show (s 0 == f 0) = true by simpa using g0, show (s 1 == f 1) = true by simpa using g1, Bool.true_and, Bool.true_and] at HB2
  clear g0 g1
  cases g5 : (f 5 == 0 || s 5 == f 5) with
  | false =>
   have HN := hid (show (!bsB p 5 s) = false by rw [HB2.out, g5]; simp)
   rw [Bool.or_eq_false_iff] at g5
   have g5b : (f 5 != 0) = true := by unfold bne; rw [g5.1]; rfl
   have g5c : (f 5 != s 5) = true := by simpa using fun e => (by simpa using g5.2 : ¬ s 5 = f 5) e.symm
   clear g5
   go_quiet (fail)
   have BB := hid (below_drewN B4.out nq)
   generalize World.drewN _ _ = W5 at BB ⊢
   go_wp2_with fail
   go_ret
   exact ⟨by rw [HN.out]; rfl, BB.out⟩
  | true =>
  rw [g5, Bool.and_true] at HB2
  by_cases g4 : bq = s 4
  rotate_left
  ·have g4b : (bq != s 4) = true := by simpa using g4
   have HN := hid (show (!bsB p 5 s) = false by rw [HB2.out, show (bq == s 4) = false by simpa using g4]; rfl)
   clear g4
   by_cases g6 : f 5 = 0
   ·have g6b : (f 5 != 0) = false := by simpa using g6
    clear g5 g6
    go_quiet (first | (go_at_call 37; refine Calls.quiet_of_same (HBW.out _)))
    have BB := hid (below_drewN B4.out nq)
    generalize World.drewN _ _ = W5 at BB ⊢
    go_wp2_with fail
    go_ret
    exact ⟨by rw [HN.out]; rfl, BB.out⟩
   ·have g6b : (f 5 != 0) = true := by simpa using g6
    have g6c : (f 5 != s 5) = false := by
     rw [show (f 5 == 0) = false by simpa using g6, Bool.false_or] at g5
     simpa using (by simpa using g5 : s 5 = f 5).symm
    clear g5 g6
    go_quiet (first | (go_at_call 37; refine Calls.quiet_of_same (HBW.out _)))
    have BB := hid (below_drewN B4.out nq)
    generalize World.drewN _ _ = W5 at BB ⊢
    go_wp2_with fail
    go_ret
    exact ⟨by rw [HN.out]; rfl, BB.out⟩
  have g4b : (bq != s 4) = false := by simpa using g4
  have HN := hid (show (!bsB p 5 s) = !endB p (s 6) by rw [HB2.out, show (bq == s 4) = true by simpa using g4]; rfl)
  clear g4 HB2
  go_cut [145] (fun r wx => Hid (r = .bool false) ∧ Hid (Below w3.heap.size w3 wx))
  case first =>
   by_cases g6 : f 5 = 0
   ·have g6b : (f 5 != 0) = false := by simpa using g6
    clear g5 g6
    go_quiet (first | (go_at_call 37; refine Calls.quiet_of_same (HBW.out _)))
    have BB := hid (below_drewN (Below.refl w3.heap.size w3) nq)
    go_wp2_with fail
    go_meet
    exact ⟨hid rfl, BB⟩
   ·have g6b : (f 5 != 0) = true := by simpa using g6
    have g6c : (f 5 != s 5) = false := by
     rw [show (f 5 == 0) = false by simpa using g6, Bool.false_or] at g5
     simpa using (by simpa using g5 : s 5 = f 5).symm
    clear g5 g6
    go_quiet (first | (go_at_call 37; refine Calls.quiet_of_same (HBW.out _)))
    have BB := hid (below_drewN (Below.refl w3.heap.size w3) nq)
    go_wp2_with fail
    go_meet
    exact ⟨hid rfl, BB⟩
  case rest =>
  obtain ⟨hx, BX0⟩ := hcut
  obtain rfl := hx.out
  have A4 := hid (btr A3.out BX0.out)
  clear r1 r2 y6 k0 k1 k2 k3 k4 k5 q0 q1 q3 q4 q5
  obtain ⟨r1, r2, y6, k0, k1, k2, k3, k4, k5⟩ := KA.out wc A4.out
  rw [HA6.out] at y6 HN
  generalize hga : (j6 : Int) = a6 at *
  clear hga g5
  go_wp2_with fail
  go_loopw [8, 9] (fun t i wr => ∃ (k : Nat) (x : Int), k ≤ p.slots.length ∧ i = .int .i64 k ∧ t = .int .i64 x ∧ Hid (up p p.slots.length a6 = up p (p.slots.length - k) x) ∧ Hid (Below wc.heap.size wc wr)) (fun _ i _ => p.slots.length - (intOf i).toNat)
  case atStart => exact ⟨0, _, by omega, rfl, rfl, hid rfl, hid (Below.refl _ _)⟩
  case round =>
   obtain ⟨k, x, hk, rfl, rfl, HE, HW⟩ := hrel
   have BX := hid (btr A4.out HW.out)
   have BY := hid (btr B2.out BX.out)
   have r2 := (KA.out wr BX.out).2.1
   by_cases hlt : k < p.slots.length
   ·have hlt2 : (k : Int) < (p.slots.length : Int) := by omega
    cases hs : slotB p x with
    | false =>
     have HN2 := hid (show (!bsB p 5 s) = true by rw [HN.out]; unfold endB; rw [HE.out, up_no hs, hs]; rfl)
     have hs3 : ¬ (0 ≤ x ∧ x ≤ (p.slots.length : Int) - 1) := of_decide_eq_false hs
     clear hs
     by_cases hx : x < 0
     ·have hx2 : ¬ 0 ≤ x := by omega
      go_wp2_with fail
      go_ret
      exact ⟨by rw [HN2.out]; rfl, BY.out⟩
     ·have hx2 : 0 ≤ x := by omega
      have hx3 : (p.slots.length : Int) ≤ x := by omega
      have hx4 : ¬ x < (p.slots.length : Int) := by omega
      clear hs3
      go_wp2_with fail
      go_ret
      exact ⟨by rw [HN2.out]; rfl, BY.out⟩
    | true =>
     obtain ⟨jj, rfl, hjj⟩ := slotB_in hs
     have hjj2 : (jj : Int) < (p.slots.length : Int) := by omega
     have c6 := range_at (range_belowO (HZ2.out jj hjj) BY.out) (cf_at 7 _ 6 (by omega))
     have HE2 := hid (show up p p.slots.length a6 = up p (p.slots.length - (k + 1)) (p.slots[jj] 6) by
      rw [HE.out, show p.slots.length - k = (p.slots.length - (k + 1)) + 1 by omega, up_yes hjj])
     generalize p.slots[jj] 6 = y at c6 HE2
     clear hs
     go_wp2_with fail
     exact ⟨⟨k + 1, y, by omega, by go_num, rfl, HE2, HW⟩, by simp [intOf]; omega⟩
   ·obtain rfl : k = p.slots.length := by omega
    have hge : ¬ ((p.slots.length : Int) < (p.slots.length : Int)) := by omega
    have HN2 := hid (show (!bsB p 5 s) = !slotB p x by rw [HN.out]; unfold endB; rw [HE.out, Nat.sub_self]; rfl)
    by_cases hx : x < 0
    ·have HN3 := hid (show (!bsB p 5 s) = true by rw [HN2.out, show slotB p x = false from decide_eq_false (by omega)]; rfl)
     go_wp2_with fail
     go_ret
     exact ⟨by rw [HN3.out]; rfl, BY.out⟩
    ·by_cases hx3 : (p.slots.length : Int) ≤ x
     ·have HN3 := hid (show (!bsB p 5 s) = true by rw [HN2.out, show slotB p x = false from decide_eq_false (by omega)]; rfl)
      go_wp2_with fail
      go_ret
      exact ⟨by rw [HN3.out]; rfl, BY.out⟩
     ·have HN3 := hid (show (!bsB p 5 s) = false by rw [HN2.out, show slotB p x = true from decide_eq_true (by omega)]; rfl)
      go_wp2_with fail
      go_ret
      exact ⟨by rw [HN3.out]; rfl, BY.out⟩
end Go.Proofs.YtoebmjgkfkfhjaaGreatDoor.Wd
