/- The rest of GTc1: what few laws reach. -/
import Derived.Test.YtoebmjgkfkfhjaaGreatDoorGSlM2
import Derived.Test.YtoebmjgkfkfhjaaGreatDoorGTc1
namespace Go.Proofs.YtoebmjgkfkfhjaaGreatDoor.Wd
open Go.RowKit Go.Proofs.YtoebmjgkfkfhjaaGreatDoor.Mem Go.Proofs.YtoebmjgkfkfhjaaGreatDoor.Bw Go.Proofs.YtoebmjgkfkfhjaaGreatDoor.Nums Go.Proofs.YtoebmjgkfkfhjaaGreatDoor.Mmu
def opE (p : PW) (n : Int) : Int := if slotB p n then (if p.kinds.getD (n.toNat / 16) 0 = 5 then (if (p.slots.getD n.toNat nkey) 0 = 0 then 0 else 12) else 3) else 2
def boE (p : PW) (a b : Int) : Int := if hasE p a = 0 then opE p b else hasE p a
set_option maxRecDepth 100000 in
set_option maxHeartbeats 600000 in
theorem free_any (vb : Nat) (V : Nat → Value) (p : PW) (n : Int) (w : World) (hv : ViewAt w vb V p) (hk : p.slots.length = p.kinds.length * 16) :
  Calls Tryz.prog 56 #[.pointer (some ⟨vb, 0, none⟩), .int .i64 n] w fun r w' => r = .returned (eV (opE p n)) ∧ w = w' := by
 have c2 : w.cell? ⟨vb, 2, none⟩ = some (V 2) := range_cell hv.r rfl
 have c1 : w.cell? ⟨vb, 1, none⟩ = some (V 1) := range_cell hv.r rfl
 obtain ⟨q2, b2, off2, cap2, e2, hq2, hz2⟩ := hv.v.slots
 obtain ⟨q1, b1, off1, cap1, e1, hq1, hz1⟩ := hv.v.kinds
 have hl2 : (p.slots.length : Int) ≤ 1000 := by have := hv.f.slots; omega
 have hl1 : (p.kinds.length : Int) ≤ 1000 := by have := hv.f.kinds; omega
 have HV := hid hv
 cases hs : slotB p n with
 | false =>
  have HN := hid (show opE p n = 2 by unfold opE; rw [hs]; rfl)
  have HSB := hid hs
  clear hs hz2 hq2 hz1 hq1 hv hk
  go_enter Tryz.func56, Tryz.ntmps56
  go_wp2_with fail
  refine (pisSlot_any vb V p _ w HV.out).mono ?_
  rintro r w1 ⟨rfl, rfl⟩
  rw [HSB.out]
  go_wp2_with fail
  go_ret
  exact ⟨by rw [HN.out]; rfl, rfl⟩
 | true =>
  obtain ⟨j, rfl, hj⟩ := slotB_in hs
  have HSB := hid hs
  have hj2 : (j : Int) < (p.slots.length : Int) := by omega
  obtain rfl := hq2 (by omega)
  have x0 := range_at0 (hz2 j hj) (cf_at 7 _ 0 (by omega))
  have hk2 : j / 16 < p.kinds.length := by omega
  have hk3 : ((j : Int) / 16) = ((j / 16 : Nat) : Int) := by omega
  have hk4 : ((j / 16 : Nat) : Int) < (p.kinds.length : Int) := by omega
  obtain rfl := hq1 (by omega)
  have z0 := hz1 (j / 16) hk2
  have HA := hid (show opE p j = if p.kinds[j / 16] = 5 then (if p.slots[j] 0 = 0 then 0 else 12) else 3 by unfold opE; rw [hs, if_pos rfl, Int.toNat_natCast, getD_at hk2, List.getD_eq_getElem?_getD, List.getElem?_eq_getElem hj]; rfl)
  generalize p.slots[j] 0 = y at x0 HA
  generalize p.kinds[j / 16] = kd at z0 HA
  generalize j / 16 = i at *
  clear hs hz2 hq2 hz1 hq1 hv hk hk2
  by_cases h5 : kd = 5
  rotate_left
  ·have HN := hid (show opE p j = 3 by rw [HA.out, if_neg h5])
   have h5b : (kd != 5) = true := by simpa using h5
   clear h5
   go_enter Tryz.func56, Tryz.ntmps56
   go_wp2_with fail
   refine (pisSlot_any vb V p _ w HV.out).mono ?_
   rintro r w1 ⟨rfl, rfl⟩
   rw [HSB.out]
   go_wp2_with fail
   go_ret
   exact ⟨by rw [HN.out]; rfl, rfl⟩
  subst h5
  by_cases h0 : y = 0
  ·subst h0
   have HN := hid (show opE p j = 0 by rw [HA.out]; rfl)
   go_enter Tryz.func56, Tryz.ntmps56
   go_wp2_with fail
   refine (pisSlot_any vb V p _ w HV.out).mono ?_
   rintro r w1 ⟨rfl, rfl⟩
   rw [HSB.out]
   go_wp2_with fail
   go_ret
   exact ⟨by rw [HN.out]; rfl, rfl⟩
  ·have HN := hid (show opE p j = 12 by rw [HA.out, if_pos rfl, if_neg h0])
   have h0b : (y != 0) = true := by simpa using h0
   clear h0
   go_enter Tryz.func56, Tryz.ntmps56
   go_wp2_with fail
   refine (pisSlot_any vb V p _ w HV.out).mono ?_
   rintro r w1 ⟨rfl, rfl⟩
   rw [HSB.out]
   go_wp2_with fail
   go_ret
   exact ⟨by rw [HN.out]; rfl, rfl⟩
set_option maxRecDepth 100000 in
set_option maxHeartbeats 600000 in
theorem open_ref (vb : Nat) (V : Nat → Value) (p : PW) (n : Int) (w : World) (hv : ViewAt w vb V p) (hk : p.slots.length = p.kinds.length * 16) :
  Calls Tryz.prog 62 #[.pointer (some ⟨vb, 0, none⟩), .int .i64 n] w fun r w' => r = .returned (.int .i64 (opE p n)) ∧ w = w' := by
 have c2 : w.cell? ⟨vb, 2, none⟩ = some (V 2) := range_cell hv.r rfl
 have c1 : w.cell? ⟨vb, 1, none⟩ = some (V 1) := range_cell hv.r rfl
 obtain ⟨q2, b2, off2, cap2, e2, hq2, hz2⟩ := hv.v.slots
 obtain ⟨q1, b1, off1, cap1, e1, hq1, hz1⟩ := hv.v.kinds
 have hl2 : (p.slots.length : Int) ≤ 1000 := by have := hv.f.slots; omega
 have hl1 : (p.kinds.length : Int) ≤ 1000 := by have := hv.f.kinds; omega
 cases hs : slotB p n with
 | false =>
  have HN := hid (show opE p n = 2 by unfold opE; rw [hs]; rfl)
  have HSB := hid hs
  have hn := of_decide_eq_false hs
  clear hs HSB hz2 hq2 hz1 hq1 hv hk
  by_cases h0 : n < 0
  ·clear hn
   go_enter Tryz.func62, Tryz.ntmps62
   go_wp2_with fail
   go_ret
   exact ⟨by rw [HN.out]; rfl, rfl⟩
  ·have h1 : (p.slots.length : Int) ≤ n := by omega
   clear hn
   go_enter Tryz.func62, Tryz.ntmps62
   go_wp2_with fail
   go_ret
   exact ⟨by rw [HN.out]; rfl, rfl⟩
 | true =>
  obtain ⟨j, rfl, hj⟩ := slotB_in hs
  have HSB := hid hs
  have hj2 : (j : Int) < (p.slots.length : Int) := by omega
  obtain rfl := hq2 (by omega)
  have x0 := range_at0 (hz2 j hj) (cf_at 7 _ 0 (by omega))
  have hk2 : j / 16 < p.kinds.length := by omega
  have hk3 : ((j : Int) / 16) = ((j / 16 : Nat) : Int) := by omega
  have hk4 : ((j / 16 : Nat) : Int) < (p.kinds.length : Int) := by omega
  obtain rfl := hq1 (by omega)
  have z0 := hz1 (j / 16) hk2
  have HA := hid (show opE p j = if p.kinds[j / 16] = 5 then (if p.slots[j] 0 = 0 then 0 else 12) else 3 by unfold opE; rw [hs, if_pos rfl, Int.toNat_natCast, getD_at hk2, List.getD_eq_getElem?_getD, List.getElem?_eq_getElem hj]; rfl)
  generalize p.slots[j] 0 = y at x0 HA
  generalize p.kinds[j / 16] = kd at z0 HA
  generalize j / 16 = i at *
  clear hs hz2 hq2 hz1 hq1 hv hk hk2
  have n0 : ¬ ((j : Int) < 0) := by omega
  have n1 : ¬ ((p.slots.length : Int) ≤ (j : Int)) := by omega
  by_cases h5 : kd = 5
  rotate_left
  ·have HN := hid (show opE p j = 3 by rw [HA.out, if_neg h5])
   have h5b : (kd != 5) = true := by simpa using h5
   clear h5
   go_enter Tryz.func62, Tryz.ntmps62
   go_wp2_with fail
   go_ret
   exact ⟨by rw [HN.out]; rfl, rfl⟩
  subst h5
  by_cases h0 : y = 0
  ·subst h0
   have HN := hid (show opE p j = 0 by rw [HA.out]; rfl)
   go_enter Tryz.func62, Tryz.ntmps62
   go_wp2_with fail
   go_ret
   exact ⟨by rw [HN.out]; rfl, rfl⟩
  ·have HN := hid (show opE p j = 12 by rw [HA.out, if_pos rfl, if_neg h0])
   have h0b : (y != 0) = true := by simpa using h0
   clear h0
   go_enter Tryz.func62, Tryz.ntmps62
   go_wp2_with fail
   go_ret
   exact ⟨by rw [HN.out]; rfl, rfl⟩
set_option maxRecDepth 100000 in
theorem between_any (vb : Nat) (V : Nat → Value) (p : PW) (a b : Int) (w : World) (hv : ViewAt w vb V p) (hk : p.slots.length = p.kinds.length * 16) :
  Calls Tryz.prog 30 #[.pointer (some ⟨vb, 0, none⟩), .int .i64 a, .int .i64 b] w fun r w' => r = .returned (eV (boE p a b)) ∧ w = w' := by
 have H1 := hid (full_any vb V p a w hv)
 have H2 := hid (free_any vb V p b w hv hk)
 clear hv hk
 by_cases h : hasE p a = 0
 ·have HN := hid (show boE p a b = opE p b from if_pos h)
  rw [h, eV_0] at H1
  have HV := hid (show eV (boE p a b) = eV (opE p b) by rw [HN.out])
  generalize eV (opE p b) = ve at H2 HV
  clear h
  go_enter Tryz.func30, Tryz.ntmps30
  go_wp2_with fail
  refine H1.out.mono ?_
  rintro r w1 ⟨rfl, rfl⟩
  go_wp2_with fail
  refine H2.out.mono ?_
  rintro r w1 ⟨rfl, rfl⟩
  go_wp2_with fail
  go_ret
  exact ⟨by rw [HV.out]; rfl, rfl⟩
 ·have HN := hid (show boE p a b = hasE p a from if_neg h)
  rw [eV_n h] at H1
  have HV := hid (show eV (boE p a b) = .iface 35 (.int .i64 (hasE p a)) by rw [HN.out, eV_n h])
  generalize hasE p a = x at H1 HV
  clear h H2
  go_enter Tryz.func30, Tryz.ntmps30
  go_wp2_with fail
  refine H1.out.mono ?_
  rintro r w1 ⟨rfl, rfl⟩
  go_wp2_with fail
  go_ret
  exact ⟨by rw [HV.out]; rfl, rfl⟩
set_option maxRecDepth 100000 in
theorem both_ref (vb : Nat) (V : Nat → Value) (p : PW) (a b : Int) (w : World) (hv : ViewAt w vb V p) (hk : p.slots.length = p.kinds.length * 16) :
  Calls Tryz.prog 35 #[.pointer (some ⟨vb, 0, none⟩), .int .i64 a, .int .i64 b] w fun r w' => r = .returned (.int .i64 (boE p a b)) ∧ w = w' := by
 have H1 := hid (has_ref vb V p a w hv)
 have H2 := hid (open_ref vb V p b w hv hk)
 clear hv hk
 by_cases h : hasE p a = 0
 ·have HN := hid (show boE p a b = opE p b from if_pos h)
  rw [h] at H1
  generalize opE p b = x at H2 HN
  clear h
  go_enter Tryz.func35, Tryz.ntmps35
  go_wp2_with fail
  refine H1.out.mono ?_
  rintro r w1 ⟨rfl, rfl⟩
  go_wp2_with fail
  refine H2.out.mono ?_
  rintro r w1 ⟨rfl, rfl⟩
  go_wp2_with fail
  go_ret
  exact ⟨by rw [HN.out]; rfl, rfl⟩
 ·have HN := hid (show boE p a b = hasE p a from if_neg h)
  have hb : (hasE p a == 0) = false := by simpa using h
  generalize hasE p a = x at H1 HN hb
  clear h H2
  go_enter Tryz.func35, Tryz.ntmps35
  go_wp2_with fail
  refine H1.out.mono ?_
  rintro r w1 ⟨rfl, rfl⟩
  go_wp2_with fail
  go_ret
  exact ⟨by rw [HN.out]; rfl, rfl⟩
theorem boE_in {p : PW} {a b : Int} (h : boE p a b = 0) : ∃ i j : Nat, a = i ∧ b = j ∧ i < p.slots.length ∧ j < p.slots.length := by
 unfold boE at h
 split at h
 ·rename_i h1
  unfold hasE at h1
  unfold opE at h
  cases ha : slotB p a with
  | false => rw [ha] at h1; simp at h1
  | true =>
   cases hb : slotB p b with
   | false => rw [hb] at h; simp at h
   | true =>
    obtain ⟨i, hi, hi2⟩ := slotB_in ha
    obtain ⟨j, hj, hj2⟩ := slotB_in hb
    exact ⟨i, j, hi, hj, hi2, hj2⟩
 ·rename_i h1
  exact absurd h h1
def lsE (s : Nat → Int) (r g : Int) : Int := if s 0 = 1 then 3 else if (within 0 7 r && wB g) = false then 2 else if g = 0 then 0 else if (s 0 ≠ 7 ∧ s 0 ≠ 8) ∨ s 5 ≠ 0 then 4 else 0
def lsK (s : Nat → Int) (r g : Int) : Nat → Int := fun k => if k = 4 then bits .and .i64 (s 4) r else if k = 5 then (if g = 0 then s 5 else g) else s k
def lsR (s : Nat → Int) (r g : Int) : Nat → Int := if lsE s r g = 0 then lsK s r g else nkey
set_option maxRecDepth 100000 in
set_option maxHeartbeats 2000000 in
theorem lesser_any (s : Nat → Int) (r g : Int) (w : World) :
  Calls Tryz.prog 31 #[.agg (kv s), .int .i64 r, .int .i64 g] w fun x w' => x = .returned (.tuple #[.agg (kv (lsR s r g)), eV (lsE s r g)]) ∧ Below w.heap.size w w' := by
 have B1 := hid (bal (bal (Below.refl w.heap.size w) (.cells #[.int .i64 (s 0), .int .i64 (s 1), .int .i64 (s 2), .int .i64 (s 3), .int .i64 (s 4), .int .i64 (s 5)] 60)) (.cells #[.int .i64 0, .int .i64 0, .int .i64 0, .int .i64 0, .int .i64 0, .int .i64 0] 60))
 have CK := hid (cells_alloc (cells_new w #[.int .i64 (s 0), .int .i64 (s 1), .int .i64 (s 2), .int .i64 (s 3), .int .i64 (s 4), .int .i64 (s 5)] 60) (by simp) (.cells #[.int .i64 0, .int .i64 0, .int .i64 0, .int .i64 0, .int .i64 0, .int .i64 0] 60))
 have FK := hid (show ∀ o, ((w.alloc (.cells #[.int .i64 (s 0), .int .i64 (s 1), .int .i64 (s 2), .int .i64 (s 3), .int .i64 (s 4), .int .i64 (s 5)] 60)).alloc (.cells #[.int .i64 0, .int .i64 0, .int .i64 0, .int .i64 0, .int .i64 0, .int .i64 0] 60)).frozen? ⟨w.heap.size, o, none⟩ = false from froz_alloc (fun o => World.frozen?_alloc_at _ _ _ _ rfl) (by simp) _)
 have CZ := hid (cells_at (w.alloc (.cells #[.int .i64 (s 0), .int .i64 (s 1), .int .i64 (s 2), .int .i64 (s 3), .int .i64 (s 4), .int .i64 (s 5)] 60)) #[.int .i64 0, .int .i64 0, .int .i64 0, .int .i64 0, .int .i64 0, .int .i64 0] 60 (w.heap.size + 1) (by simp))
 have FZ := hid (show ∀ o, ((w.alloc (.cells #[.int .i64 (s 0), .int .i64 (s 1), .int .i64 (s 2), .int .i64 (s 3), .int .i64 (s 4), .int .i64 (s 5)] 60)).alloc (.cells #[.int .i64 0, .int .i64 0, .int .i64 0, .int .i64 0, .int .i64 0, .int .i64 0] 60)).frozen? ⟨w.heap.size + 1, o, none⟩ = false from fun o => World.frozen?_alloc_at _ _ _ _ (by simp))
 unfold kv
 go_enter Tryz.func31, Tryz.ntmps31
 go_upto_region 1 with fail
 generalize World.alloc _ _ = W1 at *
 have k0 := CK.out 0
 have k4 := CK.out 4
 have k5 := CK.out 5
 have fk := FK.out
 have cz := CZ.out
 have fz := FZ.out
 by_cases h1 : s 0 = 1
 ·have h1b : (s 0 == 1) = true := by simpa using h1
  have HE := hid (show lsE s r g = 3 by unfold lsE; rw [if_pos h1])
  clear h1
  go_wp2_with fail
  have HR := hid (show lsR s r g = nkey from if_neg (by rw [HE.out]; decide))
  have q := six_set (B := w.heap.size + 1) (v0 := .int .i64 0) (v1 := .int .i64 0) (v2 := .int .i64 0) (v3 := .int .i64 0) (v4 := .int .i64 0) (v5 := .int .i64 0) cz
  exact bodyPost_ret (v := .tuple #[.agg #[.int .i64 0, .int .i64 0, .int .i64 0, .int .i64 0, .int .i64 0, .int .i64 0], .iface 35 (.int .i64 3)]) (by simp [results, Tryz.results31, go_sem, q 0, q 1, q 2, q 3, q 4, q 5]) rfl ⟨by rw [HR.out, HE.out]; rfl, bset6s B1.out⟩
 have h1b : (s 0 == 1) = false := by simpa using h1
 go_wp2_with fail
 refine (withinB r 0 7 _).mono ?_
 rintro x w1 ⟨rfl, rfl⟩
 cases hr : within 0 7 r with
 | false =>
  have HE := hid (show lsE s r g = 2 by unfold lsE; rw [if_neg h1, hr]; rfl)
  clear h1 hr
  go_wp2_with fail
  have HR := hid (show lsR s r g = nkey from if_neg (by rw [HE.out]; decide))
  have q := six_set (B := w.heap.size + 1) (v0 := .int .i64 0) (v1 := .int .i64 0) (v2 := .int .i64 0) (v3 := .int .i64 0) (v4 := .int .i64 0) (v5 := .int .i64 0) cz
  exact bodyPost_ret (v := .tuple #[.agg #[.int .i64 0, .int .i64 0, .int .i64 0, .int .i64 0, .int .i64 0, .int .i64 0], .iface 35 (.int .i64 2)]) (by simp [results, Tryz.results31, go_sem, q 0, q 1, q 2, q 3, q 4, q 5]) rfl ⟨by rw [HR.out, HE.out]; rfl, bset6s B1.out⟩
 | true =>
 go_wp2_with fail
 refine (isWord_any g _).mono ?_
 rintro x w1 ⟨rfl, rfl⟩
 cases hw : wB g with
 | false =>
  have HE := hid (show lsE s r g = 2 by unfold lsE; rw [if_neg h1, hr, hw]; rfl)
  clear h1 hr hw
  go_wp2_with fail
  have HR := hid (show lsR s r g = nkey from if_neg (by rw [HE.out]; decide))
  have q := six_set (B := w.heap.size + 1) (v0 := .int .i64 0) (v1 := .int .i64 0) (v2 := .int .i64 0) (v3 := .int .i64 0) (v4 := .int .i64 0) (v5 := .int .i64 0) cz
  exact bodyPost_ret (v := .tuple #[.agg #[.int .i64 0, .int .i64 0, .int .i64 0, .int .i64 0, .int .i64 0, .int .i64 0], .iface 35 (.int .i64 2)]) (by simp [results, Tryz.results31, go_sem, q 0, q 1, q 2, q 3, q 4, q 5]) rfl ⟨by rw [HR.out, HE.out]; rfl, bset6s B1.out⟩
 | true =>
 have HE0 := hid (show lsE s r g = if g = 0 then 0 else if (s 0 ≠ 7 ∧ s 0 ≠ 8) ∨ s 5 ≠ 0 then 4 else 0 by unfold lsE; rw [if_neg h1, hr, hw]; rfl)
 have CA := hid (cells_set CK.out 4 (by simp) (.int .i64 (bits .and .i64 (s 4) r)))
 have ca0 : (W1.setCell ⟨w.heap.size, 4, none⟩ (.int .i64 (bits .and .i64 (s 4) r))).cell? ⟨w.heap.size, 0, none⟩ = some (.int .i64 (s 0)) := CA.out 0
 have ca1 : (W1.setCell ⟨w.heap.size, 4, none⟩ (.int .i64 (bits .and .i64 (s 4) r))).cell? ⟨w.heap.size, 1, none⟩ = some (.int .i64 (s 1)) := CA.out 1
 have ca2 : (W1.setCell ⟨w.heap.size, 4, none⟩ (.int .i64 (bits .and .i64 (s 4) r))).cell? ⟨w.heap.size, 2, none⟩ = some (.int .i64 (s 2)) := CA.out 2
 have ca3 : (W1.setCell ⟨w.heap.size, 4, none⟩ (.int .i64 (bits .and .i64 (s 4) r))).cell? ⟨w.heap.size, 3, none⟩ = some (.int .i64 (s 3)) := CA.out 3
 have ca4 : (W1.setCell ⟨w.heap.size, 4, none⟩ (.int .i64 (bits .and .i64 (s 4) r))).cell? ⟨w.heap.size, 4, none⟩ = some (.int .i64 (bits .and .i64 (s 4) r)) := CA.out 4
 have ca5 : (W1.setCell ⟨w.heap.size, 4, none⟩ (.int .i64 (bits .and .i64 (s 4) r))).cell? ⟨w.heap.size, 5, none⟩ = some (.int .i64 (s 5)) := CA.out 5
 have CZA := hid (cells_far CZ.out (B := w.heap.size) (i := 4) (by omega) (.int .i64 (bits .and .i64 (s 4) r)))
 have BA := hid (bset B1.out (b := w.heap.size) (o := 4) (Nat.le_refl _) (.int .i64 (bits .and .i64 (s 4) r)))
 have FKA := hid (show ∀ o, (W1.setCell ⟨w.heap.size, 4, none⟩ (.int .i64 (bits .and .i64 (s 4) r))).frozen? ⟨w.heap.size, o, none⟩ = false from fun o => by rw [World.frozen?_setCell]; exact FK.out o)
 have FZA := hid (show ∀ o, (W1.setCell ⟨w.heap.size, 4, none⟩ (.int .i64 (bits .and .i64 (s 4) r))).frozen? ⟨w.heap.size + 1, o, none⟩ = false from fun o => by rw [World.frozen?_setCell]; exact FZ.out o)
 have HK4 := hid (show ∀ k, lsK s r g k = if k = 4 then bits .and .i64 (s 4) r else if k = 5 then (if g = 0 then s 5 else g) else s k from fun _ => rfl)
 clear h1 hr hw cz
 go_upto_region 6 with fail
 generalize bits .and .i64 (s 4) r = a4 at *
 generalize World.setCell _ _ _ = W2 at *
 clear k0 k4 k5 fk fz
 have cz := CZA.out
 have fz := FZA.out
 have fk := FKA.out
 by_cases h0 : g = 0
 ·subst h0
  have HE := hid (show lsE s r 0 = 0 by rw [HE0.out]; rfl)
  have HR := hid (show kv (lsR s r 0) = #[.int .i64 (s 0), .int .i64 (s 1), .int .i64 (s 2), .int .i64 (s 3), .int .i64 a4, .int .i64 (s 5)] by unfold lsR kv; rw [if_pos HE.out]; simp [HK4.out])
  go_wp2_with fail
  have q := six_set (B := w.heap.size + 1) (v0 := .int .i64 (s 0)) (v1 := .int .i64 (s 1)) (v2 := .int .i64 (s 2)) (v3 := .int .i64 (s 3)) (v4 := .int .i64 a4) (v5 := .int .i64 (s 5)) cz
  exact bodyPost_ret (v := .tuple #[.agg #[.int .i64 (s 0), .int .i64 (s 1), .int .i64 (s 2), .int .i64 (s 3), .int .i64 a4, .int .i64 (s 5)], .nilIface]) (by simp [results, Tryz.results31, go_sem, q 0, q 1, q 2, q 3, q 4, q 5]) rfl ⟨by show _ = Ending.returned (Value.tuple #[.agg (kv (lsR s r 0)), eV (lsE s r 0)]); rw [HR.out, HE.out]; rfl, bset6s BA.out⟩
 have h0b : (g == 0) = false := by simpa using h0
 by_cases h4 : (s 0 ≠ 7 ∧ s 0 ≠ 8) ∨ s 5 ≠ 0
 ·have HE := hid (show lsE s r g = 4 by rw [HE0.out, if_neg h0, if_pos h4])
  have C4 := hid h4
  clear h0 h4
  by_cases h7 : s 0 = 7
  ·have h7b : (s 0 != 7) = false := by simpa using h7
   have h5b : (s 5 != 0) = true := by
    rcases C4.out with h | h
    ·exact absurd h7 h.1
    ·simpa using h
   clear h7
   go_wp2_with fail
   have HR := hid (show lsR s r g = nkey from if_neg (by rw [HE.out]; decide))
   have q := six_set (B := w.heap.size + 1) (v0 := .int .i64 0) (v1 := .int .i64 0) (v2 := .int .i64 0) (v3 := .int .i64 0) (v4 := .int .i64 0) (v5 := .int .i64 0) cz
   exact bodyPost_ret (v := .tuple #[.agg #[.int .i64 0, .int .i64 0, .int .i64 0, .int .i64 0, .int .i64 0, .int .i64 0], .iface 35 (.int .i64 4)]) (by simp [results, Tryz.results31, go_sem, q 0, q 1, q 2, q 3, q 4, q 5]) rfl ⟨by rw [HR.out, HE.out]; rfl, bset6s BA.out⟩
  ·have h7b : (s 0 != 7) = true := by simpa using h7
   by_cases h8 : s 0 = 8
   ·have h8b : (s 0 != 8) = false := by simpa using h8
    have h5b : (s 5 != 0) = true := by
     rcases C4.out with h | h
     ·exact absurd h8 h.2
     ·simpa using h
    clear h7 h8
    go_wp2_with fail
    have HR := hid (show lsR s r g = nkey from if_neg (by rw [HE.out]; decide))
    have q := six_set (B := w.heap.size + 1) (v0 := .int .i64 0) (v1 := .int .i64 0) (v2 := .int .i64 0) (v3 := .int .i64 0) (v4 := .int .i64 0) (v5 := .int .i64 0) cz
    exact bodyPost_ret (v := .tuple #[.agg #[.int .i64 0, .int .i64 0, .int .i64 0, .int .i64 0, .int .i64 0, .int .i64 0], .iface 35 (.int .i64 4)]) (by simp [results, Tryz.results31, go_sem, q 0, q 1, q 2, q 3, q 4, q 5]) rfl ⟨by rw [HR.out, HE.out]; rfl, bset6s BA.out⟩
   ·have h8b : (s 0 != 8) = true := by simpa using h8
    clear h7 h8
    go_wp2_with fail
    have HR := hid (show lsR s r g = nkey from if_neg (by rw [HE.out]; decide))
    have q := six_set (B := w.heap.size + 1) (v0 := .int .i64 0) (v1 := .int .i64 0) (v2 := .int .i64 0) (v3 := .int .i64 0) (v4 := .int .i64 0) (v5 := .int .i64 0) cz
    exact bodyPost_ret (v := .tuple #[.agg #[.int .i64 0, .int .i64 0, .int .i64 0, .int .i64 0, .int .i64 0, .int .i64 0], .iface 35 (.int .i64 4)]) (by simp [results, Tryz.results31, go_sem, q 0, q 1, q 2, q 3, q 4, q 5]) rfl ⟨by rw [HR.out, HE.out]; rfl, bset6s BA.out⟩
 have HE := hid (show lsE s r g = 0 by rw [HE0.out, if_neg h0, if_neg h4])
 have h5b : (s 5 != 0) = false := by
  have : s 5 = 0 := by
   apply Classical.byContradiction
   intro h
   exact h4 (.inr h)
  simpa using this
 have h78 : s 0 = 7 ∨ s 0 = 8 := by
  apply Classical.byContradiction
  intro h
  exact h4 (.inl ⟨fun e => h (.inl e), fun e => h (.inr e)⟩)
 have HR := hid (show kv (lsR s r g) = #[.int .i64 (s 0), .int .i64 (s 1), .int .i64 (s 2), .int .i64 (s 3), .int .i64 a4, .int .i64 g] by unfold lsR kv; rw [if_pos HE.out]; simp [HK4.out, h0])
 have CA5 := hid (show ∀ o, W2.cell? ⟨w.heap.size, o, none⟩ = (#[.int .i64 (s 0), .int .i64 (s 1), .int .i64 (s 2), .int .i64 (s 3), .int .i64 a4, .int .i64 (s 5)] : Array Value)[o]? from CA.out)
 have CB := hid (cells_set CA5.out 5 (by simp) (.int .i64 g))
 have cb0 : (W2.setCell ⟨w.heap.size, 5, none⟩ (.int .i64 g)).cell? ⟨w.heap.size, 0, none⟩ = some (.int .i64 (s 0)) := CB.out 0
 have cb1 : (W2.setCell ⟨w.heap.size, 5, none⟩ (.int .i64 g)).cell? ⟨w.heap.size, 1, none⟩ = some (.int .i64 (s 1)) := CB.out 1
 have cb2 : (W2.setCell ⟨w.heap.size, 5, none⟩ (.int .i64 g)).cell? ⟨w.heap.size, 2, none⟩ = some (.int .i64 (s 2)) := CB.out 2
 have cb3 : (W2.setCell ⟨w.heap.size, 5, none⟩ (.int .i64 g)).cell? ⟨w.heap.size, 3, none⟩ = some (.int .i64 (s 3)) := CB.out 3
 have cb4 : (W2.setCell ⟨w.heap.size, 5, none⟩ (.int .i64 g)).cell? ⟨w.heap.size, 4, none⟩ = some (.int .i64 a4) := CB.out 4
 have cb5 : (W2.setCell ⟨w.heap.size, 5, none⟩ (.int .i64 g)).cell? ⟨w.heap.size, 5, none⟩ = some (.int .i64 g) := CB.out 5
 have czb := cells_far CZA.out (B := w.heap.size) (i := 5) (by omega) (.int .i64 g)
 have fzb : ∀ o, (W2.setCell ⟨w.heap.size, 5, none⟩ (.int .i64 g)).frozen? ⟨w.heap.size + 1, o, none⟩ = false := fun o => by rw [World.frozen?_setCell]; exact FZA.out o
 have BB := hid (bset BA.out (b := w.heap.size) (o := 5) (Nat.le_refl _) (.int .i64 g))
 clear h0 h4 HE0
 have H78 := hid h78
 clear h78
 rcases H78.out with h7 | h8
 ·have h7b : (s 0 != 7) = false := by simpa using h7
  clear h7
  go_wp2_with fail
  have q := six_set (B := w.heap.size + 1) (v0 := .int .i64 (s 0)) (v1 := .int .i64 (s 1)) (v2 := .int .i64 (s 2)) (v3 := .int .i64 (s 3)) (v4 := .int .i64 a4) (v5 := .int .i64 g) czb
  exact bodyPost_ret (v := .tuple #[.agg #[.int .i64 (s 0), .int .i64 (s 1), .int .i64 (s 2), .int .i64 (s 3), .int .i64 a4, .int .i64 g], .nilIface]) (by simp [results, Tryz.results31, go_sem, q 0, q 1, q 2, q 3, q 4, q 5]) rfl ⟨by show _ = Ending.returned (Value.tuple #[.agg (kv (lsR s r g)), eV (lsE s r g)]); rw [HR.out, HE.out]; rfl, bset6s BB.out⟩
 ·have h8b : (s 0 != 8) = false := by simpa using h8
  have h7b : (s 0 != 7) = true := by simp [h8]
  clear h8
  go_wp2_with fail
  have q := six_set (B := w.heap.size + 1) (v0 := .int .i64 (s 0)) (v1 := .int .i64 (s 1)) (v2 := .int .i64 (s 2)) (v3 := .int .i64 (s 3)) (v4 := .int .i64 a4) (v5 := .int .i64 g) czb
  exact bodyPost_ret (v := .tuple #[.agg #[.int .i64 (s 0), .int .i64 (s 1), .int .i64 (s 2), .int .i64 (s 3), .int .i64 a4, .int .i64 g], .nilIface]) (by simp [results, Tryz.results31, go_sem, q 0, q 1, q 2, q 3, q 4, q 5]) rfl ⟨by show _ = Ending.returned (Value.tuple #[.agg (kv (lsR s r g)), eV (lsE s r g)]); rw [HR.out, HE.out]; rfl, bset6s BB.out⟩
end Go.Proofs.YtoebmjgkfkfhjaaGreatDoor.Wd
