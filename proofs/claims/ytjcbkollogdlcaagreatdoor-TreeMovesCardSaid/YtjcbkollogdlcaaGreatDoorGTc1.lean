/- One slot of a world of one's own, written. · Is something in a slot, can a slot have something: plain.Full, tree.free, tree.between; keyholdref.has, open, both; walked. (Written by mk_tc.py.) · A key made from another one: tree.lesser, walked. (Written by mk_ls.py.) -/
import Derived.Test.YtjcbkollogdlcaaGreatDoorDdDid
namespace Go.Proofs.YtjcbkollogdlcaaGreatDoor.Wd
open Go.RowKit Go.Proofs.YtjcbkollogdlcaaGreatDoor.Mem Go.Proofs.YtjcbkollogdlcaaGreatDoor.Bw Go.Proofs.YtjcbkollogdlcaaGreatDoor.Nums Go.Proofs.YtjcbkollogdlcaaGreatDoor.Mmu

def hasE (p : PW) (n : Int) : Int := if slotB p n then (if (p.slots.getD n.toNat nkey) 0 = 0 then 6 else 0) else 2
def opE (p : PW) (n : Int) : Int := if slotB p n then (if p.kinds.getD (n.toNat / 16) 0 = 5 then (if (p.slots.getD n.toNat nkey) 0 = 0 then 0 else 12) else 3) else 2
def boE (p : PW) (a b : Int) : Int := if hasE p a = 0 then opE p b else hasE p a
set_option maxRecDepth 100000 in
set_option maxHeartbeats 600000 in
theorem full_any (vb : Nat) (V : Nat → Value) (p : PW) (n : Int) (w : World) (hv : ViewAt w vb V p) :
    Calls Tryz.prog 99 #[.pointer (some ⟨vb, 0, none⟩), .int .i64 n] w fun r w' => r = .returned (eV (hasE p n)) ∧ w = w' := by
  have c2 : w.cell? ⟨vb, 2, none⟩ = some (V 2) := range_cell hv.r rfl
  have c1 : w.cell? ⟨vb, 1, none⟩ = some (V 1) := range_cell hv.r rfl
  obtain ⟨q2, b2, off2, cap2, e2, hq2, hz2⟩ := hv.v.slots
  obtain ⟨q1, b1, off1, cap1, e1, hq1, hz1⟩ := hv.v.kinds
  have hl2 : (p.slots.length : Int) ≤ 1000 := by have := hv.f.slots; omega
  have hl1 : (p.kinds.length : Int) ≤ 1000 := by have := hv.f.kinds; omega
  have HV := hid hv
  cases hs : slotB p n with
  | false =>
    have HN := hid (show hasE p n = 2 by unfold hasE; rw [hs]; rfl)
    have HSB := hid hs
    clear hs hz2 hq2 hz1 hq1 hv
    go_enter Tryz.func99, Tryz.ntmps99
    go_wp2_with fail
    refine (pisSlot_any vb V p _ w HV.out).mono ?_
    rintro r w1 ⟨rfl, rfl⟩
    rw [HSB.out]
    go_wp2_with fail
    go_ret
    exact ⟨by rw [HN.out]; rfl, rfl⟩
  | true =>
    obtain ⟨j, rfl, hj⟩ := slotB_in hs
    have HSB := hid hs
    have hj2 : (j : Int) < (p.slots.length : Int) := by omega
    obtain rfl := hq2 (by omega)
    have x0 := range_at0 (hz2 j hj) (cf_at 7 _ 0 (by omega))
    have HA := hid (show hasE p j = if p.slots[j] 0 = 0 then 6 else 0 by unfold hasE; rw [hs, if_pos rfl, Int.toNat_natCast, List.getD_eq_getElem?_getD, List.getElem?_eq_getElem hj]; rfl)
    generalize p.slots[j] 0 = y at x0 HA
    clear hs hz2 hq2 hz1 hq1 hv
    by_cases h0 : y = 0
    · subst h0
      have HN := hid (show hasE p j = 6 by rw [HA.out]; rfl)
      go_enter Tryz.func99, Tryz.ntmps99
      go_wp2_with fail
      refine (pisSlot_any vb V p _ w HV.out).mono ?_
      rintro r w1 ⟨rfl, rfl⟩
      rw [HSB.out]
      go_wp2_with fail
      go_ret
      exact ⟨by rw [HN.out]; rfl, rfl⟩
    · have HN := hid (show hasE p j = 0 by rw [HA.out, if_neg h0])
      have h0b : (y == 0) = false := by simpa using h0
      clear h0
      go_enter Tryz.func99, Tryz.ntmps99
      go_wp2_with fail
      refine (pisSlot_any vb V p _ w HV.out).mono ?_
      rintro r w1 ⟨rfl, rfl⟩
      rw [HSB.out]
      go_wp2_with fail
      go_ret
      exact ⟨by rw [HN.out]; rfl, rfl⟩
set_option maxRecDepth 100000 in
set_option maxHeartbeats 600000 in
theorem has_ref (vb : Nat) (V : Nat → Value) (p : PW) (n : Int) (w : World) (hv : ViewAt w vb V p) :
    Calls Tryz.prog 63 #[.pointer (some ⟨vb, 0, none⟩), .int .i64 n] w fun r w' => r = .returned (.int .i64 (hasE p n)) ∧ w = w' := by
  have c2 : w.cell? ⟨vb, 2, none⟩ = some (V 2) := range_cell hv.r rfl
  have c1 : w.cell? ⟨vb, 1, none⟩ = some (V 1) := range_cell hv.r rfl
  obtain ⟨q2, b2, off2, cap2, e2, hq2, hz2⟩ := hv.v.slots
  obtain ⟨q1, b1, off1, cap1, e1, hq1, hz1⟩ := hv.v.kinds
  have hl2 : (p.slots.length : Int) ≤ 1000 := by have := hv.f.slots; omega
  have hl1 : (p.kinds.length : Int) ≤ 1000 := by have := hv.f.kinds; omega
  cases hs : slotB p n with
  | false =>
    have HN := hid (show hasE p n = 2 by unfold hasE; rw [hs]; rfl)
    have HSB := hid hs
    have hn := of_decide_eq_false hs
    clear hs HSB hz2 hq2 hz1 hq1 hv
    by_cases h0 : n < 0
    · clear hn
      go_enter Tryz.func63, Tryz.ntmps63
      go_wp2_with fail
      go_ret
      exact ⟨by rw [HN.out]; rfl, rfl⟩
    · have h1 : (p.slots.length : Int) ≤ n := by omega
      clear hn
      go_enter Tryz.func63, Tryz.ntmps63
      go_wp2_with fail
      go_ret
      exact ⟨by rw [HN.out]; rfl, rfl⟩
  | true =>
    obtain ⟨j, rfl, hj⟩ := slotB_in hs
    have HSB := hid hs
    have hj2 : (j : Int) < (p.slots.length : Int) := by omega
    obtain rfl := hq2 (by omega)
    have x0 := range_at0 (hz2 j hj) (cf_at 7 _ 0 (by omega))
    have HA := hid (show hasE p j = if p.slots[j] 0 = 0 then 6 else 0 by unfold hasE; rw [hs, if_pos rfl, Int.toNat_natCast, List.getD_eq_getElem?_getD, List.getElem?_eq_getElem hj]; rfl)
    generalize p.slots[j] 0 = y at x0 HA
    clear hs hz2 hq2 hz1 hq1 hv
    have n0 : ¬ ((j : Int) < 0) := by omega
    have n1 : ¬ ((p.slots.length : Int) ≤ (j : Int)) := by omega
    by_cases h0 : y = 0
    · subst h0
      have HN := hid (show hasE p j = 6 by rw [HA.out]; rfl)
      go_enter Tryz.func63, Tryz.ntmps63
      go_wp2_with fail
      go_ret
      exact ⟨by rw [HN.out]; rfl, rfl⟩
    · have HN := hid (show hasE p j = 0 by rw [HA.out, if_neg h0])
      have h0b : (y == 0) = false := by simpa using h0
      clear h0
      go_enter Tryz.func63, Tryz.ntmps63
      go_wp2_with fail
      go_ret
      exact ⟨by rw [HN.out]; rfl, rfl⟩
set_option maxRecDepth 100000 in
set_option maxHeartbeats 600000 in
theorem free_any (vb : Nat) (V : Nat → Value) (p : PW) (n : Int) (w : World) (hv : ViewAt w vb V p) (hk : p.slots.length = p.kinds.length * 16) :
    Calls Tryz.prog 100 #[.pointer (some ⟨vb, 0, none⟩), .int .i64 n] w fun r w' => r = .returned (eV (opE p n)) ∧ w = w' := by
  have c2 : w.cell? ⟨vb, 2, none⟩ = some (V 2) := range_cell hv.r rfl
  have c1 : w.cell? ⟨vb, 1, none⟩ = some (V 1) := range_cell hv.r rfl
  obtain ⟨q2, b2, off2, cap2, e2, hq2, hz2⟩ := hv.v.slots
  obtain ⟨q1, b1, off1, cap1, e1, hq1, hz1⟩ := hv.v.kinds
  have hl2 : (p.slots.length : Int) ≤ 1000 := by have := hv.f.slots; omega
  have hl1 : (p.kinds.length : Int) ≤ 1000 := by have := hv.f.kinds; omega
  have HV := hid hv
  cases hs : slotB p n with
  | false =>
    have HN := hid (show opE p n = 2 by unfold opE; rw [hs]; rfl)
    have HSB := hid hs
    clear hs hz2 hq2 hz1 hq1 hv hk
    go_enter Tryz.func100, Tryz.ntmps100
    go_wp2_with fail
    refine (pisSlot_any vb V p _ w HV.out).mono ?_
    rintro r w1 ⟨rfl, rfl⟩
    rw [HSB.out]
    go_wp2_with fail
    go_ret
    exact ⟨by rw [HN.out]; rfl, rfl⟩
  | true =>
    obtain ⟨j, rfl, hj⟩ := slotB_in hs
    have HSB := hid hs
    have hj2 : (j : Int) < (p.slots.length : Int) := by omega
    obtain rfl := hq2 (by omega)
    have x0 := range_at0 (hz2 j hj) (cf_at 7 _ 0 (by omega))
    have hk2 : j / 16 < p.kinds.length := by omega
    have hk3 : ((j : Int) / 16) = ((j / 16 : Nat) : Int) := by omega
    have hk4 : ((j / 16 : Nat) : Int) < (p.kinds.length : Int) := by omega
    obtain rfl := hq1 (by omega)
    have z0 := hz1 (j / 16) hk2
    have HA := hid (show opE p j = if p.kinds[j / 16] = 5 then (if p.slots[j] 0 = 0 then 0 else 12) else 3 by unfold opE; rw [hs, if_pos rfl, Int.toNat_natCast, getD_at hk2, List.getD_eq_getElem?_getD, List.getElem?_eq_getElem hj]; rfl)
    generalize p.slots[j] 0 = y at x0 HA
    generalize p.kinds[j / 16] = kd at z0 HA
    generalize j / 16 = i at *
    clear hs hz2 hq2 hz1 hq1 hv hk hk2
    by_cases h5 : kd = 5
    rotate_left
    · have HN := hid (show opE p j = 3 by rw [HA.out, if_neg h5])
      have h5b : (kd != 5) = true := by simpa using h5
      clear h5
      go_enter Tryz.func100, Tryz.ntmps100
      go_wp2_with fail
      refine (pisSlot_any vb V p _ w HV.out).mono ?_
      rintro r w1 ⟨rfl, rfl⟩
      rw [HSB.out]
      go_wp2_with fail
      go_ret
      exact ⟨by rw [HN.out]; rfl, rfl⟩
    subst h5
    by_cases h0 : y = 0
    · subst h0
      have HN := hid (show opE p j = 0 by rw [HA.out]; rfl)
      go_enter Tryz.func100, Tryz.ntmps100
      go_wp2_with fail
      refine (pisSlot_any vb V p _ w HV.out).mono ?_
      rintro r w1 ⟨rfl, rfl⟩
      rw [HSB.out]
      go_wp2_with fail
      go_ret
      exact ⟨by rw [HN.out]; rfl, rfl⟩
    · have HN := hid (show opE p j = 12 by rw [HA.out, if_pos rfl, if_neg h0])
      have h0b : (y != 0) = true := by simpa using h0
      clear h0
      go_enter Tryz.func100, Tryz.ntmps100
      go_wp2_with fail
      refine (pisSlot_any vb V p _ w HV.out).mono ?_
      rintro r w1 ⟨rfl, rfl⟩
      rw [HSB.out]
      go_wp2_with fail
      go_ret
      exact ⟨by rw [HN.out]; rfl, rfl⟩
set_option maxRecDepth 100000 in
set_option maxHeartbeats 600000 in
theorem open_ref (vb : Nat) (V : Nat → Value) (p : PW) (n : Int) (w : World) (hv : ViewAt w vb V p) (hk : p.slots.length = p.kinds.length * 16) :
    Calls Tryz.prog 106 #[.pointer (some ⟨vb, 0, none⟩), .int .i64 n] w fun r w' => r = .returned (.int .i64 (opE p n)) ∧ w = w' := by
  have c2 : w.cell? ⟨vb, 2, none⟩ = some (V 2) := range_cell hv.r rfl
  have c1 : w.cell? ⟨vb, 1, none⟩ = some (V 1) := range_cell hv.r rfl
  obtain ⟨q2, b2, off2, cap2, e2, hq2, hz2⟩ := hv.v.slots
  obtain ⟨q1, b1, off1, cap1, e1, hq1, hz1⟩ := hv.v.kinds
  have hl2 : (p.slots.length : Int) ≤ 1000 := by have := hv.f.slots; omega
  have hl1 : (p.kinds.length : Int) ≤ 1000 := by have := hv.f.kinds; omega
  cases hs : slotB p n with
  | false =>
    have HN := hid (show opE p n = 2 by unfold opE; rw [hs]; rfl)
    have HSB := hid hs
    have hn := of_decide_eq_false hs
    clear hs HSB hz2 hq2 hz1 hq1 hv hk
    by_cases h0 : n < 0
    · clear hn
      go_enter Tryz.func106, Tryz.ntmps106
      go_wp2_with fail
      go_ret
      exact ⟨by rw [HN.out]; rfl, rfl⟩
    · have h1 : (p.slots.length : Int) ≤ n := by omega
      clear hn
      go_enter Tryz.func106, Tryz.ntmps106
      go_wp2_with fail
      go_ret
      exact ⟨by rw [HN.out]; rfl, rfl⟩
  | true =>
    obtain ⟨j, rfl, hj⟩ := slotB_in hs
    have HSB := hid hs
    have hj2 : (j : Int) < (p.slots.length : Int) := by omega
    obtain rfl := hq2 (by omega)
    have x0 := range_at0 (hz2 j hj) (cf_at 7 _ 0 (by omega))
    have hk2 : j / 16 < p.kinds.length := by omega
    have hk3 : ((j : Int) / 16) = ((j / 16 : Nat) : Int) := by omega
    have hk4 : ((j / 16 : Nat) : Int) < (p.kinds.length : Int) := by omega
    obtain rfl := hq1 (by omega)
    have z0 := hz1 (j / 16) hk2
    have HA := hid (show opE p j = if p.kinds[j / 16] = 5 then (if p.slots[j] 0 = 0 then 0 else 12) else 3 by unfold opE; rw [hs, if_pos rfl, Int.toNat_natCast, getD_at hk2, List.getD_eq_getElem?_getD, List.getElem?_eq_getElem hj]; rfl)
    generalize p.slots[j] 0 = y at x0 HA
    generalize p.kinds[j / 16] = kd at z0 HA
    generalize j / 16 = i at *
    clear hs hz2 hq2 hz1 hq1 hv hk hk2
    have n0 : ¬ ((j : Int) < 0) := by omega
    have n1 : ¬ ((p.slots.length : Int) ≤ (j : Int)) := by omega
    by_cases h5 : kd = 5
    rotate_left
    · have HN := hid (show opE p j = 3 by rw [HA.out, if_neg h5])
      have h5b : (kd != 5) = true := by simpa using h5
      clear h5
      go_enter Tryz.func106, Tryz.ntmps106
      go_wp2_with fail
      go_ret
      exact ⟨by rw [HN.out]; rfl, rfl⟩
    subst h5
    by_cases h0 : y = 0
    · subst h0
      have HN := hid (show opE p j = 0 by rw [HA.out]; rfl)
      go_enter Tryz.func106, Tryz.ntmps106
      go_wp2_with fail
      go_ret
      exact ⟨by rw [HN.out]; rfl, rfl⟩
    · have HN := hid (show opE p j = 12 by rw [HA.out, if_pos rfl, if_neg h0])
      have h0b : (y != 0) = true := by simpa using h0
      clear h0
      go_enter Tryz.func106, Tryz.ntmps106
      go_wp2_with fail
      go_ret
      exact ⟨by rw [HN.out]; rfl, rfl⟩
set_option maxRecDepth 100000 in
theorem between_any (vb : Nat) (V : Nat → Value) (p : PW) (a b : Int) (w : World) (hv : ViewAt w vb V p) (hk : p.slots.length = p.kinds.length * 16) :
    Calls Tryz.prog 47 #[.pointer (some ⟨vb, 0, none⟩), .int .i64 a, .int .i64 b] w fun r w' => r = .returned (eV (boE p a b)) ∧ w = w' := by
  have H1 := hid (full_any vb V p a w hv)
  have H2 := hid (free_any vb V p b w hv hk)
  clear hv hk
  by_cases h : hasE p a = 0
  · have HN := hid (show boE p a b = opE p b from if_pos h)
    rw [h, eV_0] at H1
    have HV := hid (show eV (boE p a b) = eV (opE p b) by rw [HN.out])
    generalize eV (opE p b) = ve at H2 HV
    clear h
    go_enter Tryz.func47, Tryz.ntmps47
    go_wp2_with fail
    refine H1.out.mono ?_
    rintro r w1 ⟨rfl, rfl⟩
    go_wp2_with fail
    refine H2.out.mono ?_
    rintro r w1 ⟨rfl, rfl⟩
    go_wp2_with fail
    go_ret
    exact ⟨by rw [HV.out]; rfl, rfl⟩
  · have HN := hid (show boE p a b = hasE p a from if_neg h)
    rw [eV_n h] at H1
    have HV := hid (show eV (boE p a b) = .iface 35 (.int .i64 (hasE p a)) by rw [HN.out, eV_n h])
    generalize hasE p a = x at H1 HV
    clear h H2
    go_enter Tryz.func47, Tryz.ntmps47
    go_wp2_with fail
    refine H1.out.mono ?_
    rintro r w1 ⟨rfl, rfl⟩
    go_wp2_with fail
    go_ret
    exact ⟨by rw [HV.out]; rfl, rfl⟩
set_option maxRecDepth 100000 in
theorem both_ref (vb : Nat) (V : Nat → Value) (p : PW) (a b : Int) (w : World) (hv : ViewAt w vb V p) (hk : p.slots.length = p.kinds.length * 16) :
    Calls Tryz.prog 54 #[.pointer (some ⟨vb, 0, none⟩), .int .i64 a, .int .i64 b] w fun r w' => r = .returned (.int .i64 (boE p a b)) ∧ w = w' := by
  have H1 := hid (has_ref vb V p a w hv)
  have H2 := hid (open_ref vb V p b w hv hk)
  clear hv hk
  by_cases h : hasE p a = 0
  · have HN := hid (show boE p a b = opE p b from if_pos h)
    rw [h] at H1
    generalize opE p b = x at H2 HN
    clear h
    go_enter Tryz.func54, Tryz.ntmps54
    go_wp2_with fail
    refine H1.out.mono ?_
    rintro r w1 ⟨rfl, rfl⟩
    go_wp2_with fail
    refine H2.out.mono ?_
    rintro r w1 ⟨rfl, rfl⟩
    go_wp2_with fail
    go_ret
    exact ⟨by rw [HN.out]; rfl, rfl⟩
  · have HN := hid (show boE p a b = hasE p a from if_neg h)
    have hb : (hasE p a == 0) = false := by simpa using h
    generalize hasE p a = x at H1 HN hb
    clear h H2
    go_enter Tryz.func54, Tryz.ntmps54
    go_wp2_with fail
    refine H1.out.mono ?_
    rintro r w1 ⟨rfl, rfl⟩
    go_wp2_with fail
    go_ret
    exact ⟨by rw [HN.out]; rfl, rfl⟩
theorem boE_in {p : PW} {a b : Int} (h : boE p a b = 0) : ∃ i j : Nat, a = i ∧ b = j ∧ i < p.slots.length ∧ j < p.slots.length := by
  unfold boE at h
  split at h
  · rename_i h1
    unfold hasE at h1
    unfold opE at h
    cases ha : slotB p a with
    | false => rw [ha] at h1; simp at h1
    | true =>
      cases hb : slotB p b with
      | false => rw [hb] at h; simp at h
      | true =>
        obtain ⟨i, hi, hi2⟩ := slotB_in ha
        obtain ⟨j, hj, hj2⟩ := slotB_in hb
        exact ⟨i, j, hi, hj, hi2, hj2⟩
  · rename_i h1
    exact absurd h h1
end Go.Proofs.YtjcbkollogdlcaaGreatDoor.Wd
namespace Go.Proofs.YtjcbkollogdlcaaGreatDoor.Wd
open Go.RowKit Go.Proofs.YtjcbkollogdlcaaGreatDoor.Mem Go.Proofs.YtjcbkollogdlcaaGreatDoor.Bw Go.Proofs.YtjcbkollogdlcaaGreatDoor.Nums Go.Proofs.YtjcbkollogdlcaaGreatDoor.Mmu

def lsE (s : Nat → Int) (r g : Int) : Int := if s 0 = 1 then 3 else if (within 0 7 r && wB g) = false then 2 else if g = 0 then 0 else if (s 0 ≠ 7 ∧ s 0 ≠ 8) ∨ s 5 ≠ 0 then 4 else 0
def lsK (s : Nat → Int) (r g : Int) : Nat → Int := fun k => if k = 4 then bits .and .i64 (s 4) r else if k = 5 then (if g = 0 then s 5 else g) else s k
def lsR (s : Nat → Int) (r g : Int) : Nat → Int := if lsE s r g = 0 then lsK s r g else nkey
end Go.Proofs.YtjcbkollogdlcaaGreatDoor.Wd
