/- One slot of a world of one's own, written. · Is something in a slot, can a slot have something: plain.Full, tree.free, tree.between; keyholdref.has, open, both; walked. (Written by mk_tc.py.) · A key made from another one: tree.lesser, walked. (Written by mk_ls.py.) -/
import Derived.Test.YtoebmjgkfkfhjaaGreatDoorDdDid
import Derived.Test.YtoebmjgkfkfhjaaGreatDoorGSlMore
namespace Go.Proofs.YtoebmjgkfkfhjaaGreatDoor.Wd
open Go.RowKit Go.Proofs.YtoebmjgkfkfhjaaGreatDoor.Mem Go.Proofs.YtoebmjgkfkfhjaaGreatDoor.Bw Go.Proofs.YtoebmjgkfkfhjaaGreatDoor.Nums Go.Proofs.YtoebmjgkfkfhjaaGreatDoor.Mmu
def hasE (p : PW) (n : Int) : Int := if slotB p n then (if (p.slots.getD n.toNat nkey) 0 = 0 then 6 else 0) else 2
set_option maxRecDepth 100000 in
set_option maxHeartbeats 600000 in
theorem full_any (vb : Nat) (V : Nat → Value) (p : PW) (n : Int) (w : World) (hv : ViewAt w vb V p) :
  Calls Tryz.prog 52 #[.pointer (some ⟨vb, 0, none⟩), .int .i64 n] w fun r w' => r = .returned (eV (hasE p n)) ∧ w = w' := by
 have c2 : w.cell? ⟨vb, 2, none⟩ = some (V 2) := range_cell hv.r rfl
 have c1 : w.cell? ⟨vb, 1, none⟩ = some (V 1) := range_cell hv.r rfl
 obtain ⟨q2, b2, off2, cap2, e2, hq2, hz2⟩ := hv.v.slots
 obtain ⟨q1, b1, off1, cap1, e1, hq1, hz1⟩ := hv.v.kinds
 have hl2 : (p.slots.length : Int) ≤ 1000 := by have := hv.f.slots; omega
 have hl1 : (p.kinds.length : Int) ≤ 1000 := by have := hv.f.kinds; omega
 have HV := hid hv
 cases hs : slotB p n with
 | false =>
  have HN := hid (show hasE p n = 2 by unfold hasE; rw [hs]; rfl)
  have HSB := hid hs
  clear hs hz2 hq2 hz1 hq1 hv
  go_enter Tryz.func52, Tryz.ntmps52
  go_wp2_with fail
  refine (pisSlot_any vb V p _ w HV.out).mono ?_
  rintro r w1 ⟨rfl, rfl⟩
  rw [HSB.out]
  go_wp2_with fail
  go_ret
  exact ⟨by rw [HN.out]; rfl, rfl⟩
 | true =>
  obtain ⟨j, rfl, hj⟩ := slotB_in hs
  have HSB := hid hs
  have hj2 : (j : Int) < (p.slots.length : Int) := by omega
  obtain rfl := hq2 (by omega)
  have x0 := range_at0 (hz2 j hj) (cf_at 7 _ 0 (by omega))
  have HA := hid (show hasE p j = if p.slots[j] 0 = 0 then 6 else 0 by unfold hasE; rw [hs, if_pos rfl, Int.toNat_natCast, List.getD_eq_getElem?_getD, List.getElem?_eq_getElem hj]; rfl)
  generalize p.slots[j] 0 = y at x0 HA
  clear hs hz2 hq2 hz1 hq1 hv
  by_cases h0 : y = 0
  ·subst h0
   have HN := hid (show hasE p j = 6 by rw [HA.out]; rfl)
   go_enter Tryz.func52, Tryz.ntmps52
   go_wp2_with fail
   refine (pisSlot_any vb V p _ w HV.out).mono ?_
   rintro r w1 ⟨rfl, rfl⟩
   rw [HSB.out]
   go_wp2_with fail
   go_ret
   exact ⟨by rw [HN.out]; rfl, rfl⟩
  ·have HN := hid (show hasE p j = 0 by rw [HA.out, if_neg h0])
   have h0b : (y == 0) = false := by simpa using h0
   clear h0
   go_enter Tryz.func52, Tryz.ntmps52
   go_wp2_with fail
   refine (pisSlot_any vb V p _ w HV.out).mono ?_
   rintro r w1 ⟨rfl, rfl⟩
   rw [HSB.out]
   go_wp2_with fail
   go_ret
   exact ⟨by rw [HN.out]; rfl, rfl⟩
set_option maxRecDepth 100000 in
set_option maxHeartbeats 600000 in
theorem has_ref (vb : Nat) (V : Nat → Value) (p : PW) (n : Int) (w : World) (hv : ViewAt w vb V p) :
  Calls Tryz.prog 45 #[.pointer (some ⟨vb, 0, none⟩), .int .i64 n] w fun r w' => r = .returned (.int .i64 (hasE p n)) ∧ w = w' := by
 have c2 : w.cell? ⟨vb, 2, none⟩ = some (V 2) := range_cell hv.r rfl
 have c1 : w.cell? ⟨vb, 1, none⟩ = some (V 1) := range_cell hv.r rfl
 obtain ⟨q2, b2, off2, cap2, e2, hq2, hz2⟩ := hv.v.slots
 obtain ⟨q1, b1, off1, cap1, e1, hq1, hz1⟩ := hv.v.kinds
 have hl2 : (p.slots.length : Int) ≤ 1000 := by have := hv.f.slots; omega
 have hl1 : (p.kinds.length : Int) ≤ 1000 := by have := hv.f.kinds; omega
 cases hs : slotB p n with
 | false =>
  have HN := hid (show hasE p n = 2 by unfold hasE; rw [hs]; rfl)
  have HSB := hid hs
  have hn := of_decide_eq_false hs
  clear hs HSB hz2 hq2 hz1 hq1 hv
  by_cases h0 : n < 0
  ·clear hn
   go_enter Tryz.func45, Tryz.ntmps45
   go_wp2_with fail
   go_ret
   exact ⟨by rw [HN.out]; rfl, rfl⟩
  ·have h1 : (p.slots.length : Int) ≤ n := by omega
   clear hn
   go_enter Tryz.func45, Tryz.ntmps45
   go_wp2_with fail
   go_ret
   exact ⟨by rw [HN.out]; rfl, rfl⟩
 | true =>
  obtain ⟨j, rfl, hj⟩ := slotB_in hs
  have HSB := hid hs
  have hj2 : (j : Int) < (p.slots.length : Int) := by omega
  obtain rfl := hq2 (by omega)
  have x0 := range_at0 (hz2 j hj) (cf_at 7 _ 0 (by omega))
  have HA := hid (show hasE p j = if p.slots[j] 0 = 0 then 6 else 0 by unfold hasE; rw [hs, if_pos rfl, Int.toNat_natCast, List.getD_eq_getElem?_getD, List.getElem?_eq_getElem hj]; rfl)
  generalize p.slots[j] 0 = y at x0 HA
  clear hs hz2 hq2 hz1 hq1 hv
  have n0 : ¬ ((j : Int) < 0) := by omega
  have n1 : ¬ ((p.slots.length : Int) ≤ (j : Int)) := by omega
  by_cases h0 : y = 0
  ·subst h0
   have HN := hid (show hasE p j = 6 by rw [HA.out]; rfl)
   go_enter Tryz.func45, Tryz.ntmps45
   go_wp2_with fail
   go_ret
   exact ⟨by rw [HN.out]; rfl, rfl⟩
  ·have HN := hid (show hasE p j = 0 by rw [HA.out, if_neg h0])
   have h0b : (y == 0) = false := by simpa using h0
   clear h0
   go_enter Tryz.func45, Tryz.ntmps45
   go_wp2_with fail
   go_ret
   exact ⟨by rw [HN.out]; rfl, rfl⟩
end Go.Proofs.YtoebmjgkfkfhjaaGreatDoor.Wd
