/- The walk of keyholdtop.TopKeys. -/
import Derived.Test.YtemlobepnfpalagUnpackWalk
namespace Go.Proofs.Ytemlobepnfpalag
open Go.RowKit

theorem num_bd {k b l m r g : Int} (h : KP.chk k b l m r g = 0) : 0 ≤ KP.num k b l m r g ∧ KP.num k b l m r g < 274877906944 := by
  have := KP.chk_zero h
  unfold KP.num
  omega
theorem unp_num {k b l m r g : Int} (h : KP.chk k b l m r g = 0) :
    unpV (KP.num k b l m r g) = .tuple #[.agg #[.int .i64 k, .int .i64 b, .int .i64 l, .int .i64 m, .int .i64 r, .int .i64 g], .nilIface] := by
  have hb := KP.chk_zero h
  have hn := num_bd h
  have e1 : uK (KP.num k b l m r g) = k := by unfold uK KP.num; omega
  have e2 : uB (KP.num k b l m r g) = b := by unfold uB KP.num; omega
  have e3 : uL (KP.num k b l m r g) = l := by unfold uL KP.num; omega
  have e4 : uM (KP.num k b l m r g) = m := by unfold uM KP.num; omega
  have e5 : uR (KP.num k b l m r g) = r := by unfold uR KP.num; omega
  have e6 : uG (KP.num k b l m r g) = g := by unfold uG KP.num; omega
  unfold unpV
  rw [e1, e2, e3, e4, e5, e6, if_pos ⟨hn.2, h⟩]
theorem unpack_num (k b l m r g : Int) (w : World) (h : Hid (KP.chk k b l m r g = 0)) :
    Calls Try.prog 5 #[.int .u64 (KP.num k b l m r g)] w
      fun e w' => e = .returned (.tuple #[.agg #[.int .i64 k, .int .i64 b, .int .i64 l, .int .i64 m, .int .i64 r, .int .i64 g], .nilIface]) ∧ Below w.heap.size w w' := by
  have hn := num_bd h.out
  have hc := unpack_any (KP.num k b l m r g) w hn.1 (by omega)
  rw [unp_num h.out] at hc
  exact hc
theorem pack_known (w : World) :
    Calls Try.prog 4 #[.agg #[.int .i64 1, .int .i64 1, .int .i64 2, .int .i64 1, .int .i64 7, .int .i64 0]] w
      fun e w' => e = .returned (.tuple #[.int .u64 17751277568, .nilIface]) ∧ Below w.heap.size w w' := by
  have h := pack_ok 1 1 2 1 7 0 w (by decide)
  rw [show KP.num 1 1 2 1 7 0 = 17751277568 from by decide] at h
  exact h

set_option maxHeartbeats 1000000 in
theorem topKeys_any (k b l m r g k' b' l' m' r' g' : Int) (w : World) :
    Calls Try.prog 3 #[.agg #[.int .i64 k, .int .i64 b, .int .i64 l, .int .i64 m, .int .i64 r, .int .i64 g], .agg #[.int .i64 k', .int .i64 b', .int .i64 l', .int .i64 m', .int .i64 r', .int .i64 g']] w
      fun e w' => e = .returned (.bool true) ∧ Below w.heap.size w w' := by
  by_cases hk : KP.chk k b l m r g = 0
  · by_cases hk' : KP.chk k' b' l' m' r' g' = 0
    · have HK := Hid.mk_ hk
      have HK' := Hid.mk_ hk'
      have HI := Hid.mk_ (@KP.num_inj k b l m r g k' b' l' m' r' g' hk hk')
      clear hk hk'
      go_enter Try.func3, Try.ntmps3
      go_wp2_with fail
      refine (pack_ok _ _ _ _ _ _ _ HK.out).mono ?_
      rintro e w1 ⟨rfl, hb1⟩
      obtain ⟨hc1, _⟩ := bcell hb1
      go_wp2_with fail
      refine (pack_ok _ _ _ _ _ _ _ HK'.out).mono ?_
      rintro e w2 ⟨rfl, hb2⟩
      obtain ⟨hc2, _⟩ := bcell hb2
      have z1 : w.heap.size + 1 < w1.heap.size := by have := hb1.size; simp at this; omega
      have z10 : w.heap.size < w1.heap.size := by omega
      go_wp2_with fail
      refine (pack_known _).mono ?_
      rintro e w3 ⟨rfl, hb3⟩
      obtain ⟨hc3, _⟩ := bcell hb3
      have z2 : w.heap.size + 1 < w2.heap.size := by have := hb2.size; omega
      have z20 : w.heap.size < w2.heap.size := by omega
      have z3 : w.heap.size + 1 < w3.heap.size := by have := hb3.size; omega
      have z30 : w.heap.size < w3.heap.size := by omega
      have B3 : Hid (Below w.heap.size w w3) := (((((Below.refl _ _).alloc (Nat.le_refl _) _).alloc (by simp) _).trans (hb1.mono (by simp; omega))).trans (hb2.mono (by omega))).trans (hb3.mono (by omega))
      clear hb1 hb2 hb3
      go_wp2_with fail
      refine (unpack_num _ _ _ _ _ _ _ HK).mono ?_
      rintro e w4 ⟨rfl, hb4⟩
      obtain ⟨hc4, _⟩ := bcell hb4
      have z4 : w.heap.size + 1 < w4.heap.size := by have := hb4.size; omega
      have z40 : w.heap.size < w4.heap.size := by omega
      have B4 : Hid (Below w.heap.size w w4) := B3.out.trans (hb4.mono (by omega))
      clear hb4
      by_cases heq : k = k' ∧ b = b' ∧ l = l' ∧ m = m' ∧ r = r' ∧ g = g'
      · obtain ⟨rfl, rfl, rfl, rfl, rfl, rfl⟩ := heq
        go_wp2_with fail
        go_ret
        exact ⟨rfl, B4.out.alloc (by omega) _⟩
      · have hne : (KP.num k b l m r g == KP.num k' b' l' m' r' g') = false := beq_eq_false_iff_ne.2 (fun e => heq (HI.out e))
        have HE := Hid.mk_ heq
        clear heq
        go_wp2_with fail
        all_goals first | exact absurd ⟨‹k = k'›, ‹b = b'›, ‹l = l'›, ‹m = m'›, ‹r = r'›, ‹g = g'›⟩ HE.out | (go_ret; exact ⟨rfl, B4.out.alloc (by omega) _⟩)
    · have HK := Hid.mk_ hk
      have HK' := Hid.mk_ hk'
      clear hk hk'
      go_enter Try.func3, Try.ntmps3
      go_wp2_with fail
      refine (pack_ok _ _ _ _ _ _ _ HK.out).mono ?_
      rintro e w1 ⟨rfl, hb1⟩
      obtain ⟨hc1, _⟩ := bcell hb1
      go_wp2_with fail
      refine (pack_err _ _ _ _ _ _ _ HK'.out).mono ?_
      rintro e w2 ⟨rfl, hb2⟩
      go_wp2_with fail
      refine (pack_known _).mono ?_
      rintro e w3 ⟨rfl, hb3⟩
      go_wp2_with fail
      go_ret
      exact ⟨rfl, ((((((Below.refl _ _).alloc (Nat.le_refl _) _).alloc (by simp) _).trans (hb1.mono (by simp; omega))).trans (hb2.mono (by have := hb1.size; simp at this; omega))).trans (hb3.mono (by have := hb1.size; have := hb2.size; simp at *; omega)))⟩
  · have HK := Hid.mk_ hk
    clear hk
    by_cases hk' : KP.chk k' b' l' m' r' g' = 0
    · have HK' := Hid.mk_ hk'
      clear hk'
      go_enter Try.func3, Try.ntmps3
      go_wp2_with fail
      refine (pack_err _ _ _ _ _ _ _ HK.out).mono ?_
      rintro e w1 ⟨rfl, hb1⟩
      obtain ⟨hc1, _⟩ := bcell hb1
      go_wp2_with fail
      refine (pack_ok _ _ _ _ _ _ _ HK'.out).mono ?_
      rintro e w2 ⟨rfl, hb2⟩
      go_wp2_with fail
      refine (pack_known _).mono ?_
      rintro e w3 ⟨rfl, hb3⟩
      go_wp2_with fail
      go_ret
      exact ⟨rfl, ((((((Below.refl _ _).alloc (Nat.le_refl _) _).alloc (by simp) _).trans (hb1.mono (by simp; omega))).trans (hb2.mono (by have := hb1.size; simp at this; omega))).trans (hb3.mono (by have := hb1.size; have := hb2.size; simp at *; omega)))⟩
    · have HK' := Hid.mk_ hk'
      clear hk'
      go_enter Try.func3, Try.ntmps3
      go_wp2_with fail
      refine (pack_err _ _ _ _ _ _ _ HK.out).mono ?_
      rintro e w1 ⟨rfl, hb1⟩
      obtain ⟨hc1, _⟩ := bcell hb1
      go_wp2_with fail
      refine (pack_err _ _ _ _ _ _ _ HK'.out).mono ?_
      rintro e w2 ⟨rfl, hb2⟩
      go_wp2_with fail
      refine (pack_known _).mono ?_
      rintro e w3 ⟨rfl, hb3⟩
      go_wp2_with fail
      go_ret
      exact ⟨rfl, ((((((Below.refl _ _).alloc (Nat.le_refl _) _).alloc (by simp) _).trans (hb1.mono (by simp; omega))).trans (hb2.mono (by have := hb1.size; simp at this; omega))).trans (hb3.mono (by have := hb1.size; have := hb2.size; simp at *; omega)))⟩
end Go.Proofs.Ytemlobepnfpalag
