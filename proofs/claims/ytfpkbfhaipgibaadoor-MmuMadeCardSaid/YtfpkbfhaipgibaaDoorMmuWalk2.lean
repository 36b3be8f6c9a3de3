/- mmu.Walk and keyholdref.Walked: one answer; mmu.Entry, walked. -/
import Derived.Test.YtfpkbfhaipgibaaDoorMmuWalk
import Derived.Test.YtfpkbfhaipgibaaDoorRefIsa
namespace Go.Proofs.YtfpkbfhaipgibaaDoor.Mmu
open Go.RowKit Go.Proofs.YtfpkbfhaipgibaaDoor.Mem Go.Proofs.YtfpkbfhaipgibaaDoor.Bw Go.Proofs.YtfpkbfhaipgibaaDoor.Nums

def n16 (zs : List Int) : Int := (zs.length : Int) / 16
def e1 (zs : List Int) (s a : Int) : Int := zs.getD (s * 16 + a / 256).toNat 0
def e2 (zs : List Int) (t a : Int) : Int := zs.getD (t * 16 + a / 16 % 16).toNat 0
/-- D1: where an address leads, whether that may be written, and the error. -/
def walkR (zs : List Int) (s a : Int) : Int × Bool × Int :=
  if ¬ inb zs.length s a then (0, false, 2)
  else if ¬ isE (e1 zs s a) (n16 zs) then (0, false, 9)
  else if ¬ isE (e2 zs (e1 zs s a % 1024) a) (n16 zs) then (0, false, 9)
  else (e2 zs (e1 zs s a % 1024) a % 1024, decide (e2 zs (e1 zs s a % 1024) a / 16384 % 2 = 1), 0)
def errV (k : Int) : Value := if k = 0 then .nilIface else .iface 23 (.int .i64 k)
theorem getD_some {zs : List Int} {j : Nat} (h : j < zs.length) : zs[j]? = some (zs.getD j 0) := by
  rw [List.getElem?_eq_getElem h, List.getD_eq_getElem?_getD, List.getElem?_eq_getElem h]
  rfl
theorem walkR_range {zs : List Int} {s a : Int} (h : ¬ inb zs.length s a) : walkR zs s a = (0, false, 2) := by unfold walkR; rw [if_pos h]
theorem walkR_no1 {zs : List Int} {s a : Int} (h : inb zs.length s a) (h1 : ¬ isE (e1 zs s a) (n16 zs)) : walkR zs s a = (0, false, 9) := by unfold walkR; rw [if_neg (fun k => k h), if_pos h1]
theorem walkR_no2 {zs : List Int} {s a : Int} (h : inb zs.length s a) (h1 : isE (e1 zs s a) (n16 zs)) (h2 : ¬ isE (e2 zs (e1 zs s a % 1024) a) (n16 zs)) : walkR zs s a = (0, false, 9) := by
  unfold walkR; rw [if_neg (fun k => k h), if_neg (fun k => k h1), if_pos h2]
theorem walkR_yes {zs : List Int} {s a : Int} (h : inb zs.length s a) (h1 : isE (e1 zs s a) (n16 zs)) (h2 : isE (e2 zs (e1 zs s a % 1024) a) (n16 zs)) : walkR zs s a = (e2 zs (e1 zs s a % 1024) a % 1024, decide (e2 zs (e1 zs s a % 1024) a / 16384 % 2 = 1), 0) := by
  unfold walkR; rw [if_neg (fun k => k h), if_neg (fun k => k h1), if_neg (fun k => k h2)]
/-- The numbers that the walks reckon. -/
theorem idx1 {zs : List Int} {s a : Int} (h : inb zs.length s a) : 0 ≤ s ∧ 0 ≤ a / 256 ∧ s * 16 + a / 256 < zs.length := by
  unfold inb at h
  omega
theorem idx2 {zs : List Int} {s a : Int} (h : inb zs.length s a) (h1 : isE (e1 zs s a) (n16 zs)) : 0 ≤ e1 zs s a % 1024 ∧ 0 ≤ a / 16 % 16 ∧ e1 zs s a % 1024 * 16 + a / 16 % 16 < zs.length := by
  unfold inb at h
  unfold isE n16 at h1
  omega
set_option maxHeartbeats 1000000 in
theorem walk_any (v : Value) (zs : List Int) (s a : Int) (w : World) (hv : RamAt w v zs) :
    Calls Tryd.prog 14 #[v, .int .i64 s, .int .i64 a] w fun e w' => e = .returned (.tuple #[.int .i64 (walkR zs s a).1, .bool (walkR zs s a).2.1, errV (walkR zs s a).2.2]) ∧ w = w' := by
  have HV := hid hv
  clear hv
  have HB := hid (inBounds_any v zs s a w HV.out)
  by_cases h : inb zs.length s a
  · obtain ⟨s0, d0, d1⟩ := idx1 h
    have HI := hid (show decide (inb zs.length s a) = true from decide_eq_true h)
    have a0 : 0 ≤ a := by unfold inb at h; omega
    have a1 : a < 4096 := by unfold inb at h; omega
    have hj1 := getD_some (zs := zs) (j := (s * 16 + a / 256).toNat) (by omega)
    by_cases h1 : isE (e1 zs s a) (n16 zs)
    · obtain ⟨t0, d2, d3⟩ := idx2 h h1
      have hj2 := getD_some (zs := zs) (j := (e1 zs s a % 1024 * 16 + a / 16 % 16).toNat) (by omega)
      have F1 := hid (follow_yes v zs s (a / 256) w HV.out s0 d0 d1 _ hj1 h1)
      by_cases h2 : isE (e2 zs (e1 zs s a % 1024) a) (n16 zs)
      · have F2 := hid (follow_yes v zs (e1 zs s a % 1024) (a / 16 % 16) w HV.out t0 d2 d3 _ hj2 h2)
        rw [walkR_yes h h1 h2]
        clear h h1 h2 hj1 hj2 d0 d1 d2 d3 s0 t0
        go_enter Tryd.func14, Tryd.ntmps14
        go_wp2_with fail
        refine HB.out.mono ?_
        rintro e w' ⟨rfl, rfl⟩
        rw [HI.out]
        go_wp2_with fail
        refine F1.out.mono ?_
        rintro e w' ⟨rfl, rfl⟩
        go_wp2_with fail
        refine F2.out.mono ?_
        rintro e w' ⟨rfl, rfl⟩
        go_wp2_with fail
        go_ret3
        exact ⟨rfl, rfl⟩
      · have F2 := hid (follow_no v zs (e1 zs s a % 1024) (a / 16 % 16) w HV.out t0 d2 d3 _ hj2 h2)
        rw [walkR_no2 h h1 h2]
        clear h h1 h2 hj1 hj2 d0 d1 d2 d3 s0 t0
        go_enter Tryd.func14, Tryd.ntmps14
        go_wp2_with fail
        refine HB.out.mono ?_
        rintro e w' ⟨rfl, rfl⟩
        rw [HI.out]
        go_wp2_with fail
        refine F1.out.mono ?_
        rintro e w' ⟨rfl, rfl⟩
        go_wp2_with fail
        refine F2.out.mono ?_
        rintro e w' ⟨rfl, rfl⟩
        go_wp2_with fail
        go_ret3
        exact ⟨rfl, rfl⟩
    · have F1 := hid (follow_no v zs s (a / 256) w HV.out s0 d0 d1 _ hj1 h1)
      rw [walkR_no1 h h1]
      clear h h1 hj1 d0 d1 s0
      go_enter Tryd.func14, Tryd.ntmps14
      go_wp2_with fail
      refine HB.out.mono ?_
      rintro e w' ⟨rfl, rfl⟩
      rw [HI.out]
      go_wp2_with fail
      refine F1.out.mono ?_
      rintro e w' ⟨rfl, rfl⟩
      go_wp2_with fail
      go_ret3
      exact ⟨rfl, rfl⟩
  · have HI := hid (show decide (inb zs.length s a) = false from decide_eq_false h)
    rw [walkR_range h]
    clear h
    go_enter Tryd.func14, Tryd.ntmps14
    go_wp2_with fail
    refine HB.out.mono ?_
    rintro e w' ⟨rfl, rfl⟩
    rw [HI.out]
    go_wp2_with fail
    go_ret3
    exact ⟨rfl, rfl⟩
theorem entry_word (t : Int) (wr : Bool) (w : World) :
    Calls Tryd.prog 25 #[.int .i64 t, .bool wr] w fun e w' => e = .returned (.tuple #[.int .i64 (if 0 ≤ t ∧ t ≤ 23 then 32768 + t + (if wr = true then 16384 else 0) else 0), errV (if 0 ≤ t ∧ t ≤ 23 then 0 else 2)]) ∧ w = w' := by
  by_cases h : 0 ≤ t ∧ t ≤ 23
  · obtain ⟨h0, h1⟩ := h
    have o15 := or15 t h0 (by omega)
    have o14 := or14 t h0 (by omega)
    cases wr with
    | true =>
      go_enter Tryd.func25, Tryd.ntmps25
      go_wp2_with fail
      go_ret2
      refine ⟨?_, rfl⟩
      show Ending.returned (.tuple #[.int .i64 (49152 + t), .nilIface]) = .returned (.tuple #[.int .i64 (32768 + t + 16384), .nilIface])
      rw [show (49152 : Int) + t = 32768 + t + 16384 by omega]
    | false =>
      go_enter Tryd.func25, Tryd.ntmps25
      go_wp2_with fail
      go_ret2
      refine ⟨?_, rfl⟩
      rfl
  · simp only [if_neg h]
    by_cases h0 : t < 0
    · clear h
      go_enter Tryd.func25, Tryd.ntmps25
      go_wp2_with fail
      go_ret2
      exact ⟨rfl, rfl⟩
    · have h1 : 24 ≤ t := by omega
      clear h
      go_enter Tryd.func25, Tryd.ntmps25
      go_wp2_with fail
      go_ret2
      exact ⟨rfl, rfl⟩
set_option maxHeartbeats 2000000 in
theorem walked_any (v : Value) (zs : List Int) (s a : Int) (w : World) (hv : RamAt w v zs) :
    Calls Tryd.prog 13 #[v, .int .i64 s, .int .i64 a] w fun e w' => e = .returned (.tuple #[.int .i64 (walkR zs s a).1, .bool (walkR zs s a).2.1, .int .i64 (walkR zs s a).2.2]) ∧ w = w' := by
  have HV := hid hv
  obtain ⟨⟨q, b, cap, rfl, hq, hz⟩, hw, hl⟩ := hv
  have HF := hid (Isa.far_any a 4095 w)
  by_cases h : inb zs.length s a
  · obtain ⟨s0, d0, d1⟩ := idx1 h
    have a0 : 0 ≤ a := by unfold inb at h; omega
    have a1 : a < 4096 := by unfold inb at h; omega
    have FO := hid (framesOf_yes _ zs w HV.out (by unfold inb at h; omega) (by unfold inb at h; omega))
    have hn0 : ¬ ((zs.length : Int) / 16 < 0) := by omega
    have hs0 : ¬ (s < 0) := by omega
    have hs1 : ¬ ((zs.length : Int) / 16 ≤ s) := by unfold inb at h; omega
    have hfa : Hid (decide (a < 0 ∨ 4095 < a) = false) := decide_eq_false (by omega)
    have sb : s < 100 := by omega
    have hj1 : (s * 16 + a / 256).toNat < zs.length := by omega
    have hqe := hq (by omega)
    subst hqe
    have c1 := hz _ hj1
    rw [Nat.zero_add] at c1
    have g1 : zs[(s * 16 + a / 256).toNat] = e1 zs s a := by unfold e1; rw [List.getD_eq_getElem?_getD, List.getElem?_eq_getElem hj1]; rfl
    have w1 := hw _ (List.getElem_mem hj1)
    rw [g1] at c1 w1
    obtain ⟨x0, x1⟩ := w1
    have i1 : s * 16 + a / 256 < (zs.length : Int) := d1
    have i0 : 0 ≤ s * 16 + a / 256 := by omega
    by_cases h1 : isE (e1 zs s a) (n16 zs)
    · obtain ⟨t0, d2, d3⟩ := idx2 h h1
      have hj2 : (e1 zs s a % 1024 * 16 + a / 16 % 16).toNat < zs.length := by omega
      have c2 := hz _ hj2
      rw [Nat.zero_add] at c2
      have g2 : zs[(e1 zs s a % 1024 * 16 + a / 16 % 16).toNat] = e2 zs (e1 zs s a % 1024) a := by unfold e2; rw [List.getD_eq_getElem?_getD, List.getElem?_eq_getElem hj2]; rfl
      have w2 := hw _ (List.getElem_mem hj2)
      rw [g2] at c2 w2
      obtain ⟨y0, y1⟩ := w2
      have i2 : 0 ≤ e1 zs s a % 1024 * 16 + a / 16 % 16 := by omega
      have tn : ¬ (e1 zs s a % 1024 < 0) := by omega
      have tb : e1 zs s a % 1024 < 1024 := by omega
      have F1 := hid (entry_yes (e1 zs s a) ((zs.length : Int) / 16) w x0 x1 h1)
      by_cases h2 : isE (e2 zs (e1 zs s a % 1024) a) (n16 zs)
      · have F2 := hid (entry_yes (e2 zs (e1 zs s a % 1024) a) ((zs.length : Int) / 16) w y0 y1 h2)
        have HW := hid (walkR_yes h h1 h2)
        have pn : ¬ (e2 zs (e1 zs s a % 1024) a % 1024 < 0) := by omega
        have HD := hid (show (e2 zs (e1 zs s a % 1024) a / 16384 % 2 == 1) = decide (e2 zs (e1 zs s a % 1024) a / 16384 % 2 = 1) by rw [Bool.eq_iff_iff]; simp)
        clear h h1 h2 hj1 hj2 d0 d1 d2 s0 g1 g2 hq hz hw
        go_enter Tryd.func13, Tryd.ntmps13
        go_wp2_with fail
        refine FO.out.mono ?_
        rintro e w' ⟨rfl, rfl⟩
        go_wp2_with fail
        refine HF.out.mono ?_
        rintro e w' ⟨rfl, rfl⟩
        rw [hfa.out]
        go_wp2_with fail
        refine F1.out.mono ?_
        rintro e w' ⟨rfl, rfl⟩
        go_wp2_with fail
        refine F2.out.mono ?_
        rintro e w' ⟨rfl, rfl⟩
        go_wp2_with fail
        go_ret3
        exact ⟨by rw [HW.out, ← HD.out]; rfl, rfl⟩
      · have F2 := hid (entry_no (e2 zs (e1 zs s a % 1024) a) ((zs.length : Int) / 16) w y0 y1 h2)
        have HW := hid (walkR_no2 h h1 h2)
        clear h h1 h2 hj1 hj2 d0 d1 d2 s0 g1 g2 hq hz hw
        go_enter Tryd.func13, Tryd.ntmps13
        go_wp2_with fail
        refine FO.out.mono ?_
        rintro e w' ⟨rfl, rfl⟩
        go_wp2_with fail
        refine HF.out.mono ?_
        rintro e w' ⟨rfl, rfl⟩
        rw [hfa.out]
        go_wp2_with fail
        refine F1.out.mono ?_
        rintro e w' ⟨rfl, rfl⟩
        go_wp2_with fail
        refine F2.out.mono ?_
        rintro e w' ⟨rfl, rfl⟩
        go_wp2_with fail
        go_ret3
        exact ⟨by rw [HW.out]; rfl, rfl⟩
    · have F1 := hid (entry_no (e1 zs s a) ((zs.length : Int) / 16) w x0 x1 h1)
      have HW := hid (walkR_no1 h h1)
      clear h h1 hj1 d0 d1 s0 g1 hq hz hw
      go_enter Tryd.func13, Tryd.ntmps13
      go_wp2_with fail
      refine FO.out.mono ?_
      rintro e w' ⟨rfl, rfl⟩
      go_wp2_with fail
      refine HF.out.mono ?_
      rintro e w' ⟨rfl, rfl⟩
      rw [hfa.out]
      go_wp2_with fail
      refine F1.out.mono ?_
      rintro e w' ⟨rfl, rfl⟩
      go_wp2_with fail
      go_ret3
      exact ⟨by rw [HW.out]; rfl, rfl⟩
  · have HW := hid (walkR_range h)
    by_cases hf : (zs.length : Int) % 16 = 0 ∧ (zs.length : Int) ≤ 384
    · have FO := hid (framesOf_yes _ zs w HV.out hf.1 hf.2)
      have hn0 : ¬ ((zs.length : Int) / 16 < 0) := by omega
      by_cases hs0 : s < 0
      · clear h hf hq hz hw
        go_enter Tryd.func13, Tryd.ntmps13
        go_wp2_with fail
        refine FO.out.mono ?_
        rintro e w' ⟨rfl, rfl⟩
        go_wp2_with fail
        go_ret3
        exact ⟨by rw [HW.out]; rfl, rfl⟩
      · by_cases hs1 : (zs.length : Int) / 16 ≤ s
        · clear h hf hq hz hw
          go_enter Tryd.func13, Tryd.ntmps13
          go_wp2_with fail
          refine FO.out.mono ?_
          rintro e w' ⟨rfl, rfl⟩
          go_wp2_with fail
          go_ret3
          exact ⟨by rw [HW.out]; rfl, rfl⟩
        · have hfa : Hid (decide (a < 0 ∨ 4095 < a) = true) := decide_eq_true (by unfold inb at h; omega)
          clear h hf hq hz hw
          go_enter Tryd.func13, Tryd.ntmps13
          go_wp2_with fail
          refine FO.out.mono ?_
          rintro e w' ⟨rfl, rfl⟩
          go_wp2_with fail
          refine HF.out.mono ?_
          rintro e w' ⟨rfl, rfl⟩
          rw [hfa.out]
          go_wp2_with fail
          go_ret3
          exact ⟨by rw [HW.out]; rfl, rfl⟩
    · have FO := hid (framesOf_no _ zs w HV.out hf)
      clear h hf hq hz hw
      go_enter Tryd.func13, Tryd.ntmps13
      go_wp2_with fail
      refine FO.out.mono ?_
      rintro e w' ⟨rfl, rfl⟩
      go_wp2_with fail
      go_ret3
      exact ⟨by rw [HW.out]; rfl, rfl⟩
end Go.Proofs.YtfpkbfhaipgibaaDoor.Mmu
