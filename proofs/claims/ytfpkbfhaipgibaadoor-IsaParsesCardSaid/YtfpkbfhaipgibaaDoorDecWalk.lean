/- isa.Decode, walked. -/
import Derived.Test.YtfpkbfhaipgibaaDoorIsaWalk
import Derived.Test.YtfpkbfhaipgibaaDoorArr2
namespace Go.Proofs.YtfpkbfhaipgibaaDoor.Isa
open Go.RowKit Go.Proofs.YtfpkbfhaipgibaaDoor.Mem

def dO (x : Int) : Int := wrap64 (x.tdiv 256)
def dA (x : Int) : Int := (wrap64 (x.tdiv 16)).tmod 16
def dB (x : Int) : Int := x.tmod 16
def dY (y : Int) : Int := if 32767 < y then wrap64 (y - 65536) else y
def decV (x y : Int) : Value :=
  if IP.may (dO x) (dA x) (dB x) (dY y) = 0 ∧ IP.c0 (dO x) (dA x) (dB x) = x ∧ IP.c1 (dY y) = y then .tuple #[.agg #[.int .i64 (dO x), .int .i64 (dA x), .int .i64 (dB x), .int .i64 (dY y)], .nilIface]
  else .tuple #[.agg #[.int .i64 0, .int .i64 0, .int .i64 0, .int .i64 0], .iface 23 (.int .i64 1)]
theorem decV_no {x y : Int} (h : ¬ (IP.may (dO x) (dA x) (dB x) (dY y) = 0 ∧ IP.c0 (dO x) (dA x) (dB x) = x ∧ IP.c1 (dY y) = y)) : decV x y = .tuple #[.agg #[.int .i64 0, .int .i64 0, .int .i64 0, .int .i64 0], .iface 23 (.int .i64 1)] := by unfold decV; rw [if_neg h]
set_option maxHeartbeats 1000000 in
theorem decode_any (x y : Int) (w : World) :
    Calls Tryd.prog 35 #[.agg #[.int .i64 x, .int .i64 y]] w
      fun e w' => e = .returned (decV x y) ∧ Below w.heap.size w w' := by
  have arr := arr2_neq
  by_cases hi : 32767 < y
  · have eY : dY y = wrap64 (y - 65536) := by unfold dY; rw [if_pos hi]
    have EY := hid eY
    clear eY
    by_cases hm : IP.may (dO x) (dA x) (dB x) (dY y) = 0
    · have HM := hid hm
      clear hm
      go_enter Tryd.func35, Tryd.ntmps35
      go_wp2_with fail
      rw [show wrap64 (x.tdiv 256) = dO x from rfl, show (wrap64 (x.tdiv 16)).tmod 16 = dA x from rfl, show x.tmod 16 = dB x from rfl, ← EY.out]
      refine (encode_ok _ _ _ _ _ HM.out).mono ?_
      rintro e w1 ⟨rfl, hb⟩
      obtain ⟨hc, hz⟩ := bcell hb
      have z2 : w.heap.size + 1 + 1 < w1.heap.size := by have := hb.size; simp at this; omega
      have z1 : w.heap.size + 1 < w1.heap.size := by omega
      have z0 : w.heap.size < w1.heap.size := by omega
      by_cases hE : IP.c0 (dO x) (dA x) (dB x) = x ∧ IP.c1 (dY y) = y
      · have hv : decV x y = .tuple #[.agg #[.int .i64 (dO x), .int .i64 (dA x), .int .i64 (dB x), .int .i64 (dY y)], .nilIface] := by unfold decV; rw [if_pos ⟨HM.out, by exact hE⟩]
        have HV := hid hv
        have e0 : (IP.c0 (dO x) (dA x) (dB x) == x) = true := beq_iff_eq.2 hE.1
        have e1 : (IP.c1 (dY y) == y) = true := beq_iff_eq.2 hE.2
        clear hv hE
        go_wp2_with fail
        have four := four_set (v0 := .int .i64 (dO x)) (v1 := .int .i64 (dA x)) (v2 := .int .i64 (dB x)) (v3 := .int .i64 (dY y)) (cells_next (cells_alloc (cells_at (w.alloc (.cells #[.int .i64 x, .int .i64 y] 78)) #[.int .i64 0, .int .i64 0, .int .i64 0, .int .i64 0] 34 (w.heap.size + 1) (by simp)) (by simp) _) (by simp <;> omega) hb)
        have four2 := fun ob => cells_alloc four (by simp [World.setCell]; omega) ob
        refine bodyPost_ret (v := .tuple #[.agg #[.int .i64 (dO x), .int .i64 (dA x), .int .i64 (dB x), .int .i64 (dY y)], .nilIface]) (by simp [results, Tryd.results35, go_sem, four2]) rfl ⟨by rw [HV.out], ?_⟩
        exact bal (bset (bset (bset (bset (btr (bal (bal (bal (Below.refl _ _) _) _) _) hb) (by simp) _) (by simp) _) (by simp) _) (by simp) _) _
      · have hv := decV_no (x := x) (y := y) (fun h => hE (by exact h.2))
        have HV := hid hv
        have e0 : (IP.c0 (dO x) (dA x) (dB x) == x && IP.c1 (dY y) == y) = false := by simpa using hE
        clear hv hE
        go_wp2_with fail
        have four := four_set (v0 := .int .i64 0) (v1 := .int .i64 0) (v2 := .int .i64 0) (v3 := .int .i64 0) (cells_next (cells_alloc (cells_at (w.alloc (.cells #[.int .i64 x, .int .i64 y] 78)) #[.int .i64 0, .int .i64 0, .int .i64 0, .int .i64 0] 34 (w.heap.size + 1) (by simp)) (by simp) _) (by simp <;> omega) hb)
        have four2 := fun ob => cells_alloc four (by simp [World.setCell]; omega) ob
        refine bodyPost_ret (v := .tuple #[.agg #[.int .i64 0, .int .i64 0, .int .i64 0, .int .i64 0], .iface 23 (.int .i64 1)]) (by simp [results, Tryd.results35, go_sem, four2]) rfl ⟨by rw [HV.out], ?_⟩
        exact bal (bset (bset (bset (bset (btr (bal (bal (bal (Below.refl _ _) _) _) _) hb) (by simp) _) (by simp) _) (by simp) _) (by simp) _) _
    · have hv := decV_no (x := x) (y := y) (fun h => hm h.1)
      have HV := hid hv
      have HM := hid hm
      clear hv hm
      go_enter Tryd.func35, Tryd.ntmps35
      go_wp2_with fail
      rw [show wrap64 (x.tdiv 256) = dO x from rfl, show (wrap64 (x.tdiv 16)).tmod 16 = dA x from rfl, show x.tmod 16 = dB x from rfl, ← EY.out]
      refine (encode_no _ _ _ _ _ HM.out).mono ?_
      rintro e w1 ⟨rfl, hb⟩
      obtain ⟨hc, hz⟩ := bcell hb
      have z2 : w.heap.size + 1 + 1 < w1.heap.size := by have := hb.size; simp at this; omega
      have z1 : w.heap.size + 1 < w1.heap.size := by omega
      have z0 : w.heap.size < w1.heap.size := by omega
      go_wp2_with fail
      have four := four_set (v0 := .int .i64 0) (v1 := .int .i64 0) (v2 := .int .i64 0) (v3 := .int .i64 0) (cells_next (cells_alloc (cells_at (w.alloc (.cells #[.int .i64 x, .int .i64 y] 78)) #[.int .i64 0, .int .i64 0, .int .i64 0, .int .i64 0] 34 (w.heap.size + 1) (by simp)) (by simp) _) (by simp <;> omega) hb)
      have four2 := fun ob => cells_alloc four (by simp [World.setCell]; omega) ob
      refine bodyPost_ret (v := .tuple #[.agg #[.int .i64 0, .int .i64 0, .int .i64 0, .int .i64 0], .iface 23 (.int .i64 1)]) (by simp [results, Tryd.results35, go_sem, four2]) rfl ⟨by rw [HV.out], ?_⟩
      exact bal (bset (bset (bset (bset (btr (bal (bal (bal (Below.refl _ _) _) _) _) hb) (by simp) _) (by simp) _) (by simp) _) (by simp) _) _
  · have eY : dY y = y := by unfold dY; rw [if_neg hi]
    have EY := hid eY
    clear eY
    by_cases hm : IP.may (dO x) (dA x) (dB x) (dY y) = 0
    · have HM := hid hm
      have HM2 : Hid (IP.may (dO x) (dA x) (dB x) y = 0) := by rw [EY.out] at hm; exact hm
      clear hm
      go_enter Tryd.func35, Tryd.ntmps35
      go_wp2_with fail
      rw [show wrap64 (x.tdiv 256) = dO x from rfl, show (wrap64 (x.tdiv 16)).tmod 16 = dA x from rfl, show x.tmod 16 = dB x from rfl]
      refine (encode_ok _ _ _ _ _ HM2.out).mono ?_
      rintro e w1 ⟨rfl, hb⟩
      obtain ⟨hc, hz⟩ := bcell hb
      have z2 : w.heap.size + 1 + 1 < w1.heap.size := by have := hb.size; simp at this; omega
      have z1 : w.heap.size + 1 < w1.heap.size := by omega
      have z0 : w.heap.size < w1.heap.size := by omega
      by_cases hE : IP.c0 (dO x) (dA x) (dB x) = x ∧ IP.c1 y = y
      · have hv : decV x y = .tuple #[.agg #[.int .i64 (dO x), .int .i64 (dA x), .int .i64 (dB x), .int .i64 y], .nilIface] := by unfold decV; rw [if_pos ⟨HM.out, by rw [EY.out]; exact hE⟩]; rw [EY.out]
        have HV := hid hv
        have e0 : (IP.c0 (dO x) (dA x) (dB x) == x) = true := beq_iff_eq.2 hE.1
        have e1 : (IP.c1 y == y) = true := beq_iff_eq.2 hE.2
        clear hv hE
        go_wp2_with fail
        have four := four_set (v0 := .int .i64 (dO x)) (v1 := .int .i64 (dA x)) (v2 := .int .i64 (dB x)) (v3 := .int .i64 y) (cells_next (cells_alloc (cells_at (w.alloc (.cells #[.int .i64 x, .int .i64 y] 78)) #[.int .i64 0, .int .i64 0, .int .i64 0, .int .i64 0] 34 (w.heap.size + 1) (by simp)) (by simp) _) (by simp <;> omega) hb)
        have four2 := fun ob => cells_alloc four (by simp [World.setCell]; omega) ob
        refine bodyPost_ret (v := .tuple #[.agg #[.int .i64 (dO x), .int .i64 (dA x), .int .i64 (dB x), .int .i64 y], .nilIface]) (by simp [results, Tryd.results35, go_sem, four2]) rfl ⟨by rw [HV.out], ?_⟩
        exact bal (bset (bset (bset (bset (btr (bal (bal (bal (Below.refl _ _) _) _) _) hb) (by simp) _) (by simp) _) (by simp) _) (by simp) _) _
      · have hv := decV_no (x := x) (y := y) (fun h => hE (by rw [EY.out] at h; exact h.2))
        have HV := hid hv
        have e0 : (IP.c0 (dO x) (dA x) (dB x) == x && IP.c1 y == y) = false := by simpa using hE
        clear hv hE
        go_wp2_with fail
        have four := four_set (v0 := .int .i64 0) (v1 := .int .i64 0) (v2 := .int .i64 0) (v3 := .int .i64 0) (cells_next (cells_alloc (cells_at (w.alloc (.cells #[.int .i64 x, .int .i64 y] 78)) #[.int .i64 0, .int .i64 0, .int .i64 0, .int .i64 0] 34 (w.heap.size + 1) (by simp)) (by simp) _) (by simp <;> omega) hb)
        have four2 := fun ob => cells_alloc four (by simp [World.setCell]; omega) ob
        refine bodyPost_ret (v := .tuple #[.agg #[.int .i64 0, .int .i64 0, .int .i64 0, .int .i64 0], .iface 23 (.int .i64 1)]) (by simp [results, Tryd.results35, go_sem, four2]) rfl ⟨by rw [HV.out], ?_⟩
        exact bal (bset (bset (bset (bset (btr (bal (bal (bal (Below.refl _ _) _) _) _) hb) (by simp) _) (by simp) _) (by simp) _) (by simp) _) _
    · have hv := decV_no (x := x) (y := y) (fun h => hm h.1)
      have HV := hid hv
      have HM : Hid (IP.may (dO x) (dA x) (dB x) y ≠ 0) := by rw [EY.out] at hm; exact hm
      clear hv hm
      go_enter Tryd.func35, Tryd.ntmps35
      go_wp2_with fail
      rw [show wrap64 (x.tdiv 256) = dO x from rfl, show (wrap64 (x.tdiv 16)).tmod 16 = dA x from rfl, show x.tmod 16 = dB x from rfl]
      refine (encode_no _ _ _ _ _ HM.out).mono ?_
      rintro e w1 ⟨rfl, hb⟩
      obtain ⟨hc, hz⟩ := bcell hb
      have z2 : w.heap.size + 1 + 1 < w1.heap.size := by have := hb.size; simp at this; omega
      have z1 : w.heap.size + 1 < w1.heap.size := by omega
      have z0 : w.heap.size < w1.heap.size := by omega
      go_wp2_with fail
      have four := four_set (v0 := .int .i64 0) (v1 := .int .i64 0) (v2 := .int .i64 0) (v3 := .int .i64 0) (cells_next (cells_alloc (cells_at (w.alloc (.cells #[.int .i64 x, .int .i64 y] 78)) #[.int .i64 0, .int .i64 0, .int .i64 0, .int .i64 0] 34 (w.heap.size + 1) (by simp)) (by simp) _) (by simp <;> omega) hb)
      have four2 := fun ob => cells_alloc four (by simp [World.setCell]; omega) ob
      refine bodyPost_ret (v := .tuple #[.agg #[.int .i64 0, .int .i64 0, .int .i64 0, .int .i64 0], .iface 23 (.int .i64 1)]) (by simp [results, Tryd.results35, go_sem, four2]) rfl ⟨by rw [HV.out], ?_⟩
      exact bal (bset (bset (bset (bset (btr (bal (bal (bal (Below.refl _ _) _) _) _) hb) (by simp) _) (by simp) _) (by simp) _) (by simp) _) _
end Go.Proofs.YtfpkbfhaipgibaaDoor.Isa
