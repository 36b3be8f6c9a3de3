/- keyholdref.Unpacked, walked. -/
import Derived.Test.YtemlobepnfpalaaDoorRefKey
namespace Go.Proofs.YtemlobepnfpalaaDoor
open Go.RowKit

/-- keyholdref.Unpacked: the key of a number, and whether there is one. -/
def unpR (n : Int) : Value :=
  if n < 274877906944 ∧ KP.chk (uK n) (uB n) (uL n) (uM n) (uR n) (uG n) = 0 then .tuple #[.agg #[.int .i64 (uK n), .int .i64 (uB n), .int .i64 (uL n), .int .i64 (uM n), .int .i64 (uR n), .int .i64 (uG n)], .bool true]
  else .tuple #[.agg #[.int .i64 0, .int .i64 0, .int .i64 0, .int .i64 0, .int .i64 0, .int .i64 0], .bool false]
set_option maxHeartbeats 1000000 in
theorem unpacked_any (n : Int) (w : World) (h0 : 0 ≤ n) (h1 : n < 2 ^ 64) :
    Calls Tryd.prog 16 #[.int .u64 n] w
      fun e w' => e = .returned (unpR n) ∧ Below w.heap.size w w' := by
  by_cases hn : n < 274877906944
  · have e1 : n / 65536 / 8 / 32 / 32 / 32 = uK n := by unfold uK; omega
    have e2 : n / 65536 / 8 / 32 / 32 % 32 = uB n := by unfold uB; omega
    have e3 : n / 65536 / 8 / 32 % 32 = uL n := by unfold uL; omega
    have e4 : n / 65536 / 8 % 32 = uM n := by unfold uM; omega
    have e5 : n / 65536 % 8 = uR n := rfl
    have e6 : n % 65536 = uG n := rfl
    have E1 := Hid.mk' e1
    have E2 := Hid.mk' e2
    have E3 := Hid.mk' e3
    have E4 := Hid.mk' e4
    have E5 := Hid.mk' e5
    have E6 := Hid.mk' e6
    clear e1 e2 e3 e4 e5 e6
    by_cases hk : KP.chk (uK n) (uB n) (uL n) (uM n) (uR n) (uG n) = 0
    · have hv : unpR n = .tuple #[.agg #[.int .i64 (uK n), .int .i64 (uB n), .int .i64 (uL n), .int .i64 (uM n), .int .i64 (uR n), .int .i64 (uG n)], .bool true] := by unfold unpR; rw [if_pos ⟨hn, hk⟩]
      have HV := Hid.mk' hv
      have HK := Hid.mk' hk
      clear hv hk
      go_enter Tryd.func16, Tryd.ntmps16
      go_wp2_with fail
      rw [E1.out, E2.out, E3.out, E4.out, E5.out, E6.out]
      refine (keyMay_any _ _ _ _ _ _ _).mono ?_
      rw [HK.out]
      rintro e w1 ⟨rfl, hb1⟩
      obtain ⟨hc1, hz1⟩ := bcell hb1
      go_wp2_with fail
      have six := six_set (W := w1) (B := w.heap.size) (v0 := .int .i64 (uK n)) (v1 := .int .i64 (uB n)) (v2 := .int .i64 (uL n)) (v3 := .int .i64 (uM n)) (v4 := .int .i64 (uR n)) (v5 := .int .i64 (uG n)) (fun o => (hc1 _ o (by simp; omega)).trans (by rw [World.cell?_alloc_lt _ _ ⟨w.heap.size, o, none⟩ (by simp), World.cell?_alloc_at _ _ _ _ rfl]))
      refine bodyPost_ret (v := .tuple #[.agg #[.int .i64 (uK n), .int .i64 (uB n), .int .i64 (uL n), .int .i64 (uM n), .int .i64 (uR n), .int .i64 (uG n)], .bool true]) (by simp [results, Tryd.results16, go_sem, six]) rfl ⟨by rw [HV.out], ?_⟩
      exact ((((((btr (bal (bal (Below.refl _ _) _) _) hb1).setCell (Nat.le_refl _) _).setCell (Nat.le_refl _) _).setCell (Nat.le_refl _) _).setCell (Nat.le_refl _) _).setCell (Nat.le_refl _) _).setCell (Nat.le_refl _) _
    · have hv : unpR n = .tuple #[.agg #[.int .i64 0, .int .i64 0, .int .i64 0, .int .i64 0, .int .i64 0, .int .i64 0], .bool false] := by unfold unpR; rw [if_neg (fun h => hk h.2)]
      have HV := Hid.mk' hv
      have hne : (KP.chk (uK n) (uB n) (uL n) (uM n) (uR n) (uG n) != 0) = true := by simpa using hk
      clear hv hk
      go_enter Tryd.func16, Tryd.ntmps16
      go_wp2_with fail
      rw [E1.out, E2.out, E3.out, E4.out, E5.out, E6.out]
      refine (keyMay_any _ _ _ _ _ _ _).mono ?_
      rintro e w1 ⟨rfl, hb1⟩
      obtain ⟨hc1, hz1⟩ := bcell hb1
      go_wp2_with fail
      have six := six_set (W := w1) (B := w.heap.size) (v0 := .int .i64 0) (v1 := .int .i64 0) (v2 := .int .i64 0) (v3 := .int .i64 0) (v4 := .int .i64 0) (v5 := .int .i64 0) (fun o => (hc1 _ o (by simp; omega)).trans (by rw [World.cell?_alloc_lt _ _ ⟨w.heap.size, o, none⟩ (by simp), World.cell?_alloc_at _ _ _ _ rfl]))
      refine bodyPost_ret (v := .tuple #[.agg #[.int .i64 0, .int .i64 0, .int .i64 0, .int .i64 0, .int .i64 0, .int .i64 0], .bool false]) (by simp [results, Tryd.results16, go_sem, six]) rfl ⟨by rw [HV.out], ?_⟩
      exact ((((((btr (bal (bal (Below.refl _ _) _) _) hb1).setCell (Nat.le_refl _) _).setCell (Nat.le_refl _) _).setCell (Nat.le_refl _) _).setCell (Nat.le_refl _) _).setCell (Nat.le_refl _) _).setCell (Nat.le_refl _) _
  · have hv : unpR n = .tuple #[.agg #[.int .i64 0, .int .i64 0, .int .i64 0, .int .i64 0, .int .i64 0, .int .i64 0], .bool false] := by unfold unpR; rw [if_neg (fun h => hn h.1)]
    have HV := Hid.mk' hv
    clear hv
    go_enter Tryd.func16, Tryd.ntmps16
    go_wp2_with fail
    refine bodyPost_ret (v := .tuple #[.agg #[.int .i64 0, .int .i64 0, .int .i64 0, .int .i64 0, .int .i64 0, .int .i64 0], .bool false]) (by simp [results, Tryd.results16, go_sem]) rfl ⟨by rw [HV.out], ?_⟩
    exact bal (Below.refl _ _) _
end Go.Proofs.YtemlobepnfpalaaDoor
