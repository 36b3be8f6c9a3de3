/- keyholdlaw.WordSays, walked. -/
import Derived.Test.YtemlobepnfpalaaDoorRefUnp
namespace Go.Proofs.YtemlobepnfpalaaDoor
open Go.RowKit

/-- A world in which the first new block still holds what it was given, and errors.errorType its handle. -/
structure KW (w : World) (arr : Array Value) (W : World) : Prop where
  bel : Below w.heap.size w W
  lt : w.heap.size < W.heap.size
  cell : ∀ o, W.cell? ⟨w.heap.size, o, none⟩ = arr[o]?
  et : ETok W
theorem KW.next {w W W' : World} {arr : Array Value} (h : KW w arr W) (hb : Below W.heap.size W W') : KW w arr W' :=
  ⟨btr h.bel hb, Nat.lt_of_lt_of_le h.lt hb.size, fun o => (hb.cell (p := ⟨w.heap.size, o, none⟩) h.lt).trans (h.cell o), h.et.below hb⟩
theorem KW.al {w W : World} {arr : Array Value} (h : KW w arr W) (o : Obj) : KW w arr (W.alloc o) := h.next (bal (Below.refl _ _) o)
theorem KW.start {w : World} (arr : Array Value) (t : TypeId) (hg : ETok w) : KW w arr (w.alloc (.cells arr t)) :=
  ⟨bal (Below.refl _ _) _, by simp, fun o => World.cell?_alloc_at _ _ _ _ rfl, hg.alloc _⟩
theorem keyMay_ok (k b l m r g : Int) (w : World) (hk : Hid (KP.chk k b l m r g = 0)) :
    Calls Tryd.prog 10 #[.agg #[.int .i64 k, .int .i64 b, .int .i64 l, .int .i64 m, .int .i64 r, .int .i64 g]] w
      fun e w' => e = .returned (.int .i64 0) ∧ Below w.heap.size w w' := by
  have h := keyMay_any k b l m r g w
  rw [hk.out] at h
  exact h
theorem unpack_hit (n : Int) (w : World) (h0 : 0 ≤ n) (h1 : n < 2 ^ 64) (hu : Hid (n < 274877906944 ∧ KP.chk (uK n) (uB n) (uL n) (uM n) (uR n) (uG n) = 0)) :
    (Calls Tryd.prog 17 #[.int .u64 n] w
      fun e w' => e = .returned (.tuple #[.agg #[.int .i64 (uK n), .int .i64 (uB n), .int .i64 (uL n), .int .i64 (uM n), .int .i64 (uR n), .int .i64 (uG n)], .nilIface]) ∧ Below w.heap.size w w') ∧
    (Calls Tryd.prog 16 #[.int .u64 n] w
      fun e w' => e = .returned (.tuple #[.agg #[.int .i64 (uK n), .int .i64 (uB n), .int .i64 (uL n), .int .i64 (uM n), .int .i64 (uR n), .int .i64 (uG n)], .bool true]) ∧ Below w.heap.size w w') := by
  have a := unpack_any n w h0 h1
  have b := unpacked_any n w h0 h1
  unfold unpV at a
  unfold unpR at b
  rw [if_pos hu.out] at a b
  exact ⟨a, b⟩
theorem unpack_miss (n : Int) (w : World) (h0 : 0 ≤ n) (h1 : n < 2 ^ 64) (hu : Hid (¬ (n < 274877906944 ∧ KP.chk (uK n) (uB n) (uL n) (uM n) (uR n) (uG n) = 0))) :
    (Calls Tryd.prog 17 #[.int .u64 n] w
      fun e w' => e = .returned (.tuple #[.agg #[.int .i64 0, .int .i64 0, .int .i64 0, .int .i64 0, .int .i64 0, .int .i64 0], .iface 22 (.int .i64 1)]) ∧ Below w.heap.size w w') ∧
    (Calls Tryd.prog 16 #[.int .u64 n] w
      fun e w' => e = .returned (.tuple #[.agg #[.int .i64 0, .int .i64 0, .int .i64 0, .int .i64 0, .int .i64 0, .int .i64 0], .bool false]) ∧ Below w.heap.size w w') := by
  have a := unpack_any n w h0 h1
  have b := unpacked_any n w h0 h1
  unfold unpV at a
  unfold unpR at b
  rw [if_neg hu.out] at a b
  exact ⟨a, b⟩
theorem cells_next {W W' : World} {C : Nat} {arr : Array Value} (h : ∀ o, W.cell? ⟨C, o, none⟩ = arr[o]?) (hlt : C < W.heap.size) (hb : Below W.heap.size W W') : ∀ o, W'.cell? ⟨C, o, none⟩ = arr[o]? :=
  fun o => (hb.cell (p := ⟨C, o, none⟩) hlt).trans (h o)
theorem cells_new (W : World) (arr : Array Value) (t : TypeId) : ∀ o, (W.alloc (.cells arr t)).cell? ⟨W.heap.size, o, none⟩ = arr[o]? := fun _ => World.cell?_alloc_at _ _ _ _ rfl
set_option maxHeartbeats 2000000 in
theorem wordSays_any (k b l m r g n : Int) (w : World) (hg : ETok w) (h0 : 0 ≤ n) (h1 : n < 2 ^ 64) :
    Calls Tryd.prog 4 #[.agg #[.int .i64 k, .int .i64 b, .int .i64 l, .int .i64 m, .int .i64 r, .int .i64 g], .int .u64 n] w
      fun e w' => e = .returned (.bool true) ∧ Below w.heap.size w w' := by
  have K0 := KW.start #[.int .i64 k, .int .i64 b, .int .i64 l, .int .i64 m, .int .i64 r, .int .i64 g] 32 hg
  by_cases hk : KP.chk k b l m r g = 0
  · have HK := Hid.mk' hk
    have T1 : ∀ W, Tells W .nilIface 0 (-1) := fun W => .inl ⟨rfl, rfl, rfl⟩
    clear hk hg
    go_enter Tryd.func4, Tryd.ntmps4
    go_wp2_with fail
    refine (keyMay_ok _ _ _ _ _ _ _ HK).mono ?_
    rintro e w1 ⟨rfl, hb⟩
    have K1 := K0.next hb
    clear hb K0
    have c1 := K1.cell
    go_wp2_with fail
    refine (packed_ok _ _ _ _ _ _ _ HK.out).mono ?_
    rintro e w2 ⟨rfl, hb⟩
    have K2 := K1.next hb
    clear hb K1
    clear c1
    have c2 := K2.cell
    go_wp2_with fail
    refine (pack_ok _ _ _ _ _ _ _ HK.out).mono ?_
    rintro e w3 ⟨rfl, hb⟩
    have K3 := K2.next hb
    clear hb K2
    clear c2
    have c3 := K3.cell
    go_wp2_with fail
    refine (check_ok _ _ _ _ _ _ _ HK).mono ?_
    rintro e w4 ⟨rfl, hb⟩
    have K4 := K3.next hb
    clear hb K3
    clear c3
    go_wp2_with fail
    refine (err_any _ _).mono ?_
    rintro e w5 ⟨rfl, hb⟩
    have K5 := K4.next hb
    clear hb K4
    go_wp2_with fail
    refine (is_yes _ _ _ _ K5.et (T1 _)).mono ?_
    rintro e w6 ⟨rfl, hb⟩
    have K6 := K5.next hb
    clear hb K5
    go_wp2_with fail
    refine (err_any _ _).mono ?_
    rintro e w7 ⟨rfl, hb⟩
    have K7 := K6.next hb
    clear hb K6
    go_wp2_with fail
    refine (is_yes _ _ _ _ K7.et (T1 _)).mono ?_
    rintro e w8 ⟨rfl, hb⟩
    have K8 := K7.next hb
    clear hb K7
    by_cases hu : n < 274877906944 ∧ KP.chk (uK n) (uB n) (uL n) (uM n) (uR n) (uG n) = 0
    · have HU := Hid.mk' hu
      have T2 : ∀ W, Tells W .nilIface 0 (-1) := fun W => .inl ⟨rfl, rfl, rfl⟩
      clear hu
      go_wp2_with fail
      refine (unpack_hit n _ h0 h1 HU).2.mono ?_
      rintro e w9 ⟨rfl, hb⟩
      have K9 := K8.next hb
      clear hb K8
      go_wp2_with fail
      refine (unpack_hit n _ h0 h1 HU).1.mono ?_
      rintro e w10 ⟨rfl, hb⟩
      have K10 := (K9.al _).next hb
      have u10 := cells_next (cells_new w9 #[.int .i64 (uK n), .int .i64 (uB n), .int .i64 (uL n), .int .i64 (uM n), .int .i64 (uR n), .int .i64 (uG n)] 32) (by simp) hb
      have z10 : w9.heap.size < w10.heap.size := by have := hb.size; simp at this; omega
      clear hb K9
      go_wp2_with fail
      refine (err_any _ _).mono ?_
      rintro e w11 ⟨rfl, hb⟩
      have K11 := (K10.al _).next hb
      have u11 := cells_next (cells_alloc u10 z10 _) (by simp; omega) hb
      have x11 := cells_next (cells_new w10 #[.int .i64 (uK n), .int .i64 (uB n), .int .i64 (uL n), .int .i64 (uM n), .int .i64 (uR n), .int .i64 (uG n)] 32) (by simp) hb
      have z11 : w9.heap.size < w11.heap.size := by have := hb.size; simp at this; omega
      have y11 : w10.heap.size < w11.heap.size := by have := hb.size; simp at this; omega
      clear hb K10 u10
      go_wp2_with fail
      refine (is_yes _ _ _ _ K11.et (T2 _)).mono ?_
      rintro e w12 ⟨rfl, hb⟩
      have K12 := K11.next hb
      have u12 := cells_next u11 z11 hb
      have x12 := cells_next x11 y11 hb
      clear hb K11 u11 x11
      go_wp2_with fail
      go_ret
      exact ⟨rfl, K12.bel⟩
    · have HU := Hid.mk' hu
      have T2 : ∀ W, Tells W (.iface 22 (.int .i64 1)) 1 (-1) := fun W => .inr (.inl ⟨rfl, rfl⟩)
      clear hu
      go_wp2_with fail
      refine (unpack_miss n _ h0 h1 HU).2.mono ?_
      rintro e w9 ⟨rfl, hb⟩
      have K9 := K8.next hb
      clear hb K8
      go_wp2_with fail
      refine (unpack_miss n _ h0 h1 HU).1.mono ?_
      rintro e w10 ⟨rfl, hb⟩
      have K10 := (K9.al _).next hb
      have u10 := cells_next (cells_new w9 #[.int .i64 0, .int .i64 0, .int .i64 0, .int .i64 0, .int .i64 0, .int .i64 0] 32) (by simp) hb
      have z10 : w9.heap.size < w10.heap.size := by have := hb.size; simp at this; omega
      clear hb K9
      go_wp2_with fail
      refine (err_any _ _).mono ?_
      rintro e w11 ⟨rfl, hb⟩
      have K11 := (K10.al _).next hb
      have u11 := cells_next (cells_alloc u10 z10 _) (by simp; omega) hb
      have x11 := cells_next (cells_new w10 #[.int .i64 0, .int .i64 0, .int .i64 0, .int .i64 0, .int .i64 0, .int .i64 0] 32) (by simp) hb
      have z11 : w9.heap.size < w11.heap.size := by have := hb.size; simp at this; omega
      have y11 : w10.heap.size < w11.heap.size := by have := hb.size; simp at this; omega
      clear hb K10 u10
      go_wp2_with fail
      refine (is_yes _ _ _ _ K11.et (T2 _)).mono ?_
      rintro e w12 ⟨rfl, hb⟩
      have K12 := K11.next hb
      have u12 := cells_next u11 z11 hb
      have x12 := cells_next x11 y11 hb
      clear hb K11 u11 x11
      go_wp2_with fail
      go_ret
      exact ⟨rfl, K12.bel⟩
  · have HK : Hid (KP.chk k b l m r g ≠ 0) := hk
    have T1 : ∀ W, Tells W (.iface 22 (.int .i64 (KP.chk k b l m r g))) (KP.chk k b l m r g) (-1) := fun W => .inr (.inl ⟨rfl, rfl⟩)
    have hne : (KP.chk k b l m r g == 0) = false := beq_eq_false_iff_ne.2 hk
    clear hk hg
    go_enter Tryd.func4, Tryd.ntmps4
    go_wp2_with fail
    refine (keyMay_any _ _ _ _ _ _ _).mono ?_
    rintro e w1 ⟨rfl, hb⟩
    have K1 := K0.next hb
    clear hb K0
    have c1 := K1.cell
    go_wp2_with fail
    refine (pack_err _ _ _ _ _ _ _ HK.out).mono ?_
    rintro e w2 ⟨rfl, hb⟩
    have K2 := K1.next hb
    clear hb K1
    clear c1
    have c2 := K2.cell
    go_wp2_with fail
    refine (check_no _ _ _ _ _ _ _ HK).mono ?_
    rintro e w3 ⟨rfl, hb⟩
    have K3 := K2.next hb
    clear hb K2
    clear c2
    go_wp2_with fail
    refine (err_any _ _).mono ?_
    rintro e w4 ⟨rfl, hb⟩
    have K4 := K3.next hb
    clear hb K3
    go_wp2_with fail
    refine (is_yes _ _ _ _ K4.et (T1 _)).mono ?_
    rintro e w5 ⟨rfl, hb⟩
    have K5 := K4.next hb
    clear hb K4
    go_wp2_with fail
    refine (err_any _ _).mono ?_
    rintro e w6 ⟨rfl, hb⟩
    have K6 := K5.next hb
    clear hb K5
    go_wp2_with fail
    refine (is_yes _ _ _ _ K6.et (T1 _)).mono ?_
    rintro e w7 ⟨rfl, hb⟩
    have K7 := K6.next hb
    clear hb K6
    have K8 := K7
    clear K7
    by_cases hu : n < 274877906944 ∧ KP.chk (uK n) (uB n) (uL n) (uM n) (uR n) (uG n) = 0
    · have HU := Hid.mk' hu
      have T2 : ∀ W, Tells W .nilIface 0 (-1) := fun W => .inl ⟨rfl, rfl, rfl⟩
      clear hu
      go_wp2_with fail
      refine (unpack_hit n _ h0 h1 HU).2.mono ?_
      rintro e w9 ⟨rfl, hb⟩
      have K9 := K8.next hb
      clear hb K8
      go_wp2_with fail
      refine (unpack_hit n _ h0 h1 HU).1.mono ?_
      rintro e w10 ⟨rfl, hb⟩
      have K10 := (K9.al _).next hb
      have u10 := cells_next (cells_new w9 #[.int .i64 (uK n), .int .i64 (uB n), .int .i64 (uL n), .int .i64 (uM n), .int .i64 (uR n), .int .i64 (uG n)] 32) (by simp) hb
      have z10 : w9.heap.size < w10.heap.size := by have := hb.size; simp at this; omega
      clear hb K9
      go_wp2_with fail
      refine (err_any _ _).mono ?_
      rintro e w11 ⟨rfl, hb⟩
      have K11 := (K10.al _).next hb
      have u11 := cells_next (cells_alloc u10 z10 _) (by simp; omega) hb
      have x11 := cells_next (cells_new w10 #[.int .i64 (uK n), .int .i64 (uB n), .int .i64 (uL n), .int .i64 (uM n), .int .i64 (uR n), .int .i64 (uG n)] 32) (by simp) hb
      have z11 : w9.heap.size < w11.heap.size := by have := hb.size; simp at this; omega
      have y11 : w10.heap.size < w11.heap.size := by have := hb.size; simp at this; omega
      clear hb K10 u10
      go_wp2_with fail
      refine (is_yes _ _ _ _ K11.et (T2 _)).mono ?_
      rintro e w12 ⟨rfl, hb⟩
      have K12 := K11.next hb
      have u12 := cells_next u11 z11 hb
      have x12 := cells_next x11 y11 hb
      clear hb K11 u11 x11
      go_wp2_with fail
      go_ret
      exact ⟨rfl, K12.bel⟩
    · have HU := Hid.mk' hu
      have T2 : ∀ W, Tells W (.iface 22 (.int .i64 1)) 1 (-1) := fun W => .inr (.inl ⟨rfl, rfl⟩)
      clear hu
      go_wp2_with fail
      refine (unpack_miss n _ h0 h1 HU).2.mono ?_
      rintro e w9 ⟨rfl, hb⟩
      have K9 := K8.next hb
      clear hb K8
      go_wp2_with fail
      refine (unpack_miss n _ h0 h1 HU).1.mono ?_
      rintro e w10 ⟨rfl, hb⟩
      have K10 := (K9.al _).next hb
      have u10 := cells_next (cells_new w9 #[.int .i64 0, .int .i64 0, .int .i64 0, .int .i64 0, .int .i64 0, .int .i64 0] 32) (by simp) hb
      have z10 : w9.heap.size < w10.heap.size := by have := hb.size; simp at this; omega
      clear hb K9
      go_wp2_with fail
      refine (err_any _ _).mono ?_
      rintro e w11 ⟨rfl, hb⟩
      have K11 := (K10.al _).next hb
      have u11 := cells_next (cells_alloc u10 z10 _) (by simp; omega) hb
      have x11 := cells_next (cells_new w10 #[.int .i64 0, .int .i64 0, .int .i64 0, .int .i64 0, .int .i64 0, .int .i64 0] 32) (by simp) hb
      have z11 : w9.heap.size < w11.heap.size := by have := hb.size; simp at this; omega
      have y11 : w10.heap.size < w11.heap.size := by have := hb.size; simp at this; omega
      clear hb K10 u10
      go_wp2_with fail
      refine (is_yes _ _ _ _ K11.et (T2 _)).mono ?_
      rintro e w12 ⟨rfl, hb⟩
      have K12 := K11.next hb
      have u12 := cells_next u11 z11 hb
      have x12 := cells_next x11 y11 hb
      clear hb K11 u11 x11
      go_wp2_with fail
      go_ret
      exact ⟨rfl, K12.bel⟩
end Go.Proofs.YtemlobepnfpalaaDoor
