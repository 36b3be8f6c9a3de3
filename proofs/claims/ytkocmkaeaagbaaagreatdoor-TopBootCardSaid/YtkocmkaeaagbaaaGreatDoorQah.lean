/- The document's answers on keys (keyholdref.Far, KeyMay, Packed, Unpacked, Err), walked. · Keys made from keys: world.canMake, world.isEndless; walked. · What a key opens, and what it was made from: world.opens, world.isMade; walked. -/
import Derived.BigQuiet
import Derived.Deep.RegionHeld3
import Derived.Test.YtkocmkaeaagbaaaGreatDoorQaf
import Derived.Test.YtkocmkaeaagbaaaGreatDoorQag
import Derived.Test.YtkocmkaeaagbaaaGreatDoorQae
namespace Go.Proofs.YtkocmkaeaagbaaaGreatDoor
open Go.RowKit
theorem chk_plain (k b l m r g : Int) : KP.chk k b l m r g =
  if k < 0 ∨ 8 < k then 3 else if k = 0 then (if b = 0 ∧ l = 0 ∧ m = 0 ∧ r = 0 ∧ g = 0 then 0 else 2)
  else if ¬ (1 ≤ l ∧ l ≤ 24 ∧ 0 ≤ b ∧ b ≤ 24 - l ∧ (k = 1 → 0 ≤ m ∧ m ≤ l) ∧ (k ≠ 1 → l = 1 ∧ m = 0)) then 2
  else if r < 0 ∨ 7 < r then 4
  else if ¬ (0 ≤ g ∧ g ≤ 65535 ∧ (k ≠ 7 → k ≠ 8 → g = 0)) then 2 else 0 := by
 have h1 := KP.fitsB_iff k b l m
 have h2 := KP.badgeB_iff k g
 unfold KP.chk
 simp only [← h1, ← h2, Bool.not_eq_true]
end Go.Proofs.YtkocmkaeaagbaaaGreatDoor
namespace Go.Proofs.YtkocmkaeaagbaaaGreatDoor.Wd
open Go.RowKit Go.Proofs.YtkocmkaeaagbaaaGreatDoor.Mem Go.Proofs.YtkocmkaeaagbaaaGreatDoor.Bw Go.Proofs.YtkocmkaeaagbaaaGreatDoor.Nums Go.Proofs.YtkocmkaeaagbaaaGreatDoor.Mmu
/-- A key in cells, and what is said of it. -/
def kv (s : Nat → Int) : Array Value := #[.int .i64 (s 0), .int .i64 (s 1), .int .i64 (s 2), .int .i64 (s 3), .int .i64 (s 4), .int .i64 (s 5)]
def kc (s : Nat → Int) : Int := KP.chk (s 0) (s 1) (s 2) (s 3) (s 4) (s 5)
/-- Bits of the one that the other one has not. -/
def anB (x y : Int) : Int := bits .andNot .i64 x y
def cmB (f s : Nat → Int) : Bool := if f 0 = 1 then s 0 != 1 && decide (f 1 ≤ s 1 ∧ s 1 ≤ f 1 + f 3 - 1) else s 0 == f 0 && s 1 == f 1 && anB (s 4) (f 4) == 0 && (f 5 == 0 || s 5 == f 5)
/-- The way up, so many times at most. -/
def up (p : PW) : Nat → Int → Int
 | 0, a => a
 | n + 1, a => if slotB p a then up p n ((p.slots.getD a.toNat (fun _ => -1)) 6) else a
def endB (p : PW) (a : Int) : Bool := slotB p (up p p.slots.length a)
theorem up_no {p : PW} {a : Int} (h : slotB p a = false) : ∀ n, up p n a = a
 | 0 => rfl
 | n + 1 => by unfold up; rw [h]; rfl
theorem slotB_in {p : PW} {a : Int} (h : slotB p a = true) : ∃ j : Nat, a = j ∧ j < p.slots.length := by
 have h2 := of_decide_eq_true h
 exact ⟨a.toNat, by omega, by omega⟩
theorem up_yes {p : PW} {j n : Nat} (hj : j < p.slots.length) : up p (n + 1) j = up p n (p.slots[j] 6) := by
 have h : slotB p (j : Int) = true := decide_eq_true (by omega)
 rw [up, h, if_pos rfl, Int.toNat_natCast, List.getD_eq_getElem?_getD, List.getElem?_eq_getElem hj]
 rfl
set_option maxRecDepth 100000 in
theorem isEndless_any (vb : Nat) (V : Nat → Value) (p : PW) (a : Int) (w : World) (hv : ViewAt w vb V p) :
  Calls Tryz.prog 94 #[.pointer (some ⟨vb, 0, none⟩), .int .i64 a] w fun r w' => r = .returned (.bool (endB p a)) ∧ w = w' := by
 have c2 : w.cell? ⟨vb, 2, none⟩ = some (V 2) := range_cell hv.r rfl
 obtain ⟨q, b, off, cap, e2, hq, hz⟩ := hv.v.slots
 have hl : (p.slots.length : Int) ≤ 1000 := by have := hv.f.slots; omega
 have HQ := hid hq
 have HZ := hid hz
 have HV := hid hv
 clear hv hq hz
 go_enter Tryz.func94, Tryz.ntmps94
 go_wp2_with fail
 go_loopw [1, 11] (fun t i wr => ∃ (k : Nat) (x : Int), k ≤ p.slots.length ∧ i = .int .i64 k ∧ t = .int .i64 x ∧ Hid (up p p.slots.length a = up p (p.slots.length - k) x) ∧ Hid (w = wr)) (fun _ i _ => p.slots.length - (intOf i).toNat)
 case atStart => exact ⟨0, a, by omega, rfl, rfl, hid rfl, hid rfl⟩
 case round =>
  obtain ⟨k, x, hk, rfl, rfl, HE, HW⟩ := hrel
  obtain rfl := HW.out
  by_cases hlt : k < p.slots.length
  ·have hlt2 : (k : Int) < (p.slots.length : Int) := by omega
   go_wp2_with fail
   refine (isSlot_any vb V p x w HV.out).mono ?_
   rintro r w1 ⟨rfl, rfl⟩
   cases hs : slotB p x with
   | false =>
    have HN := hid (show endB p a = false by unfold endB; rw [HE.out, up_no hs, hs])
    clear hs
    go_wp2_with fail
    go_ret
    exact ⟨by rw [HN.out]; rfl, rfl⟩
   | true =>
    obtain ⟨j, rfl, hj⟩ := slotB_in hs
    have hj2 : (j : Int) < (p.slots.length : Int) := by omega
    have hqe := HQ.out (by omega)
    subst hqe
    have c6 := range_at (HZ.out j hj) (cf_at 7 _ 6 (by omega))
    have HN := hid (show up p p.slots.length a = up p (p.slots.length - (k + 1)) (p.slots[j] 6) by
     rw [HE.out, show p.slots.length - k = (p.slots.length - (k + 1)) + 1 by omega, up_yes hj])
    generalize p.slots[j] 6 = y at c6 HN
    clear hs
    go_wp2_with fail
    exact ⟨⟨k + 1, y, by omega, by go_num, rfl, HN, hid (by simp)⟩, by simp [intOf]; omega⟩
  ·obtain rfl : k = p.slots.length := by omega
   have hge : ¬ ((p.slots.length : Int) < (p.slots.length : Int)) := by omega
   have HN := hid (show endB p a = slotB p x by unfold endB; rw [HE.out, Nat.sub_self]; rfl)
   go_wp2_with fail
   refine (isSlot_any vb V p x w HV.out).mono ?_
   rintro r w1 ⟨rfl, rfl⟩
   generalize slotB p x = bb at HN ⊢
   go_wp2_with fail
   go_ret
   exact ⟨by rw [HN.out]; rfl, rfl⟩
set_option maxRecDepth 100000 in
set_option maxHeartbeats 1000000 in
theorem canMake_any (f s : Nat → Int) (w : World) (hf : kc f = 0) :
  Calls Tryz.prog 138 #[.agg (kv f), .agg (kv s)] w fun r w' => r = .returned (.bool (cmB f s)) ∧ Below w.heap.size w w' := by
 obtain ⟨-, -, b0, b1, -, -, m0, m1, -, -, -, -⟩ := KP.chk_zero hf
 clear hf
 have HB := hid (show cmB f s = if f 0 = 1 then s 0 != 1 && decide (f 1 ≤ s 1 ∧ s 1 ≤ f 1 + f 3 - 1) else s 0 == f 0 && s 1 == f 1 && anB (s 4) (f 4) == 0 && (f 5 == 0 || s 5 == f 5) from rfl)
 have B0 := hid (bal (bal (Below.refl w.heap.size w) (.cells (kv f) 43)) (.cells (kv s) 43))
 unfold kv anB at *
 generalize f 0 = f0 at *
 generalize f 1 = f1 at *
 generalize f 2 = f2 at *
 generalize f 3 = f3 at *
 generalize f 4 = f4 at *
 generalize f 5 = f5 at *
 generalize s 0 = s0 at *
 generalize s 1 = s1 at *
 generalize s 2 = s2 at *
 generalize s 3 = s3 at *
 generalize s 4 = s4 at *
 generalize s 5 = s5 at *
 by_cases h1 : f0 = 1
 ·rw [if_pos h1] at HB
  subst h1
  by_cases h2 : s0 = 1
  ·subst h2
   go_enter Tryz.func138, Tryz.ntmps138
   go_wp2_with fail
   go_ret
   exact ⟨by rw [HB.out]; rfl, B0.out⟩
  ·have h22 : (s0 != 1) = true := by simpa using h2
   rw [h22, Bool.true_and] at HB
   go_enter Tryz.func138, Tryz.ntmps138
   go_wp2_with fail
   refine (within_any s1 f1 (f1 + f3 - 1) _).mono ?_
   rintro r w1 ⟨rfl, rfl⟩
   generalize decide (f1 ≤ s1 ∧ s1 ≤ f1 + f3 - 1) = bb at HB ⊢
   go_wp2_with fail
   go_ret
   exact ⟨by rw [HB.out]; rfl, B0.out⟩
 ·rw [if_neg h1] at HB
  have h12 : (f0 == 1) = false := by simpa using h1
  clear h1
  by_cases h2 : s0 = f0
  ·subst h2
   by_cases h3 : s1 = f1
   ·subst h3
    by_cases h4 : bits .andNot .i64 s4 f4 = 0
    ·have h42 : (bits .andNot .i64 s4 f4 == 0) = true := by simpa using h4
     by_cases h5 : f5 = 0
     ·subst h5
      go_enter Tryz.func138, Tryz.ntmps138
      go_wp2_with fail
      go_ret
      exact ⟨by rw [HB.out, h42]; simp, B0.out⟩
     ·have h52 : (f5 == 0) = false := by simpa using h5
      go_enter Tryz.func138, Tryz.ntmps138
      go_wp2_with fail
      go_ret
      exact ⟨by rw [HB.out, h42, h52]; simp, B0.out⟩
    ·have h42 : (bits .andNot .i64 s4 f4 == 0) = false := by simpa using h4
     have h43 : (bits .andNot .i64 s4 f4 != 0) = true := by simpa using h4
     go_enter Tryz.func138, Tryz.ntmps138
     go_wp2_with fail
     go_ret
     exact ⟨by rw [HB.out, h42]; simp, B0.out⟩
   ·have h32 : (s1 != f1) = true := by simpa using h3
    have h33 : (s1 == f1) = false := by simpa using h3
    go_enter Tryz.func138, Tryz.ntmps138
    go_wp2_with fail
    go_ret
    exact ⟨by rw [HB.out, h33]; simp, B0.out⟩
  ·have h22 : (s0 != f0) = true := by simpa using h2
   have h23 : (s0 == f0) = false := by simpa using h2
   go_enter Tryz.func138, Tryz.ntmps138
   go_wp2_with fail
   go_ret
   exact ⟨by rw [HB.out, h23]; simp, B0.out⟩
/-- May the key be, and is what it is to there? -/
def opB (p : PW) (s : Nat → Int) : Bool := kc s == 0 && decide (s 1 + s 2 ≤ (p.kinds.length : Int)) && (s 0 == 1 || isB p (s 1) (s 0))
theorem errV_no {k : Int} (h : ¬ k = 0) : errV k = .iface 29 (.int .i64 k) := by unfold errV; rw [if_neg h]
set_option maxRecDepth 100000 in
set_option maxHeartbeats 2000000 in
theorem opens_any (vb : Nat) (V : Nat → Value) (p : PW) (s : Nat → Int) (w : World) (hv : ViewAt w vb V p) (hk : 0 < p.kinds.length) :
  Calls Tryz.prog 92 #[.pointer (some ⟨vb, 0, none⟩), .agg (kv s)] w fun r w' => r = .returned (.bool (opB p s)) ∧ Below w.heap.size w w' := by
 have B0 := hid (bal (Below.refl w.heap.size w) (.cells (kv s) 43))
 have C0 := hid (cells_new w (kv s) 43)
 have R1 := hid (show ∀ W, Below w.heap.size w W → W.cell? ⟨vb, 1, none⟩ = some (V 1) from fun W hb => range_cell (hv.below hb).r rfl)
 obtain ⟨q, b, off, cap, e1, hq, hz⟩ := hv.v.kinds
 obtain rfl := hq hk
 rw [e1] at R1
 have hl : (p.kinds.length : Int) ≤ 1000 := by have := hv.f.kinds; omega
 have HZ := hid hz
 have S0 := hid (show (w.alloc (.cells (kv s) 43)).heap.size = w.heap.size + 1 by simp)
 have HC := hid (fun W => check_any (s 0) (s 1) (s 2) (s 3) (s 4) (s 5) W)
 have HB := hid (show opB p s = (KP.chk (s 0) (s 1) (s 2) (s 3) (s 4) (s 5) == 0 && decide (s 1 + s 2 ≤ (p.kinds.length : Int)) && (s 0 == 1 || isB p (s 1) (s 0))) from rfl)
 have HK := hid (show KP.chk (s 0) (s 1) (s 2) (s 3) (s 4) (s 5) = 0 → 0 ≤ s 1 ∧ s 1 ≤ 23 ∧ 0 ≤ s 2 ∧ s 2 ≤ 24 ∧ (s 1 + s 2 ≤ (p.kinds.length : Int) → s 1 < (p.kinds.length : Int)) from fun h => by
  obtain ⟨k0, k1, b0, b1, l0, l1, m0, m1, r0, r1, g0, g1⟩ := KP.chk_zero h
  refine ⟨b0, b1, l0, l1, fun h2 => ?_⟩
  rw [chk_plain] at h
  split at h
  ·omega
  split at h
  ·split at h
   ·omega
   ·omega
  split at h
  ·omega
  ·omega)
 have HI := hid (show ∀ j : Nat, (hj : j < p.kinds.length) → isB p (j : Int) (s 0) = (p.kinds[j] == s 0) from fun j hj => by unfold isB; rw [kindAt_some hj]; rfl)
 clear hv hq hz e1
 unfold kv at *
 generalize s 0 = s0 at *
 generalize s 1 = s1 at *
 generalize s 2 = s2 at *
 generalize s 3 = s3 at *
 generalize s 4 = s4 at *
 generalize s 5 = s5 at *
 generalize KP.chk s0 s1 s2 s3 s4 s5 = ck at HC HB HK
 go_enter Tryz.func92, Tryz.ntmps92
 go_wp2_with fail
 generalize World.alloc _ _ = W0 at B0 C0 S0 ⊢
 have KS := hid (show ∀ W, Below W0.heap.size W0 W → W.cell? ⟨w.heap.size, 0, none⟩ = some (.int .i64 s0) ∧ W.cell? ⟨w.heap.size, 1, none⟩ = some (.int .i64 s1) ∧ W.cell? ⟨w.heap.size, 2, none⟩ = some (.int .i64 s2) ∧ W.cell? ⟨w.heap.size, 3, none⟩ = some (.int .i64 s3) ∧ W.cell? ⟨w.heap.size, 4, none⟩ = some (.int .i64 s4) ∧ W.cell? ⟨w.heap.size, 5, none⟩ = some (.int .i64 s5) ∧ W.cell? ⟨vb, 1, none⟩ = some (.slice (some ⟨b, off, none⟩) p.kinds.length cap) from fun W hb => by
  have hlt : w.heap.size < W0.heap.size := by rw [S0.out]; omega
  exact ⟨cells_next C0.out hlt hb 0, cells_next C0.out hlt hb 1, cells_next C0.out hlt hb 2, cells_next C0.out hlt hb 3, cells_next C0.out hlt hb 4, cells_next C0.out hlt hb 5, R1.out W (btr B0.out hb)⟩)
 have BD : Hid (Below W0.heap.size W0 W0.drew) := hid (below_drew W0 1)
 by_cases h0 : ck = 0
 ·subst h0
  obtain ⟨b0, b1, l0, l1, hin⟩ := HK.out rfl
  rw [show errV 0 = .nilIface from rfl] at HC
  have hwr : IntKind.i64.wrap (s1 + s2) = s1 + s2 := wraps_i64 _ (by omega) (by omega)
  go_region_held3 (fun W => W.cell? ⟨w.heap.size, 0, none⟩ = some (.int .i64 s0) ∧ W.cell? ⟨w.heap.size, 1, none⟩ = some (.int .i64 s1) ∧ W.cell? ⟨w.heap.size, 2, none⟩ = some (.int .i64 s2) ∧ W.cell? ⟨w.heap.size, 3, none⟩ = some (.int .i64 s3) ∧ W.cell? ⟨w.heap.size, 4, none⟩ = some (.int .i64 s4) ∧ W.cell? ⟨w.heap.size, 5, none⟩ = some (.int .i64 s5) ∧ W.cell? ⟨vb, 1, none⟩ = some (.slice (some ⟨b, off, none⟩) p.kinds.length cap))
   (first | exact KS.out _ A1.out | exact KS.out _ BD.out)
   (first | (go_at_call 136; refine (HC.out _).mono ?_; rintro r w1 ⟨rfl, hb⟩; have A1 := hid (btr BD.out hb); clear hb))
  have KS2 := hid (fun W (hb : Below w1.heap.size w1 W) => KS.out W (btr A1.out hb))
  by_cases hs : s1 + s2 ≤ (p.kinds.length : Int)
  ·have hs2 : ¬ (p.kinds.length : Int) < s1 + s2 := by omega
   have h1l := hin hs
   obtain ⟨j, rfl⟩ : ∃ j : Nat, s1 = j := ⟨s1.toNat, by omega⟩
   have hj : j < p.kinds.length := by omega
   have cj := (HZ.out.below (btr B0.out A1.out)) j hj
   rw [HI.out j hj] at HB
   generalize p.kinds[j] = z at cj HB
   obtain ⟨g0, g1, -, -, -, -, g6⟩ := KS2.out w1 (Below.refl _ _)
   by_cases h1 : s0 = 1
   ·have HN := hid (show opB p s = true by rw [HB.out, decide_eq_true hs, h1]; rfl)
    subst h1
    clear HB HI HK hin
    go_wp2_with fail
    go_quiet (fail)
    have BB := hid (below_drewN (btr B0.out A1.out) nq)
    generalize World.drewN _ _ = W4 at BB ⊢
    go_wp2_with fail
    go_ret
    exact ⟨by rw [HN.out]; rfl, BB.out⟩
   ·have HN := hid (show opB p s = (z == s0) by rw [HB.out, decide_eq_true hs, show (s0 == 1) = false by simpa using h1]; simp)
    have h12 : (s0 == 1) = false := by simpa using h1
    clear HB HI HK hin h1
    go_wp2_with fail
    go_quiet (fail)
    have BB := hid (below_drewN (btr B0.out A1.out) nq)
    generalize World.drewN _ _ = W4 at BB ⊢
    go_wp2_with fail
    go_ret
    exact ⟨by rw [HN.out]; rfl, BB.out⟩
  ·have hs2 : (p.kinds.length : Int) < s1 + s2 := by omega
   have HN := hid (show opB p s = false by rw [HB.out, decide_eq_false hs]; simp)
   go_wp2_with fail
   go_ret
   exact ⟨by rw [HN.out]; rfl, btr B0.out A1.out⟩
 ·have HN := hid (show opB p s = false by rw [HB.out, show (ck == 0) = false by simpa using h0]; rfl)
  rw [errV_no h0] at HC
  refine wp_region_held_drew (S := fun W => W.cell? ⟨w.heap.size, 0, none⟩ = some (.int .i64 s0) ∧ W.cell? ⟨w.heap.size, 1, none⟩ = some (.int .i64 s1) ∧ W.cell? ⟨w.heap.size, 2, none⟩ = some (.int .i64 s2) ∧ W.cell? ⟨w.heap.size, 3, none⟩ = some (.int .i64 s3) ∧ W.cell? ⟨w.heap.size, 4, none⟩ = some (.int .i64 s4) ∧ W.cell? ⟨w.heap.size, 5, none⟩ = some (.int .i64 s5) ∧ W.cell? ⟨vb, 1, none⟩ = some (.slice (some ⟨b, off, none⟩) p.kinds.length cap)) (by kernel_rfl) (KS.out _ BD.out) (fun hH0 => ?_)
  have hH := hid hH0
  clear hH0
  refine tg 0 (.agg #[.int .i64 s0, .int .i64 s1, .int .i64 s2, .int .i64 s3, .int .i64 s4, .int .i64 s5]) rfl (Or.inl ⟨by rfl, fun W h => by obtain ⟨g0, g1, g2, g3, g4, g5, g6⟩ := h; go_simp⟩) hH.out ?_
  simp only [jj]
  refine wpAnyH_ready (rs := [1]) (by kernel_rfl) (by simp) (AllReadyH.cons rfl (fun K hK => ?_) AllReadyH.nil)
  go_simp
  refine (HC.out _).mono ?_
  rintro r w1 ⟨rfl, hb⟩
  have A1 := hid (btr BD.out hb)
  clear hb
  go_wp2_with fail
  refine hK.out _ _ (KS.out _ A1.out) (fun hH0 => ?_)
  have hH2 := hid hH0
  clear hK K hH0
  try simp only [Act.put, jD, jE, jF]
  refine tk 2 (.bool true) rfl hH2.out ?_
  simp only [jj]
  refine tk 3 (.bool true) rfl hH2.out ?_
  simp only [jj]
  refine tn 4 undef rfl hH2.out ?_
  simp only [jj]
  refine tn 5 undef rfl hH2.out ?_
  simp only [jj]
  refine tn 6 undef rfl hH2.out ?_
  simp only [jj]
  refine tn 7 undef rfl hH2.out ?_
  simp only [jj]
  refine tn 8 undef rfl hH2.out ?_
  simp only [jj]
  refine tn 9 undef rfl hH2.out ?_
  simp only [jj]
  refine tn 10 undef rfl hH2.out ?_
  simp only [jj]
  refine tn 11 undef rfl hH2.out ?_
  simp only [jj]
  refine tn 12 undef rfl hH2.out ?_
  simp only [jj]
  refine tn 13 undef rfl hH2.out ?_
  simp only [jj]
  refine tn 14 undef rfl hH2.out ?_
  simp only [jj]
  refine tn 15 undef rfl hH2.out ?_
  simp only [jj]
  refine tk 16 (.bool true) rfl hH2.out ?_
  simp only [jj]
  refine wpAnyH_done (by kernel_rfl) ?_ _
  clear hH hH2
  go_wp2_with fail
  go_ret
  exact ⟨by rw [HN.out]; rfl, btr B0.out A1.out⟩
/-- Is the slot's key made from none, or from one from which it can be made? -/
def fromV (p : PW) (s : Nat → Int) : Nat → Int := p.slots.getD (s 6).toNat fun _ => -1
def mdB (p : PW) (s : Nat → Int) : Bool := s 6 == -1 || (slotB p (s 6) && (kc (fromV p s) == 0 && cmB (fromV p s) s))
theorem range_at0 {W : World} {b o : Nat} {cs : List Value} {v : Value} (h : W.rangeAt b o cs) (hv : cs[0]? = some v) : W.cell? ⟨b, o, none⟩ = some v := by
 have := range_at h hv
 rwa [Nat.add_zero] at this
theorem slotV_cf (s : Nat → Int) : (cf 7 s).toArray = #[.int .i64 (s 0), .int .i64 (s 1), .int .i64 (s 2), .int .i64 (s 3), .int .i64 (s 4), .int .i64 (s 5), .int .i64 (s 6)] := rfl
set_option maxRecDepth 100000 in
set_option maxHeartbeats 2000000 in
theorem isMade_any (vb : Nat) (V : Nat → Value) (p : PW) (s : Nat → Int) (w : World) (hv : ViewAt w vb V p) :
  Calls Tryz.prog 93 #[.pointer (some ⟨vb, 0, none⟩), .agg (cf 7 s).toArray] w fun r w' => r = .returned (.bool (mdB p s)) ∧ Below w.heap.size w w' := by
 rw [slotV_cf]
 have B0 := hid (bal (Below.refl w.heap.size w) (.cells #[.int .i64 (s 0), .int .i64 (s 1), .int .i64 (s 2), .int .i64 (s 3), .int .i64 (s 4), .int .i64 (s 5), .int .i64 (s 6)] 45))
 have C0 := cells_new w #[.int .i64 (s 0), .int .i64 (s 1), .int .i64 (s 2), .int .i64 (s 3), .int .i64 (s 4), .int .i64 (s 5), .int .i64 (s 6)] 45
 have S0 := hid (show (w.alloc (.cells #[.int .i64 (s 0), .int .i64 (s 1), .int .i64 (s 2), .int .i64 (s 3), .int .i64 (s 4), .int .i64 (s 5), .int .i64 (s 6)] 45)).heap.size = w.heap.size + 1 by simp)
 have c2 : (w.alloc (.cells #[.int .i64 (s 0), .int .i64 (s 1), .int .i64 (s 2), .int .i64 (s 3), .int .i64 (s 4), .int .i64 (s 5), .int .i64 (s 6)] 45)).cell? ⟨vb, 2, none⟩ = some (V 2) := range_cell (hv.below B0.out).r rfl
 obtain ⟨q, b, off, cap, e2, hq, hz⟩ := hv.v.slots
 have hl : (p.slots.length : Int) ≤ 1000 := by have := hv.f.slots; omega
 have HV := hid (hv.below B0.out)
 have HQ := hid hq
 have HZ := hid hz
 clear hv hq hz
 have HB := hid (show mdB p s = (s 6 == -1 || (slotB p (s 6) && (kc (p.slots.getD (s 6).toNat fun _ => -1) == 0 && cmB (p.slots.getD (s 6).toNat fun _ => -1) s))) from rfl)
 generalize s 6 = x at *
 by_cases h6 : x = -1
 ·subst h6
  have HN := hid (show mdB p s = true by rw [HB.out]; rfl)
  go_enter Tryz.func93, Tryz.ntmps93
  go_wp2_with fail
  go_ret
  exact ⟨by rw [HN.out]; rfl, B0.out⟩
 have h62 : (x == -1) = false := by simpa using h6
 rw [h62, Bool.false_or] at HB
 cases hsl : slotB p x with
 | false =>
  have HN := hid (show mdB p s = false by rw [HB.out, hsl]; rfl)
  have HSL := hid hsl
  clear hsl HB
  go_enter Tryz.func93, Tryz.ntmps93
  go_wp2_with fail
  refine (isSlot_any vb V p x _ HV.out).mono ?_
  rintro r w1 ⟨rfl, rfl⟩
  rw [HSL.out]
  go_wp2_with fail
  go_ret
  exact ⟨by rw [HN.out]; rfl, B0.out⟩
 | true =>
  obtain ⟨j, rfl, hj⟩ := slotB_in hsl
  have hj2 : (j : Int) < (p.slots.length : Int) := by omega
  obtain rfl := HQ.out (by omega)
  have HF := hid (show mdB p s = (kc p.slots[j] == 0 && cmB p.slots[j] s) by
   rw [HB.out, hsl, Int.toNat_natCast, List.getD_eq_getElem?_getD, List.getElem?_eq_getElem hj]
   rfl)
  have HSL := hid hsl
  have RZ := hid (range_belowO (HZ.out j hj) B0.out)
  generalize p.slots[j] = f at HF RZ
  clear HB hsl h6
  go_enter Tryz.func93, Tryz.ntmps93
  go_wp2_with fail
  refine (isSlot_any vb V p j _ HV.out).mono ?_
  rintro r w1 ⟨rfl, rfl⟩
  rw [HSL.out]
  generalize World.alloc _ _ = W0 at *
  go_upto_region 5 with fail
  have KS := hid (show ∀ W, Below W0.heap.size W0 W → W.cell? ⟨vb, 2, none⟩ = some (V 2) ∧ W.cell? ⟨w.heap.size, 6, none⟩ = some (.int .i64 j) ∧ W.cell? ⟨b, off + j * 7, none⟩ = some (.int .i64 (f 0)) ∧ W.cell? ⟨b, off + j * 7 + 1, none⟩ = some (.int .i64 (f 1)) ∧ W.cell? ⟨b, off + j * 7 + 2, none⟩ = some (.int .i64 (f 2)) ∧ W.cell? ⟨b, off + j * 7 + 3, none⟩ = some (.int .i64 (f 3)) ∧ W.cell? ⟨b, off + j * 7 + 4, none⟩ = some (.int .i64 (f 4)) ∧ W.cell? ⟨b, off + j * 7 + 5, none⟩ = some (.int .i64 (f 5)) from fun W hb => by
   have hlt : w.heap.size < W0.heap.size := by rw [S0.out]; omega
   have RW := range_belowO RZ.out hb
   exact ⟨range_cell (HV.out.below hb).r rfl, cells_next C0 hlt hb 6, range_at0 RW (cf_at 7 _ 0 (by omega)), range_at RW (cf_at 7 _ 1 (by omega)), range_at RW (cf_at 7 _ 2 (by omega)), range_at RW (cf_at 7 _ 3 (by omega)), range_at RW (cf_at 7 _ 4 (by omega)), range_at RW (cf_at 7 _ 5 (by omega))⟩)
  rw [e2] at KS
  have BD : Hid (Below W0.heap.size W0 W0.drew) := hid (below_drew W0 1)
  have HCK := hid (fun W => check_any (f 0) (f 1) (f 2) (f 3) (f 4) (f 5) W)
  have HCM := hid (fun W (h : kc f = 0) => canMake_any f s W h)
  unfold kv at HCM
  have HKC := hid (show kc f = KP.chk (f 0) (f 1) (f 2) (f 3) (f 4) (f 5) from rfl)
  go_region_held3 (fun W => W.cell? ⟨vb, 2, none⟩ = some (.slice (some ⟨b, off, none⟩) p.slots.length cap) ∧ W.cell? ⟨w.heap.size, 6, none⟩ = some (.int .i64 j) ∧ W.cell? ⟨b, off + j * 7, none⟩ = some (.int .i64 (f 0)) ∧ W.cell? ⟨b, off + j * 7 + 1, none⟩ = some (.int .i64 (f 1)) ∧ W.cell? ⟨b, off + j * 7 + 2, none⟩ = some (.int .i64 (f 2)) ∧ W.cell? ⟨b, off + j * 7 + 3, none⟩ = some (.int .i64 (f 3)) ∧ W.cell? ⟨b, off + j * 7 + 4, none⟩ = some (.int .i64 (f 4)) ∧ W.cell? ⟨b, off + j * 7 + 5, none⟩ = some (.int .i64 (f 5)))
   (first | exact KS.out _ (bal BD.out _) | exact KS.out _ BD.out)
   (fail)
  have X1 := hid (show ∀ o, ((W0.alloc (.cells #[.int .i64 (f 0), .int .i64 (f 1), .int .i64 (f 2), .int .i64 (f 3), .int .i64 (f 4), .int .i64 (f 5)] 43)).drew).cell? ⟨W0.heap.size, o, none⟩ = (#[.int .i64 (f 0), .int .i64 (f 1), .int .i64 (f 2), .int .i64 (f 3), .int .i64 (f 4), .int .i64 (f 5)] : Array Value)[o]? from cells_new W0 #[.int .i64 (f 0), .int .i64 (f 1), .int .i64 (f 2), .int .i64 (f 3), .int .i64 (f 4), .int .i64 (f 5)] 43)
  have B1 := hid (show Below W0.heap.size W0 ((W0.alloc (.cells #[.int .i64 (f 0), .int .i64 (f 1), .int .i64 (f 2), .int .i64 (f 3), .int .i64 (f 4), .int .i64 (f 5)] 43)).drew) from btr (bal (Below.refl W0.heap.size W0) (.cells #[.int .i64 (f 0), .int .i64 (f 1), .int .i64 (f 2), .int .i64 (f 3), .int .i64 (f 4), .int .i64 (f 5)] 43)) (below_drew _ 1))
  have hlt : w.heap.size < W0.heap.size := by rw [S0.out]; omega
  have X0 := hid (cells_next C0 hlt B1.out)
  have hl1 : W0.heap.size < ((W0.alloc (.cells #[.int .i64 (f 0), .int .i64 (f 1), .int .i64 (f 2), .int .i64 (f 3), .int .i64 (f 4), .int .i64 (f 5)] 43)).drew).heap.size := World.block_lt_of_cell? _ ⟨W0.heap.size, 0, none⟩ (X1.out 0)
  have hl0 : w.heap.size < ((W0.alloc (.cells #[.int .i64 (f 0), .int .i64 (f 1), .int .i64 (f 2), .int .i64 (f 3), .int .i64 (f 4), .int .i64 (f 5)] 43)).drew).heap.size := by omega
  have HL1 := hid hl1
  have HL0 := hid hl0
  generalize World.drew _ = W1 at X1 B1 X0 HL1 HL0 ⊢
  clear KS BD C0 hlt hl1 hl0 RZ
  have x0 := X1.out 0
  have x1 := X1.out 1
  have x2 := X1.out 2
  have x3 := X1.out 3
  have x4 := X1.out 4
  have x5 := X1.out 5
  go_wp2_with fail
  refine (HCK.out W1).mono ?_
  rintro r w2 ⟨rfl, hb⟩
  have Y1 := hid (cells_next X1.out HL1.out hb)
  have Y0 := hid (cells_next X0.out HL0.out hb)
  have B2 := hid (btr B1.out hb)
  clear x0 x1 x2 x3 x4 x5 hb X0 X1
  by_cases hc : kc f = 0
  ·rw [← HKC.out, hc, show errV 0 = .nilIface from rfl]
   have HN := hid (show mdB p s = cmB f s by rw [HF.out, hc]; rfl)
   have HM := hid (fun W => HCM.out W hc)
   have x0 := Y1.out 0
   have x1 := Y1.out 1
   have x2 := Y1.out 2
   have x3 := Y1.out 3
   have x4 := Y1.out 4
   have x5 := Y1.out 5
   have y0 := Y0.out 0
   have y1 := Y0.out 1
   have y2 := Y0.out 2
   have y3 := Y0.out 3
   have y4 := Y0.out 4
   have y5 := Y0.out 5
   clear hc HCM HF HKC
   go_wp2_with fail
   refine (HM.out w2).mono ?_
   rintro r w3 ⟨rfl, hb⟩
   have B3 := hid (btr B2.out hb)
   clear x0 x1 x2 x3 x4 x5 y0 y1 y2 y3 y4 y5 hb
   generalize cmB f s = bb at HN ⊢
   go_wp2_with fail
   go_ret
   exact ⟨by rw [HN.out]; rfl, btr B0.out B3.out⟩
  ·rw [← HKC.out, errV_no hc]
   have HN := hid (show mdB p s = false by rw [HF.out, show (kc f == 0) = false by simpa using hc]; rfl)
   clear HCM HF HKC
   generalize kc f = kk at hc ⊢
   go_wp2_with fail
   go_ret
   exact ⟨by rw [HN.out]; rfl, btr B0.out B2.out⟩
end Go.Proofs.YtkocmkaeaagbaaaGreatDoor.Wd
