/- Reading instructions: the parts of a line; walked. (From the texts of stage 1.) -/
import Derived.Test.YtkocmkaeaagbaaaGreatDoorQbf
namespace Go.Proofs.YtkocmkaeaagbaaaGreatDoor.Prs
open Go.RowKit Go.Maps Go.Proofs.YtkocmkaeaagbaaaGreatDoor.Mem Go.Proofs.YtkocmkaeaagbaaaGreatDoor.Bw Go.Proofs.YtkocmkaeaagbaaaGreatDoor.Nums Go.Proofs.YtkocmkaeaagbaaaGreatDoor.Wd Go.Proofs.YtkocmkaeaagbaaaGreatDoor.Hex Go.Proofs.YtkocmkaeaagbaaaGreatDoor.Isa Go.Proofs.YtkocmkaeaagbaaaGreatDoor.Txt Go.Proofs.YtkocmkaeaagbaaaGreatDoor.Prs
/-- What parseParts answers. -/
def PartsDone (op : Int) (ib m r B : Nat) (G : Got) (w w' : World) (e : Ending) : Prop :=
 e = .returned (errV G.err) ∧ Below B w w' ∧ (G.err = 0 → LeftAt w' m r G.left ∧ ∀ o, w'.cell? ⟨ib, o, none⟩ = (#[.int .i64 op, .int .i64 G.a, .int .i64 G.b, .int .i64 G.i] : Array Value)[o]?)
set_option maxHeartbeats 4000000 in
theorem parseParts_fff (op : Int) (ib m r b n B : Nat) (D : DataW Unit) (ws : List ByteArray) (w : World) (ha : IP.hA op = false) (hb : IP.hB op = false) (hc : IP.hC op = false)
  (ci : ∀ o, w.cell? ⟨ib, o, none⟩ = (#[.int .i64 op, .int .i64 0, .int .i64 0, .int .i64 0] : Array Value)[o]?) (fi : ∀ o, w.frozen? ⟨ib, o, none⟩ = false)
  (hl : LeftAt w m r ws) (hM : MLok w) (hD : MapAt w b n D) (hmr : m ≠ r) (him : ib ≠ m) (hir : ib ≠ r) (hbB : b < B) (hB : B ≤ ib) (hmB : B ≤ m) (hrB : B ≤ r) (hG : 3 < B) (hib : ib < w.heap.size) (hmw : m < w.heap.size) (hrw : r < w.heap.size) :
  Calls Tryz.prog 223 #[.pointer (some ⟨ib, 0, none⟩), nextV m r, .map (some b)] w fun e w' => PartsDone op ib m r B (partsR regV (immR D) false false false ws) w w' e := by
 have HS := shape_any op w
 rw [ha, hb, hc] at HS
 have HSH := hid HS
 have L0 := hid hl
 have M0 := hid hM
 have D0 := hid hD
 have HD := hid (show ib ≠ m ∧ ib ≠ r ∧ b < B ∧ B ≤ ib ∧ B ≤ m ∧ B ≤ r ∧ 3 < B ∧ m ≠ r from ⟨him, hir, hbB, hB, hmB, hrB, hG, hmr⟩)
 clear HS hl hM hD ha hb hc hmr hbB hmB hrB hG
 go_enter Tryz.func223, Tryz.ntmps223
 go_wp2_with fail
 refine HSH.out.mono ?_
 rintro e w1 ⟨rfl, hb1⟩
 clear HSH
 have hsz : w.heap.size ≤ w1.heap.size := hb1.size
 have cz0 := cells_new w1 #[.bool false, .bool false, .bool false] 271
 have ci0 := cells_alloc (cells_next ci hib hb1) (by omega) (.cells #[.bool false, .bool false, .bool false] 271)
 have fi0 := froz_alloc (C := ib) (fun o => (hb1.frozen (p := ⟨ib, o, none⟩) hib).trans (fi o)) (by omega) (.cells #[.bool false, .bool false, .bool false] 271)
 have N0 := hid (bal hb1 (.cells #[.bool false, .bool false, .bool false] 271))
 have hs0 : (w1.alloc (.cells #[.bool false, .bool false, .bool false] 271)).heap.size = w1.heap.size + 1 := by simp
 clear hb1 ci fi
 have S0 := hid (show w.heap.size ≤ w1.heap.size ∧ w1.heap.size < (w1.alloc (.cells #[.bool false, .bool false, .bool false] 271)).heap.size by omega)
 replace L0 := hid (L0.out.keep N0.out hmw hrw)
 replace M0 := hid (M0.out.below N0.out)
 replace D0 := hid (D0.out.below N0.out)
 have B0 := hid (show Below B w _ from N0.out.mono (by omega))
 clear N0 hs0
 have HG := hid (show partsR regV (immR D) false false false ws = ⟨0, 0, 0, 0, ws⟩ by simp [partsR, stepW])
 go_wp2_with fail
 go_ret
 unfold PartsDone
 rw [HG.out]
 exact ⟨rfl, B0.out, fun _ => ⟨L0.out, ci0⟩⟩
set_option maxHeartbeats 4000000 in
theorem parseParts_tft (op : Int) (ib m r b n B : Nat) (D : DataW Unit) (ws : List ByteArray) (w : World) (ha : IP.hA op = true) (hb : IP.hB op = false) (hc : IP.hC op = true)
  (ci : ∀ o, w.cell? ⟨ib, o, none⟩ = (#[.int .i64 op, .int .i64 0, .int .i64 0, .int .i64 0] : Array Value)[o]?) (fi : ∀ o, w.frozen? ⟨ib, o, none⟩ = false)
  (hl : LeftAt w m r ws) (hM : MLok w) (hD : MapAt w b n D) (hmr : m ≠ r) (him : ib ≠ m) (hir : ib ≠ r) (hbB : b < B) (hB : B ≤ ib) (hmB : B ≤ m) (hrB : B ≤ r) (hG : 3 < B) (hib : ib < w.heap.size) (hmw : m < w.heap.size) (hrw : r < w.heap.size) :
  Calls Tryz.prog 223 #[.pointer (some ⟨ib, 0, none⟩), nextV m r, .map (some b)] w fun e w' => PartsDone op ib m r B (partsR regV (immR D) true false true ws) w w' e := by
 have HS := shape_any op w
 rw [ha, hb, hc] at HS
 have HSH := hid HS
 have L0 := hid hl
 have M0 := hid hM
 have D0 := hid hD
 have HD := hid (show ib ≠ m ∧ ib ≠ r ∧ b < B ∧ B ≤ ib ∧ B ≤ m ∧ B ≤ r ∧ 3 < B ∧ m ≠ r from ⟨him, hir, hbB, hB, hmB, hrB, hG, hmr⟩)
 clear HS hl hM hD ha hb hc hmr hbB hmB hrB hG
 go_enter Tryz.func223, Tryz.ntmps223
 go_wp2_with fail
 refine HSH.out.mono ?_
 rintro e w1 ⟨rfl, hb1⟩
 clear HSH
 have hsz : w.heap.size ≤ w1.heap.size := hb1.size
 have cz0 := cells_new w1 #[.bool true, .bool false, .bool true] 271
 have ci0 := cells_alloc (cells_next ci hib hb1) (by omega) (.cells #[.bool true, .bool false, .bool true] 271)
 have fi0 := froz_alloc (C := ib) (fun o => (hb1.frozen (p := ⟨ib, o, none⟩) hib).trans (fi o)) (by omega) (.cells #[.bool true, .bool false, .bool true] 271)
 have N0 := hid (bal hb1 (.cells #[.bool true, .bool false, .bool true] 271))
 have hs0 : (w1.alloc (.cells #[.bool true, .bool false, .bool true] 271)).heap.size = w1.heap.size + 1 := by simp
 clear hb1 ci fi
 have S0 := hid (show w.heap.size ≤ w1.heap.size ∧ w1.heap.size < (w1.alloc (.cells #[.bool true, .bool false, .bool true] 271)).heap.size by omega)
 replace L0 := hid (L0.out.keep N0.out hmw hrw)
 replace M0 := hid (M0.out.below N0.out)
 replace D0 := hid (D0.out.below N0.out)
 have B0 := hid (show Below B w _ from N0.out.mono (by omega))
 clear N0 hs0
 cases ws with
 | nil =>
  have HG := hid (show partsR regV (immR D) true false true [] = ⟨10, 0, 0, 0, []⟩ by simp [partsR, stepW])
  go_wp2_with (go_at_call 230; refine (next_none m r _ L0.out).mono ?_; rintro e wq ⟨rfl, rfl⟩)
  refine (parseReg_none _).mono ?_
  rintro e wz ⟨rfl, hbz⟩
  have ciz := cells_next ci0 (by have := S0.out; omega) hbz
  have fiz : ∀ o, wz.frozen? ⟨ib, o, none⟩ = false := fun o => (hbz.frozen (p := ⟨ib, o, none⟩) (by have := S0.out; show ib < _; omega)).trans (fi0 o)
  have Bz := hid (B0.out.trans (hbz.mono (by have := S0.out; omega)))
  clear hbz
  go_wp2_with fail
  go_ret
  unfold PartsDone
  rw [HG.out]
  exact ⟨rfl, Bz.out.setCell (p := ⟨ib, 1, none⟩) hB _, fun h => absurd h (by decide)⟩
 | cons x1 ws1 =>
  go_wp2_with (go_at_call 230; refine (next_some m r B x1 ws1 _ M0.out HD.out.2.2.2.2.2.2.2 HD.out.2.2.2.2.1 HD.out.2.2.2.2.2.1 L0.out).mono ?_; rintro e w1q ⟨rfl, hbq, hlq, hsq, hxq, hoq⟩)
  have ci1q : ∀ o, w1q.cell? ⟨ib, o, none⟩ = (#[.int .i64 op, .int .i64 0, .int .i64 0, .int .i64 0] : Array Value)[o]? := fun o => ((hoq ⟨ib, o, none⟩ him hir).1).trans (ci0 o)
  have fi1q : ∀ o, w1q.frozen? ⟨ib, o, none⟩ = false := fun o => ((hoq ⟨ib, o, none⟩ him hir).2).trans (fi0 o)
  have cz1q : ∀ o, w1q.cell? ⟨w1.heap.size, o, none⟩ = (#[.bool true, .bool false, .bool true] : Array Value)[o]? := fun o => ((hoq ⟨w1.heap.size, o, none⟩ (by show w1.heap.size ≠ m; omega) (by show w1.heap.size ≠ r; omega)).1).trans (cz0 o)
  have HX1 := hid hxq
  have L1q := hid hlq
  have M1q := hid (ml_keep M0.out hbq HD.out.2.2.2.2.2.2.1)
  have D1q := hid (D0.out.keep hbq HD.out.2.2.1)
  have B1q := hid (B0.out.trans hbq)
  have S1q := hid (show w.heap.size ≤ w1.heap.size ∧ w1.heap.size < w1q.heap.size by have := S0.out; omega)
  clear hbq hlq hsq hxq hoq
  refine (parseReg_some _ _).mono ?_
  rintro e w1z ⟨rfl, hbz⟩
  have ci1z := cells_next ci1q (by have := S1q.out; omega) hbz
  have fi1z : ∀ o, w1z.frozen? ⟨ib, o, none⟩ = false := fun o => (hbz.frozen (p := ⟨ib, o, none⟩) (by have := S1q.out; show ib < _; omega)).trans (fi1q o)
  have cz1z := cells_next cz1q (by have := S1q.out; omega) hbz
  have L1z := hid (L1q.out.keep hbz (by have := S1q.out; omega) (by have := S1q.out; omega))
  have M1z := hid (M1q.out.below hbz)
  have D1z := hid (D1q.out.below hbz)
  have B1z := hid (B1q.out.trans (hbz.mono (by have := S1q.out; omega)))
  have S1z := hid (show w.heap.size ≤ w1.heap.size ∧ w1.heap.size < w1z.heap.size by have := S1q.out; have := hbz.size; omega)
  clear hbz ci0 fi0 cz0 ci1q fi1q cz1q
  by_cases he : (regV x1).2 = 0
  ·rw [he, errV_zero]
   have HE1 := hid he
   clear he
   have ci1 : ∀ o, (w1z.setCell ⟨ib, 1, none⟩ (.int .i64 (regV x1).1)).cell? ⟨ib, o, none⟩ = (#[.int .i64 op, .int .i64 (regV x1).1, .int .i64 0, .int .i64 0] : Array Value)[o]? := cells_set ci1z 1 (by simp) _
   have fi1 : ∀ o, (w1z.setCell ⟨ib, 1, none⟩ (.int .i64 (regV x1).1)).frozen? ⟨ib, o, none⟩ = false := fun o => by simpa using fi1z o
   have cz1 := cells_far (i := 1) cz1z (show ib ≠ w1.heap.size by omega) (.int .i64 (regV x1).1)
   have L1 := hid (L1z.out.far (i := 1) him hir (.int .i64 (regV x1).1))
   have N1 := hid ((Below.refl B w1z).setCell (p := ⟨ib, 1, none⟩) hB (.int .i64 (regV x1).1))
   have M1 := hid (ml_keep M1z.out N1.out HD.out.2.2.2.2.2.2.1)
   have D1 := hid (D1z.out.keep N1.out HD.out.2.2.1)
   have B1 := hid (B1z.out.trans N1.out)
   have S1 := hid (show w.heap.size ≤ w1.heap.size ∧ w1.heap.size < (w1z.setCell ⟨ib, 1, none⟩ (.int .i64 (regV x1).1)).heap.size by have := S1z.out; rw [size_one]; omega)
   have hne : ib ≠ w1.heap.size := by omega
   cases ws1 with
   | nil =>
    have HG := hid (show partsR regV (immR D) true false true (x1 :: []) = ⟨10, 0, 0, 0, []⟩ by simp [partsR, stepW, HE1.out])
    go_wp2_with (go_at_call 230; refine (next_none m r _ L1.out).mono ?_; rintro e wq ⟨rfl, rfl⟩)
    refine (parseImm_none _ _).mono ?_
    rintro e wz ⟨rfl, hbz⟩
    have ciz := cells_next ci1 (by have := S1.out; omega) hbz
    have fiz : ∀ o, wz.frozen? ⟨ib, o, none⟩ = false := fun o => (hbz.frozen (p := ⟨ib, o, none⟩) (by have := S1.out; show ib < _; omega)).trans (fi1 o)
    have Bz := hid (B1.out.trans (hbz.mono (by have := S1.out; omega)))
    clear hbz
    go_wp2_with fail
    go_ret
    unfold PartsDone
    rw [HG.out]
    exact ⟨rfl, Bz.out.setCell (p := ⟨ib, 3, none⟩) hB _, fun h => absurd h (by decide)⟩
   | cons x2 ws2 =>
    go_wp2_with (go_at_call 230; refine (next_some m r B x2 ws2 _ M1.out HD.out.2.2.2.2.2.2.2 HD.out.2.2.2.2.1 HD.out.2.2.2.2.2.1 L1.out).mono ?_; rintro e w2q ⟨rfl, hbq, hlq, hsq, hxq, hoq⟩)
    have ci2q : ∀ o, w2q.cell? ⟨ib, o, none⟩ = (#[.int .i64 op, .int .i64 (regV x1).1, .int .i64 0, .int .i64 0] : Array Value)[o]? := fun o => ((hoq ⟨ib, o, none⟩ him hir).1).trans (ci1 o)
    have fi2q : ∀ o, w2q.frozen? ⟨ib, o, none⟩ = false := fun o => ((hoq ⟨ib, o, none⟩ him hir).2).trans (fi1 o)
    have cz2q : ∀ o, w2q.cell? ⟨w1.heap.size, o, none⟩ = (#[.bool true, .bool false, .bool true] : Array Value)[o]? := fun o => ((hoq ⟨w1.heap.size, o, none⟩ (by show w1.heap.size ≠ m; omega) (by show w1.heap.size ≠ r; omega)).1).trans (cz1 o)
    have HX2 := hid hxq
    have L2q := hid hlq
    have M2q := hid (ml_keep M1.out hbq HD.out.2.2.2.2.2.2.1)
    have D2q := hid (D1.out.keep hbq HD.out.2.2.1)
    have B2q := hid (B1.out.trans hbq)
    have S2q := hid (show w.heap.size ≤ w1.heap.size ∧ w1.heap.size < w2q.heap.size by have := S1.out; omega)
    clear hbq hlq hsq hxq hoq
    refine (parseImm_some _ _ _ _ _ D2q.out HX2.out).mono ?_
    rintro e w2z ⟨rfl, hbz⟩
    have ci2z := cells_next ci2q (by have := S2q.out; omega) hbz
    have fi2z : ∀ o, w2z.frozen? ⟨ib, o, none⟩ = false := fun o => (hbz.frozen (p := ⟨ib, o, none⟩) (by have := S2q.out; show ib < _; omega)).trans (fi2q o)
    have cz2z := cells_next cz2q (by have := S2q.out; omega) hbz
    have L2z := hid (L2q.out.keep hbz (by have := S2q.out; omega) (by have := S2q.out; omega))
    have M2z := hid (M2q.out.below hbz)
    have D2z := hid (D2q.out.below hbz)
    have B2z := hid (B2q.out.trans (hbz.mono (by have := S2q.out; omega)))
    have S2z := hid (show w.heap.size ≤ w1.heap.size ∧ w1.heap.size < w2z.heap.size by have := S2q.out; have := hbz.size; omega)
    clear hbz ci1 fi1 cz1 ci2q fi2q cz2q
    by_cases he : (immR D x2).2 = 0
    ·rw [he, errV_zero]
     have HE2 := hid he
     clear he
     have ci2 : ∀ o, (w2z.setCell ⟨ib, 3, none⟩ (.int .i64 (immR D x2).1)).cell? ⟨ib, o, none⟩ = (#[.int .i64 op, .int .i64 (regV x1).1, .int .i64 0, .int .i64 (immR D x2).1] : Array Value)[o]? := cells_set ci2z 3 (by simp) _
     have fi2 : ∀ o, (w2z.setCell ⟨ib, 3, none⟩ (.int .i64 (immR D x2).1)).frozen? ⟨ib, o, none⟩ = false := fun o => by simpa using fi2z o
     have cz2 := cells_far (i := 3) cz2z (show ib ≠ w1.heap.size by omega) (.int .i64 (immR D x2).1)
     have L2 := hid (L2z.out.far (i := 3) him hir (.int .i64 (immR D x2).1))
     have N2 := hid ((Below.refl B w2z).setCell (p := ⟨ib, 3, none⟩) hB (.int .i64 (immR D x2).1))
     have M2 := hid (ml_keep M2z.out N2.out HD.out.2.2.2.2.2.2.1)
     have D2 := hid (D2z.out.keep N2.out HD.out.2.2.1)
     have B2 := hid (B2z.out.trans N2.out)
     have S2 := hid (show w.heap.size ≤ w1.heap.size ∧ w1.heap.size < (w2z.setCell ⟨ib, 3, none⟩ (.int .i64 (immR D x2).1)).heap.size by have := S2z.out; rw [size_one]; omega)
     have hne : ib ≠ w1.heap.size := by omega
     have HG := hid (show partsR regV (immR D) true false true (x1 :: (x2 :: ws2)) = ⟨0, (regV x1).1, 0, (immR D x2).1, ws2⟩ by simp [partsR, stepW, HE1.out, HE2.out])
     go_wp2_with fail
     go_ret
     unfold PartsDone
     rw [HG.out]
     exact ⟨rfl, B2.out, fun _ => ⟨L2.out, ci2⟩⟩
    ·have HG := hid (show partsR regV (immR D) true false true (x1 :: (x2 :: ws2)) = ⟨(immR D x2).2, 0, 0, 0, []⟩ by simp [partsR, stepW, he, HE1.out])
     rw [errV_ne he]
     go_wp2_with fail
     go_ret
     unfold PartsDone
     rw [HG.out]
     exact ⟨by rw [errV_ne he]; rfl, B2z.out.setCell (p := ⟨ib, 3, none⟩) hB _, fun h => absurd h he⟩
  ·have HG := hid (show partsR regV (immR D) true false true (x1 :: ws1) = ⟨(regV x1).2, 0, 0, 0, []⟩ by simp [partsR, stepW, he])
   rw [errV_ne he]
   go_wp2_with fail
   go_ret
   unfold PartsDone
   rw [HG.out]
   exact ⟨by rw [errV_ne he]; rfl, B1z.out.setCell (p := ⟨ib, 1, none⟩) hB _, fun h => absurd h he⟩
set_option maxHeartbeats 4000000 in
theorem parseParts_ttt (op : Int) (ib m r b n B : Nat) (D : DataW Unit) (ws : List ByteArray) (w : World) (ha : IP.hA op = true) (hb : IP.hB op = true) (hc : IP.hC op = true)
  (ci : ∀ o, w.cell? ⟨ib, o, none⟩ = (#[.int .i64 op, .int .i64 0, .int .i64 0, .int .i64 0] : Array Value)[o]?) (fi : ∀ o, w.frozen? ⟨ib, o, none⟩ = false)
  (hl : LeftAt w m r ws) (hM : MLok w) (hD : MapAt w b n D) (hmr : m ≠ r) (him : ib ≠ m) (hir : ib ≠ r) (hbB : b < B) (hB : B ≤ ib) (hmB : B ≤ m) (hrB : B ≤ r) (hG : 3 < B) (hib : ib < w.heap.size) (hmw : m < w.heap.size) (hrw : r < w.heap.size) :
  Calls Tryz.prog 223 #[.pointer (some ⟨ib, 0, none⟩), nextV m r, .map (some b)] w fun e w' => PartsDone op ib m r B (partsR regV (immR D) true true true ws) w w' e := by
 have HS := shape_any op w
 rw [ha, hb, hc] at HS
 have HSH := hid HS
 have L0 := hid hl
 have M0 := hid hM
 have D0 := hid hD
 have HD := hid (show ib ≠ m ∧ ib ≠ r ∧ b < B ∧ B ≤ ib ∧ B ≤ m ∧ B ≤ r ∧ 3 < B ∧ m ≠ r from ⟨him, hir, hbB, hB, hmB, hrB, hG, hmr⟩)
 clear HS hl hM hD ha hb hc hmr hbB hmB hrB hG
 go_enter Tryz.func223, Tryz.ntmps223
 go_wp2_with fail
 refine HSH.out.mono ?_
 rintro e w1 ⟨rfl, hb1⟩
 clear HSH
 have hsz : w.heap.size ≤ w1.heap.size := hb1.size
 have cz0 := cells_new w1 #[.bool true, .bool true, .bool true] 271
 have ci0 := cells_alloc (cells_next ci hib hb1) (by omega) (.cells #[.bool true, .bool true, .bool true] 271)
 have fi0 := froz_alloc (C := ib) (fun o => (hb1.frozen (p := ⟨ib, o, none⟩) hib).trans (fi o)) (by omega) (.cells #[.bool true, .bool true, .bool true] 271)
 have N0 := hid (bal hb1 (.cells #[.bool true, .bool true, .bool true] 271))
 have hs0 : (w1.alloc (.cells #[.bool true, .bool true, .bool true] 271)).heap.size = w1.heap.size + 1 := by simp
 clear hb1 ci fi
 have S0 := hid (show w.heap.size ≤ w1.heap.size ∧ w1.heap.size < (w1.alloc (.cells #[.bool true, .bool true, .bool true] 271)).heap.size by omega)
 replace L0 := hid (L0.out.keep N0.out hmw hrw)
 replace M0 := hid (M0.out.below N0.out)
 replace D0 := hid (D0.out.below N0.out)
 have B0 := hid (show Below B w _ from N0.out.mono (by omega))
 clear N0 hs0
 cases ws with
 | nil =>
  have HG := hid (show partsR regV (immR D) true true true [] = ⟨10, 0, 0, 0, []⟩ by simp [partsR, stepW])
  go_wp2_with (go_at_call 230; refine (next_none m r _ L0.out).mono ?_; rintro e wq ⟨rfl, rfl⟩)
  refine (parseReg_none _).mono ?_
  rintro e wz ⟨rfl, hbz⟩
  have ciz := cells_next ci0 (by have := S0.out; omega) hbz
  have fiz : ∀ o, wz.frozen? ⟨ib, o, none⟩ = false := fun o => (hbz.frozen (p := ⟨ib, o, none⟩) (by have := S0.out; show ib < _; omega)).trans (fi0 o)
  have Bz := hid (B0.out.trans (hbz.mono (by have := S0.out; omega)))
  clear hbz
  go_wp2_with fail
  go_ret
  unfold PartsDone
  rw [HG.out]
  exact ⟨rfl, Bz.out.setCell (p := ⟨ib, 1, none⟩) hB _, fun h => absurd h (by decide)⟩
 | cons x1 ws1 =>
  go_wp2_with (go_at_call 230; refine (next_some m r B x1 ws1 _ M0.out HD.out.2.2.2.2.2.2.2 HD.out.2.2.2.2.1 HD.out.2.2.2.2.2.1 L0.out).mono ?_; rintro e w1q ⟨rfl, hbq, hlq, hsq, hxq, hoq⟩)
  have ci1q : ∀ o, w1q.cell? ⟨ib, o, none⟩ = (#[.int .i64 op, .int .i64 0, .int .i64 0, .int .i64 0] : Array Value)[o]? := fun o => ((hoq ⟨ib, o, none⟩ him hir).1).trans (ci0 o)
  have fi1q : ∀ o, w1q.frozen? ⟨ib, o, none⟩ = false := fun o => ((hoq ⟨ib, o, none⟩ him hir).2).trans (fi0 o)
  have cz1q : ∀ o, w1q.cell? ⟨w1.heap.size, o, none⟩ = (#[.bool true, .bool true, .bool true] : Array Value)[o]? := fun o => ((hoq ⟨w1.heap.size, o, none⟩ (by show w1.heap.size ≠ m; omega) (by show w1.heap.size ≠ r; omega)).1).trans (cz0 o)
  have HX1 := hid hxq
  have L1q := hid hlq
  have M1q := hid (ml_keep M0.out hbq HD.out.2.2.2.2.2.2.1)
  have D1q := hid (D0.out.keep hbq HD.out.2.2.1)
  have B1q := hid (B0.out.trans hbq)
  have S1q := hid (show w.heap.size ≤ w1.heap.size ∧ w1.heap.size < w1q.heap.size by have := S0.out; omega)
  clear hbq hlq hsq hxq hoq
  refine (parseReg_some _ _).mono ?_
  rintro e w1z ⟨rfl, hbz⟩
  have ci1z := cells_next ci1q (by have := S1q.out; omega) hbz
  have fi1z : ∀ o, w1z.frozen? ⟨ib, o, none⟩ = false := fun o => (hbz.frozen (p := ⟨ib, o, none⟩) (by have := S1q.out; show ib < _; omega)).trans (fi1q o)
  have cz1z := cells_next cz1q (by have := S1q.out; omega) hbz
  have L1z := hid (L1q.out.keep hbz (by have := S1q.out; omega) (by have := S1q.out; omega))
  have M1z := hid (M1q.out.below hbz)
  have D1z := hid (D1q.out.below hbz)
  have B1z := hid (B1q.out.trans (hbz.mono (by have := S1q.out; omega)))
  have S1z := hid (show w.heap.size ≤ w1.heap.size ∧ w1.heap.size < w1z.heap.size by have := S1q.out; have := hbz.size; omega)
  clear hbz ci0 fi0 cz0 ci1q fi1q cz1q
  by_cases he : (regV x1).2 = 0
  ·rw [he, errV_zero]
   have HE1 := hid he
   clear he
   have ci1 : ∀ o, (w1z.setCell ⟨ib, 1, none⟩ (.int .i64 (regV x1).1)).cell? ⟨ib, o, none⟩ = (#[.int .i64 op, .int .i64 (regV x1).1, .int .i64 0, .int .i64 0] : Array Value)[o]? := cells_set ci1z 1 (by simp) _
   have fi1 : ∀ o, (w1z.setCell ⟨ib, 1, none⟩ (.int .i64 (regV x1).1)).frozen? ⟨ib, o, none⟩ = false := fun o => by simpa using fi1z o
   have cz1 := cells_far (i := 1) cz1z (show ib ≠ w1.heap.size by omega) (.int .i64 (regV x1).1)
   have L1 := hid (L1z.out.far (i := 1) him hir (.int .i64 (regV x1).1))
   have N1 := hid ((Below.refl B w1z).setCell (p := ⟨ib, 1, none⟩) hB (.int .i64 (regV x1).1))
   have M1 := hid (ml_keep M1z.out N1.out HD.out.2.2.2.2.2.2.1)
   have D1 := hid (D1z.out.keep N1.out HD.out.2.2.1)
   have B1 := hid (B1z.out.trans N1.out)
   have S1 := hid (show w.heap.size ≤ w1.heap.size ∧ w1.heap.size < (w1z.setCell ⟨ib, 1, none⟩ (.int .i64 (regV x1).1)).heap.size by have := S1z.out; rw [size_one]; omega)
   have hne : ib ≠ w1.heap.size := by omega
   cases ws1 with
   | nil =>
    have HG := hid (show partsR regV (immR D) true true true (x1 :: []) = ⟨10, 0, 0, 0, []⟩ by simp [partsR, stepW, HE1.out])
    go_wp2_with (go_at_call 230; refine (next_none m r _ L1.out).mono ?_; rintro e wq ⟨rfl, rfl⟩)
    refine (parseReg_none _).mono ?_
    rintro e wz ⟨rfl, hbz⟩
    have ciz := cells_next ci1 (by have := S1.out; omega) hbz
    have fiz : ∀ o, wz.frozen? ⟨ib, o, none⟩ = false := fun o => (hbz.frozen (p := ⟨ib, o, none⟩) (by have := S1.out; show ib < _; omega)).trans (fi1 o)
    have Bz := hid (B1.out.trans (hbz.mono (by have := S1.out; omega)))
    clear hbz
    go_wp2_with fail
    go_ret
    unfold PartsDone
    rw [HG.out]
    exact ⟨rfl, Bz.out.setCell (p := ⟨ib, 2, none⟩) hB _, fun h => absurd h (by decide)⟩
   | cons x2 ws2 =>
    go_wp2_with (go_at_call 230; refine (next_some m r B x2 ws2 _ M1.out HD.out.2.2.2.2.2.2.2 HD.out.2.2.2.2.1 HD.out.2.2.2.2.2.1 L1.out).mono ?_; rintro e w2q ⟨rfl, hbq, hlq, hsq, hxq, hoq⟩)
    have ci2q : ∀ o, w2q.cell? ⟨ib, o, none⟩ = (#[.int .i64 op, .int .i64 (regV x1).1, .int .i64 0, .int .i64 0] : Array Value)[o]? := fun o => ((hoq ⟨ib, o, none⟩ him hir).1).trans (ci1 o)
    have fi2q : ∀ o, w2q.frozen? ⟨ib, o, none⟩ = false := fun o => ((hoq ⟨ib, o, none⟩ him hir).2).trans (fi1 o)
    have cz2q : ∀ o, w2q.cell? ⟨w1.heap.size, o, none⟩ = (#[.bool true, .bool true, .bool true] : Array Value)[o]? := fun o => ((hoq ⟨w1.heap.size, o, none⟩ (by show w1.heap.size ≠ m; omega) (by show w1.heap.size ≠ r; omega)).1).trans (cz1 o)
    have HX2 := hid hxq
    have L2q := hid hlq
    have M2q := hid (ml_keep M1.out hbq HD.out.2.2.2.2.2.2.1)
    have D2q := hid (D1.out.keep hbq HD.out.2.2.1)
    have B2q := hid (B1.out.trans hbq)
    have S2q := hid (show w.heap.size ≤ w1.heap.size ∧ w1.heap.size < w2q.heap.size by have := S1.out; omega)
    clear hbq hlq hsq hxq hoq
    refine (parseReg_some _ _).mono ?_
    rintro e w2z ⟨rfl, hbz⟩
    have ci2z := cells_next ci2q (by have := S2q.out; omega) hbz
    have fi2z : ∀ o, w2z.frozen? ⟨ib, o, none⟩ = false := fun o => (hbz.frozen (p := ⟨ib, o, none⟩) (by have := S2q.out; show ib < _; omega)).trans (fi2q o)
    have cz2z := cells_next cz2q (by have := S2q.out; omega) hbz
    have L2z := hid (L2q.out.keep hbz (by have := S2q.out; omega) (by have := S2q.out; omega))
    have M2z := hid (M2q.out.below hbz)
    have D2z := hid (D2q.out.below hbz)
    have B2z := hid (B2q.out.trans (hbz.mono (by have := S2q.out; omega)))
    have S2z := hid (show w.heap.size ≤ w1.heap.size ∧ w1.heap.size < w2z.heap.size by have := S2q.out; have := hbz.size; omega)
    clear hbz ci1 fi1 cz1 ci2q fi2q cz2q
    by_cases he : (regV x2).2 = 0
    ·rw [he, errV_zero]
     have HE2 := hid he
     clear he
     have ci2 : ∀ o, (w2z.setCell ⟨ib, 2, none⟩ (.int .i64 (regV x2).1)).cell? ⟨ib, o, none⟩ = (#[.int .i64 op, .int .i64 (regV x1).1, .int .i64 (regV x2).1, .int .i64 0] : Array Value)[o]? := cells_set ci2z 2 (by simp) _
     have fi2 : ∀ o, (w2z.setCell ⟨ib, 2, none⟩ (.int .i64 (regV x2).1)).frozen? ⟨ib, o, none⟩ = false := fun o => by simpa using fi2z o
     have cz2 := cells_far (i := 2) cz2z (show ib ≠ w1.heap.size by omega) (.int .i64 (regV x2).1)
     have L2 := hid (L2z.out.far (i := 2) him hir (.int .i64 (regV x2).1))
     have N2 := hid ((Below.refl B w2z).setCell (p := ⟨ib, 2, none⟩) hB (.int .i64 (regV x2).1))
     have M2 := hid (ml_keep M2z.out N2.out HD.out.2.2.2.2.2.2.1)
     have D2 := hid (D2z.out.keep N2.out HD.out.2.2.1)
     have B2 := hid (B2z.out.trans N2.out)
     have S2 := hid (show w.heap.size ≤ w1.heap.size ∧ w1.heap.size < (w2z.setCell ⟨ib, 2, none⟩ (.int .i64 (regV x2).1)).heap.size by have := S2z.out; rw [size_one]; omega)
     have hne : ib ≠ w1.heap.size := by omega
     cases ws2 with
     | nil =>
      have HG := hid (show partsR regV (immR D) true true true (x1 :: (x2 :: [])) = ⟨10, 0, 0, 0, []⟩ by simp [partsR, stepW, HE1.out, HE2.out])
      go_wp2_with (go_at_call 230; refine (next_none m r _ L2.out).mono ?_; rintro e wq ⟨rfl, rfl⟩)
      refine (parseImm_none _ _).mono ?_
      rintro e wz ⟨rfl, hbz⟩
      have ciz := cells_next ci2 (by have := S2.out; omega) hbz
      have fiz : ∀ o, wz.frozen? ⟨ib, o, none⟩ = false := fun o => (hbz.frozen (p := ⟨ib, o, none⟩) (by have := S2.out; show ib < _; omega)).trans (fi2 o)
      have Bz := hid (B2.out.trans (hbz.mono (by have := S2.out; omega)))
      clear hbz
      go_wp2_with fail
      go_ret
      unfold PartsDone
      rw [HG.out]
      exact ⟨rfl, Bz.out.setCell (p := ⟨ib, 3, none⟩) hB _, fun h => absurd h (by decide)⟩
     | cons x3 ws3 =>
      go_wp2_with (go_at_call 230; refine (next_some m r B x3 ws3 _ M2.out HD.out.2.2.2.2.2.2.2 HD.out.2.2.2.2.1 HD.out.2.2.2.2.2.1 L2.out).mono ?_; rintro e w3q ⟨rfl, hbq, hlq, hsq, hxq, hoq⟩)
      have ci3q : ∀ o, w3q.cell? ⟨ib, o, none⟩ = (#[.int .i64 op, .int .i64 (regV x1).1, .int .i64 (regV x2).1, .int .i64 0] : Array Value)[o]? := fun o => ((hoq ⟨ib, o, none⟩ him hir).1).trans (ci2 o)
      have fi3q : ∀ o, w3q.frozen? ⟨ib, o, none⟩ = false := fun o => ((hoq ⟨ib, o, none⟩ him hir).2).trans (fi2 o)
      have cz3q : ∀ o, w3q.cell? ⟨w1.heap.size, o, none⟩ = (#[.bool true, .bool true, .bool true] : Array Value)[o]? := fun o => ((hoq ⟨w1.heap.size, o, none⟩ (by show w1.heap.size ≠ m; omega) (by show w1.heap.size ≠ r; omega)).1).trans (cz2 o)
      have HX3 := hid hxq
      have L3q := hid hlq
      have M3q := hid (ml_keep M2.out hbq HD.out.2.2.2.2.2.2.1)
      have D3q := hid (D2.out.keep hbq HD.out.2.2.1)
      have B3q := hid (B2.out.trans hbq)
      have S3q := hid (show w.heap.size ≤ w1.heap.size ∧ w1.heap.size < w3q.heap.size by have := S2.out; omega)
      clear hbq hlq hsq hxq hoq
      refine (parseImm_some _ _ _ _ _ D3q.out HX3.out).mono ?_
      rintro e w3z ⟨rfl, hbz⟩
      have ci3z := cells_next ci3q (by have := S3q.out; omega) hbz
      have fi3z : ∀ o, w3z.frozen? ⟨ib, o, none⟩ = false := fun o => (hbz.frozen (p := ⟨ib, o, none⟩) (by have := S3q.out; show ib < _; omega)).trans (fi3q o)
      have cz3z := cells_next cz3q (by have := S3q.out; omega) hbz
      have L3z := hid (L3q.out.keep hbz (by have := S3q.out; omega) (by have := S3q.out; omega))
      have M3z := hid (M3q.out.below hbz)
      have D3z := hid (D3q.out.below hbz)
      have B3z := hid (B3q.out.trans (hbz.mono (by have := S3q.out; omega)))
      have S3z := hid (show w.heap.size ≤ w1.heap.size ∧ w1.heap.size < w3z.heap.size by have := S3q.out; have := hbz.size; omega)
      clear hbz ci2 fi2 cz2 ci3q fi3q cz3q
      by_cases he : (immR D x3).2 = 0
      ·rw [he, errV_zero]
       have HE3 := hid he
       clear he
       have ci3 : ∀ o, (w3z.setCell ⟨ib, 3, none⟩ (.int .i64 (immR D x3).1)).cell? ⟨ib, o, none⟩ = (#[.int .i64 op, .int .i64 (regV x1).1, .int .i64 (regV x2).1, .int .i64 (immR D x3).1] : Array Value)[o]? := cells_set ci3z 3 (by simp) _
       have fi3 : ∀ o, (w3z.setCell ⟨ib, 3, none⟩ (.int .i64 (immR D x3).1)).frozen? ⟨ib, o, none⟩ = false := fun o => by simpa using fi3z o
       have cz3 := cells_far (i := 3) cz3z (show ib ≠ w1.heap.size by omega) (.int .i64 (immR D x3).1)
       have L3 := hid (L3z.out.far (i := 3) him hir (.int .i64 (immR D x3).1))
       have N3 := hid ((Below.refl B w3z).setCell (p := ⟨ib, 3, none⟩) hB (.int .i64 (immR D x3).1))
       have M3 := hid (ml_keep M3z.out N3.out HD.out.2.2.2.2.2.2.1)
       have D3 := hid (D3z.out.keep N3.out HD.out.2.2.1)
       have B3 := hid (B3z.out.trans N3.out)
       have S3 := hid (show w.heap.size ≤ w1.heap.size ∧ w1.heap.size < (w3z.setCell ⟨ib, 3, none⟩ (.int .i64 (immR D x3).1)).heap.size by have := S3z.out; rw [size_one]; omega)
       have hne : ib ≠ w1.heap.size := by omega
       have HG := hid (show partsR regV (immR D) true true true (x1 :: (x2 :: (x3 :: ws3))) = ⟨0, (regV x1).1, (regV x2).1, (immR D x3).1, ws3⟩ by simp [partsR, stepW, HE1.out, HE2.out, HE3.out])
       go_wp2_with fail
       go_ret
       unfold PartsDone
       rw [HG.out]
       exact ⟨rfl, B3.out, fun _ => ⟨L3.out, ci3⟩⟩
      ·have HG := hid (show partsR regV (immR D) true true true (x1 :: (x2 :: (x3 :: ws3))) = ⟨(immR D x3).2, 0, 0, 0, []⟩ by simp [partsR, stepW, he, HE1.out, HE2.out])
       rw [errV_ne he]
       go_wp2_with fail
       go_ret
       unfold PartsDone
       rw [HG.out]
       exact ⟨by rw [errV_ne he]; rfl, B3z.out.setCell (p := ⟨ib, 3, none⟩) hB _, fun h => absurd h he⟩
    ·have HG := hid (show partsR regV (immR D) true true true (x1 :: (x2 :: ws2)) = ⟨(regV x2).2, 0, 0, 0, []⟩ by simp [partsR, stepW, he, HE1.out])
     rw [errV_ne he]
     go_wp2_with fail
     go_ret
     unfold PartsDone
     rw [HG.out]
     exact ⟨by rw [errV_ne he]; rfl, B2z.out.setCell (p := ⟨ib, 2, none⟩) hB _, fun h => absurd h he⟩
  ·have HG := hid (show partsR regV (immR D) true true true (x1 :: ws1) = ⟨(regV x1).2, 0, 0, 0, []⟩ by simp [partsR, stepW, he])
   rw [errV_ne he]
   go_wp2_with fail
   go_ret
   unfold PartsDone
   rw [HG.out]
   exact ⟨by rw [errV_ne he]; rfl, B1z.out.setCell (p := ⟨ib, 1, none⟩) hB _, fun h => absurd h he⟩
set_option maxHeartbeats 4000000 in
theorem parseParts_fft (op : Int) (ib m r b n B : Nat) (D : DataW Unit) (ws : List ByteArray) (w : World) (ha : IP.hA op = false) (hb : IP.hB op = false) (hc : IP.hC op = true)
  (ci : ∀ o, w.cell? ⟨ib, o, none⟩ = (#[.int .i64 op, .int .i64 0, .int .i64 0, .int .i64 0] : Array Value)[o]?) (fi : ∀ o, w.frozen? ⟨ib, o, none⟩ = false)
  (hl : LeftAt w m r ws) (hM : MLok w) (hD : MapAt w b n D) (hmr : m ≠ r) (him : ib ≠ m) (hir : ib ≠ r) (hbB : b < B) (hB : B ≤ ib) (hmB : B ≤ m) (hrB : B ≤ r) (hG : 3 < B) (hib : ib < w.heap.size) (hmw : m < w.heap.size) (hrw : r < w.heap.size) :
  Calls Tryz.prog 223 #[.pointer (some ⟨ib, 0, none⟩), nextV m r, .map (some b)] w fun e w' => PartsDone op ib m r B (partsR regV (immR D) false false true ws) w w' e := by
 have HS := shape_any op w
 rw [ha, hb, hc] at HS
 have HSH := hid HS
 have L0 := hid hl
 have M0 := hid hM
 have D0 := hid hD
 have HD := hid (show ib ≠ m ∧ ib ≠ r ∧ b < B ∧ B ≤ ib ∧ B ≤ m ∧ B ≤ r ∧ 3 < B ∧ m ≠ r from ⟨him, hir, hbB, hB, hmB, hrB, hG, hmr⟩)
 clear HS hl hM hD ha hb hc hmr hbB hmB hrB hG
 go_enter Tryz.func223, Tryz.ntmps223
 go_wp2_with fail
 refine HSH.out.mono ?_
 rintro e w1 ⟨rfl, hb1⟩
 clear HSH
 have hsz : w.heap.size ≤ w1.heap.size := hb1.size
 have cz0 := cells_new w1 #[.bool false, .bool false, .bool true] 271
 have ci0 := cells_alloc (cells_next ci hib hb1) (by omega) (.cells #[.bool false, .bool false, .bool true] 271)
 have fi0 := froz_alloc (C := ib) (fun o => (hb1.frozen (p := ⟨ib, o, none⟩) hib).trans (fi o)) (by omega) (.cells #[.bool false, .bool false, .bool true] 271)
 have N0 := hid (bal hb1 (.cells #[.bool false, .bool false, .bool true] 271))
 have hs0 : (w1.alloc (.cells #[.bool false, .bool false, .bool true] 271)).heap.size = w1.heap.size + 1 := by simp
 clear hb1 ci fi
 have S0 := hid (show w.heap.size ≤ w1.heap.size ∧ w1.heap.size < (w1.alloc (.cells #[.bool false, .bool false, .bool true] 271)).heap.size by omega)
 replace L0 := hid (L0.out.keep N0.out hmw hrw)
 replace M0 := hid (M0.out.below N0.out)
 replace D0 := hid (D0.out.below N0.out)
 have B0 := hid (show Below B w _ from N0.out.mono (by omega))
 clear N0 hs0
 cases ws with
 | nil =>
  have HG := hid (show partsR regV (immR D) false false true [] = ⟨10, 0, 0, 0, []⟩ by simp [partsR, stepW])
  go_wp2_with (go_at_call 230; refine (next_none m r _ L0.out).mono ?_; rintro e wq ⟨rfl, rfl⟩)
  refine (parseImm_none _ _).mono ?_
  rintro e wz ⟨rfl, hbz⟩
  have ciz := cells_next ci0 (by have := S0.out; omega) hbz
  have fiz : ∀ o, wz.frozen? ⟨ib, o, none⟩ = false := fun o => (hbz.frozen (p := ⟨ib, o, none⟩) (by have := S0.out; show ib < _; omega)).trans (fi0 o)
  have Bz := hid (B0.out.trans (hbz.mono (by have := S0.out; omega)))
  clear hbz
  go_wp2_with fail
  go_ret
  unfold PartsDone
  rw [HG.out]
  exact ⟨rfl, Bz.out.setCell (p := ⟨ib, 3, none⟩) hB _, fun h => absurd h (by decide)⟩
 | cons x1 ws1 =>
  go_wp2_with (go_at_call 230; refine (next_some m r B x1 ws1 _ M0.out HD.out.2.2.2.2.2.2.2 HD.out.2.2.2.2.1 HD.out.2.2.2.2.2.1 L0.out).mono ?_; rintro e w1q ⟨rfl, hbq, hlq, hsq, hxq, hoq⟩)
  have ci1q : ∀ o, w1q.cell? ⟨ib, o, none⟩ = (#[.int .i64 op, .int .i64 0, .int .i64 0, .int .i64 0] : Array Value)[o]? := fun o => ((hoq ⟨ib, o, none⟩ him hir).1).trans (ci0 o)
  have fi1q : ∀ o, w1q.frozen? ⟨ib, o, none⟩ = false := fun o => ((hoq ⟨ib, o, none⟩ him hir).2).trans (fi0 o)
  have cz1q : ∀ o, w1q.cell? ⟨w1.heap.size, o, none⟩ = (#[.bool false, .bool false, .bool true] : Array Value)[o]? := fun o => ((hoq ⟨w1.heap.size, o, none⟩ (by show w1.heap.size ≠ m; omega) (by show w1.heap.size ≠ r; omega)).1).trans (cz0 o)
  have HX1 := hid hxq
  have L1q := hid hlq
  have M1q := hid (ml_keep M0.out hbq HD.out.2.2.2.2.2.2.1)
  have D1q := hid (D0.out.keep hbq HD.out.2.2.1)
  have B1q := hid (B0.out.trans hbq)
  have S1q := hid (show w.heap.size ≤ w1.heap.size ∧ w1.heap.size < w1q.heap.size by have := S0.out; omega)
  clear hbq hlq hsq hxq hoq
  refine (parseImm_some _ _ _ _ _ D1q.out HX1.out).mono ?_
  rintro e w1z ⟨rfl, hbz⟩
  have ci1z := cells_next ci1q (by have := S1q.out; omega) hbz
  have fi1z : ∀ o, w1z.frozen? ⟨ib, o, none⟩ = false := fun o => (hbz.frozen (p := ⟨ib, o, none⟩) (by have := S1q.out; show ib < _; omega)).trans (fi1q o)
  have cz1z := cells_next cz1q (by have := S1q.out; omega) hbz
  have L1z := hid (L1q.out.keep hbz (by have := S1q.out; omega) (by have := S1q.out; omega))
  have M1z := hid (M1q.out.below hbz)
  have D1z := hid (D1q.out.below hbz)
  have B1z := hid (B1q.out.trans (hbz.mono (by have := S1q.out; omega)))
  have S1z := hid (show w.heap.size ≤ w1.heap.size ∧ w1.heap.size < w1z.heap.size by have := S1q.out; have := hbz.size; omega)
  clear hbz ci0 fi0 cz0 ci1q fi1q cz1q
  by_cases he : (immR D x1).2 = 0
  ·rw [he, errV_zero]
   have HE1 := hid he
   clear he
   have ci1 : ∀ o, (w1z.setCell ⟨ib, 3, none⟩ (.int .i64 (immR D x1).1)).cell? ⟨ib, o, none⟩ = (#[.int .i64 op, .int .i64 0, .int .i64 0, .int .i64 (immR D x1).1] : Array Value)[o]? := cells_set ci1z 3 (by simp) _
   have fi1 : ∀ o, (w1z.setCell ⟨ib, 3, none⟩ (.int .i64 (immR D x1).1)).frozen? ⟨ib, o, none⟩ = false := fun o => by simpa using fi1z o
   have cz1 := cells_far (i := 3) cz1z (show ib ≠ w1.heap.size by omega) (.int .i64 (immR D x1).1)
   have L1 := hid (L1z.out.far (i := 3) him hir (.int .i64 (immR D x1).1))
   have N1 := hid ((Below.refl B w1z).setCell (p := ⟨ib, 3, none⟩) hB (.int .i64 (immR D x1).1))
   have M1 := hid (ml_keep M1z.out N1.out HD.out.2.2.2.2.2.2.1)
   have D1 := hid (D1z.out.keep N1.out HD.out.2.2.1)
   have B1 := hid (B1z.out.trans N1.out)
   have S1 := hid (show w.heap.size ≤ w1.heap.size ∧ w1.heap.size < (w1z.setCell ⟨ib, 3, none⟩ (.int .i64 (immR D x1).1)).heap.size by have := S1z.out; rw [size_one]; omega)
   have hne : ib ≠ w1.heap.size := by omega
   have HG := hid (show partsR regV (immR D) false false true (x1 :: ws1) = ⟨0, 0, 0, (immR D x1).1, ws1⟩ by simp [partsR, stepW, HE1.out])
   go_wp2_with fail
   go_ret
   unfold PartsDone
   rw [HG.out]
   exact ⟨rfl, B1.out, fun _ => ⟨L1.out, ci1⟩⟩
  ·have HG := hid (show partsR regV (immR D) false false true (x1 :: ws1) = ⟨(immR D x1).2, 0, 0, 0, []⟩ by simp [partsR, stepW, he])
   rw [errV_ne he]
   go_wp2_with fail
   go_ret
   unfold PartsDone
   rw [HG.out]
   exact ⟨by rw [errV_ne he]; rfl, B1z.out.setCell (p := ⟨ib, 3, none⟩) hB _, fun h => absurd h he⟩
set_option maxHeartbeats 4000000 in
theorem parseParts_ttf (op : Int) (ib m r b n B : Nat) (D : DataW Unit) (ws : List ByteArray) (w : World) (ha : IP.hA op = true) (hb : IP.hB op = true) (hc : IP.hC op = false)
  (ci : ∀ o, w.cell? ⟨ib, o, none⟩ = (#[.int .i64 op, .int .i64 0, .int .i64 0, .int .i64 0] : Array Value)[o]?) (fi : ∀ o, w.frozen? ⟨ib, o, none⟩ = false)
  (hl : LeftAt w m r ws) (hM : MLok w) (hD : MapAt w b n D) (hmr : m ≠ r) (him : ib ≠ m) (hir : ib ≠ r) (hbB : b < B) (hB : B ≤ ib) (hmB : B ≤ m) (hrB : B ≤ r) (hG : 3 < B) (hib : ib < w.heap.size) (hmw : m < w.heap.size) (hrw : r < w.heap.size) :
  Calls Tryz.prog 223 #[.pointer (some ⟨ib, 0, none⟩), nextV m r, .map (some b)] w fun e w' => PartsDone op ib m r B (partsR regV (immR D) true true false ws) w w' e := by
 have HS := shape_any op w
 rw [ha, hb, hc] at HS
 have HSH := hid HS
 have L0 := hid hl
 have M0 := hid hM
 have D0 := hid hD
 have HD := hid (show ib ≠ m ∧ ib ≠ r ∧ b < B ∧ B ≤ ib ∧ B ≤ m ∧ B ≤ r ∧ 3 < B ∧ m ≠ r from ⟨him, hir, hbB, hB, hmB, hrB, hG, hmr⟩)
 clear HS hl hM hD ha hb hc hmr hbB hmB hrB hG
 go_enter Tryz.func223, Tryz.ntmps223
 go_wp2_with fail
 refine HSH.out.mono ?_
 rintro e w1 ⟨rfl, hb1⟩
 clear HSH
 have hsz : w.heap.size ≤ w1.heap.size := hb1.size
 have cz0 := cells_new w1 #[.bool true, .bool true, .bool false] 271
 have ci0 := cells_alloc (cells_next ci hib hb1) (by omega) (.cells #[.bool true, .bool true, .bool false] 271)
 have fi0 := froz_alloc (C := ib) (fun o => (hb1.frozen (p := ⟨ib, o, none⟩) hib).trans (fi o)) (by omega) (.cells #[.bool true, .bool true, .bool false] 271)
 have N0 := hid (bal hb1 (.cells #[.bool true, .bool true, .bool false] 271))
 have hs0 : (w1.alloc (.cells #[.bool true, .bool true, .bool false] 271)).heap.size = w1.heap.size + 1 := by simp
 clear hb1 ci fi
 have S0 := hid (show w.heap.size ≤ w1.heap.size ∧ w1.heap.size < (w1.alloc (.cells #[.bool true, .bool true, .bool false] 271)).heap.size by omega)
 replace L0 := hid (L0.out.keep N0.out hmw hrw)
 replace M0 := hid (M0.out.below N0.out)
 replace D0 := hid (D0.out.below N0.out)
 have B0 := hid (show Below B w _ from N0.out.mono (by omega))
 clear N0 hs0
 cases ws with
 | nil =>
  have HG := hid (show partsR regV (immR D) true true false [] = ⟨10, 0, 0, 0, []⟩ by simp [partsR, stepW])
  go_wp2_with (go_at_call 230; refine (next_none m r _ L0.out).mono ?_; rintro e wq ⟨rfl, rfl⟩)
  refine (parseReg_none _).mono ?_
  rintro e wz ⟨rfl, hbz⟩
  have ciz := cells_next ci0 (by have := S0.out; omega) hbz
  have fiz : ∀ o, wz.frozen? ⟨ib, o, none⟩ = false := fun o => (hbz.frozen (p := ⟨ib, o, none⟩) (by have := S0.out; show ib < _; omega)).trans (fi0 o)
  have Bz := hid (B0.out.trans (hbz.mono (by have := S0.out; omega)))
  clear hbz
  go_wp2_with fail
  go_ret
  unfold PartsDone
  rw [HG.out]
  exact ⟨rfl, Bz.out.setCell (p := ⟨ib, 1, none⟩) hB _, fun h => absurd h (by decide)⟩
 | cons x1 ws1 =>
  go_wp2_with (go_at_call 230; refine (next_some m r B x1 ws1 _ M0.out HD.out.2.2.2.2.2.2.2 HD.out.2.2.2.2.1 HD.out.2.2.2.2.2.1 L0.out).mono ?_; rintro e w1q ⟨rfl, hbq, hlq, hsq, hxq, hoq⟩)
  have ci1q : ∀ o, w1q.cell? ⟨ib, o, none⟩ = (#[.int .i64 op, .int .i64 0, .int .i64 0, .int .i64 0] : Array Value)[o]? := fun o => ((hoq ⟨ib, o, none⟩ him hir).1).trans (ci0 o)
  have fi1q : ∀ o, w1q.frozen? ⟨ib, o, none⟩ = false := fun o => ((hoq ⟨ib, o, none⟩ him hir).2).trans (fi0 o)
  have cz1q : ∀ o, w1q.cell? ⟨w1.heap.size, o, none⟩ = (#[.bool true, .bool true, .bool false] : Array Value)[o]? := fun o => ((hoq ⟨w1.heap.size, o, none⟩ (by show w1.heap.size ≠ m; omega) (by show w1.heap.size ≠ r; omega)).1).trans (cz0 o)
  have HX1 := hid hxq
  have L1q := hid hlq
  have M1q := hid (ml_keep M0.out hbq HD.out.2.2.2.2.2.2.1)
  have D1q := hid (D0.out.keep hbq HD.out.2.2.1)
  have B1q := hid (B0.out.trans hbq)
  have S1q := hid (show w.heap.size ≤ w1.heap.size ∧ w1.heap.size < w1q.heap.size by have := S0.out; omega)
  clear hbq hlq hsq hxq hoq
  refine (parseReg_some _ _).mono ?_
  rintro e w1z ⟨rfl, hbz⟩
  have ci1z := cells_next ci1q (by have := S1q.out; omega) hbz
  have fi1z : ∀ o, w1z.frozen? ⟨ib, o, none⟩ = false := fun o => (hbz.frozen (p := ⟨ib, o, none⟩) (by have := S1q.out; show ib < _; omega)).trans (fi1q o)
  have cz1z := cells_next cz1q (by have := S1q.out; omega) hbz
  have L1z := hid (L1q.out.keep hbz (by have := S1q.out; omega) (by have := S1q.out; omega))
  have M1z := hid (M1q.out.below hbz)
  have D1z := hid (D1q.out.below hbz)
  have B1z := hid (B1q.out.trans (hbz.mono (by have := S1q.out; omega)))
  have S1z := hid (show w.heap.size ≤ w1.heap.size ∧ w1.heap.size < w1z.heap.size by have := S1q.out; have := hbz.size; omega)
  clear hbz ci0 fi0 cz0 ci1q fi1q cz1q
  by_cases he : (regV x1).2 = 0
  ·rw [he, errV_zero]
   have HE1 := hid he
   clear he
   have ci1 : ∀ o, (w1z.setCell ⟨ib, 1, none⟩ (.int .i64 (regV x1).1)).cell? ⟨ib, o, none⟩ = (#[.int .i64 op, .int .i64 (regV x1).1, .int .i64 0, .int .i64 0] : Array Value)[o]? := cells_set ci1z 1 (by simp) _
   have fi1 : ∀ o, (w1z.setCell ⟨ib, 1, none⟩ (.int .i64 (regV x1).1)).frozen? ⟨ib, o, none⟩ = false := fun o => by simpa using fi1z o
   have cz1 := cells_far (i := 1) cz1z (show ib ≠ w1.heap.size by omega) (.int .i64 (regV x1).1)
   have L1 := hid (L1z.out.far (i := 1) him hir (.int .i64 (regV x1).1))
   have N1 := hid ((Below.refl B w1z).setCell (p := ⟨ib, 1, none⟩) hB (.int .i64 (regV x1).1))
   have M1 := hid (ml_keep M1z.out N1.out HD.out.2.2.2.2.2.2.1)
   have D1 := hid (D1z.out.keep N1.out HD.out.2.2.1)
   have B1 := hid (B1z.out.trans N1.out)
   have S1 := hid (show w.heap.size ≤ w1.heap.size ∧ w1.heap.size < (w1z.setCell ⟨ib, 1, none⟩ (.int .i64 (regV x1).1)).heap.size by have := S1z.out; rw [size_one]; omega)
   have hne : ib ≠ w1.heap.size := by omega
   cases ws1 with
   | nil =>
    have HG := hid (show partsR regV (immR D) true true false (x1 :: []) = ⟨10, 0, 0, 0, []⟩ by simp [partsR, stepW, HE1.out])
    go_wp2_with (go_at_call 230; refine (next_none m r _ L1.out).mono ?_; rintro e wq ⟨rfl, rfl⟩)
    refine (parseReg_none _).mono ?_
    rintro e wz ⟨rfl, hbz⟩
    have ciz := cells_next ci1 (by have := S1.out; omega) hbz
    have fiz : ∀ o, wz.frozen? ⟨ib, o, none⟩ = false := fun o => (hbz.frozen (p := ⟨ib, o, none⟩) (by have := S1.out; show ib < _; omega)).trans (fi1 o)
    have Bz := hid (B1.out.trans (hbz.mono (by have := S1.out; omega)))
    clear hbz
    go_wp2_with fail
    go_ret
    unfold PartsDone
    rw [HG.out]
    exact ⟨rfl, Bz.out.setCell (p := ⟨ib, 2, none⟩) hB _, fun h => absurd h (by decide)⟩
   | cons x2 ws2 =>
    go_wp2_with (go_at_call 230; refine (next_some m r B x2 ws2 _ M1.out HD.out.2.2.2.2.2.2.2 HD.out.2.2.2.2.1 HD.out.2.2.2.2.2.1 L1.out).mono ?_; rintro e w2q ⟨rfl, hbq, hlq, hsq, hxq, hoq⟩)
    have ci2q : ∀ o, w2q.cell? ⟨ib, o, none⟩ = (#[.int .i64 op, .int .i64 (regV x1).1, .int .i64 0, .int .i64 0] : Array Value)[o]? := fun o => ((hoq ⟨ib, o, none⟩ him hir).1).trans (ci1 o)
    have fi2q : ∀ o, w2q.frozen? ⟨ib, o, none⟩ = false := fun o => ((hoq ⟨ib, o, none⟩ him hir).2).trans (fi1 o)
    have cz2q : ∀ o, w2q.cell? ⟨w1.heap.size, o, none⟩ = (#[.bool true, .bool true, .bool false] : Array Value)[o]? := fun o => ((hoq ⟨w1.heap.size, o, none⟩ (by show w1.heap.size ≠ m; omega) (by show w1.heap.size ≠ r; omega)).1).trans (cz1 o)
    have HX2 := hid hxq
    have L2q := hid hlq
    have M2q := hid (ml_keep M1.out hbq HD.out.2.2.2.2.2.2.1)
    have D2q := hid (D1.out.keep hbq HD.out.2.2.1)
    have B2q := hid (B1.out.trans hbq)
    have S2q := hid (show w.heap.size ≤ w1.heap.size ∧ w1.heap.size < w2q.heap.size by have := S1.out; omega)
    clear hbq hlq hsq hxq hoq
    refine (parseReg_some _ _).mono ?_
    rintro e w2z ⟨rfl, hbz⟩
    have ci2z := cells_next ci2q (by have := S2q.out; omega) hbz
    have fi2z : ∀ o, w2z.frozen? ⟨ib, o, none⟩ = false := fun o => (hbz.frozen (p := ⟨ib, o, none⟩) (by have := S2q.out; show ib < _; omega)).trans (fi2q o)
    have cz2z := cells_next cz2q (by have := S2q.out; omega) hbz
    have L2z := hid (L2q.out.keep hbz (by have := S2q.out; omega) (by have := S2q.out; omega))
    have M2z := hid (M2q.out.below hbz)
    have D2z := hid (D2q.out.below hbz)
    have B2z := hid (B2q.out.trans (hbz.mono (by have := S2q.out; omega)))
    have S2z := hid (show w.heap.size ≤ w1.heap.size ∧ w1.heap.size < w2z.heap.size by have := S2q.out; have := hbz.size; omega)
    clear hbz ci1 fi1 cz1 ci2q fi2q cz2q
    by_cases he : (regV x2).2 = 0
    ·rw [he, errV_zero]
     have HE2 := hid he
     clear he
     have ci2 : ∀ o, (w2z.setCell ⟨ib, 2, none⟩ (.int .i64 (regV x2).1)).cell? ⟨ib, o, none⟩ = (#[.int .i64 op, .int .i64 (regV x1).1, .int .i64 (regV x2).1, .int .i64 0] : Array Value)[o]? := cells_set ci2z 2 (by simp) _
     have fi2 : ∀ o, (w2z.setCell ⟨ib, 2, none⟩ (.int .i64 (regV x2).1)).frozen? ⟨ib, o, none⟩ = false := fun o => by simpa using fi2z o
     have cz2 := cells_far (i := 2) cz2z (show ib ≠ w1.heap.size by omega) (.int .i64 (regV x2).1)
     have L2 := hid (L2z.out.far (i := 2) him hir (.int .i64 (regV x2).1))
     have N2 := hid ((Below.refl B w2z).setCell (p := ⟨ib, 2, none⟩) hB (.int .i64 (regV x2).1))
     have M2 := hid (ml_keep M2z.out N2.out HD.out.2.2.2.2.2.2.1)
     have D2 := hid (D2z.out.keep N2.out HD.out.2.2.1)
     have B2 := hid (B2z.out.trans N2.out)
     have S2 := hid (show w.heap.size ≤ w1.heap.size ∧ w1.heap.size < (w2z.setCell ⟨ib, 2, none⟩ (.int .i64 (regV x2).1)).heap.size by have := S2z.out; rw [size_one]; omega)
     have hne : ib ≠ w1.heap.size := by omega
     have HG := hid (show partsR regV (immR D) true true false (x1 :: (x2 :: ws2)) = ⟨0, (regV x1).1, (regV x2).1, 0, ws2⟩ by simp [partsR, stepW, HE1.out, HE2.out])
     go_wp2_with fail
     go_ret
     unfold PartsDone
     rw [HG.out]
     exact ⟨rfl, B2.out, fun _ => ⟨L2.out, ci2⟩⟩
    ·have HG := hid (show partsR regV (immR D) true true false (x1 :: (x2 :: ws2)) = ⟨(regV x2).2, 0, 0, 0, []⟩ by simp [partsR, stepW, he, HE1.out])
     rw [errV_ne he]
     go_wp2_with fail
     go_ret
     unfold PartsDone
     rw [HG.out]
     exact ⟨by rw [errV_ne he]; rfl, B2z.out.setCell (p := ⟨ib, 2, none⟩) hB _, fun h => absurd h he⟩
  ·have HG := hid (show partsR regV (immR D) true true false (x1 :: ws1) = ⟨(regV x1).2, 0, 0, 0, []⟩ by simp [partsR, stepW, he])
   rw [errV_ne he]
   go_wp2_with fail
   go_ret
   unfold PartsDone
   rw [HG.out]
   exact ⟨by rw [errV_ne he]; rfl, B1z.out.setCell (p := ⟨ib, 1, none⟩) hB _, fun h => absurd h he⟩
theorem parseParts_any (op : Int) (ib m r b n B : Nat) (D : DataW Unit) (ws : List ByteArray) (w : World)
  (ci : ∀ o, w.cell? ⟨ib, o, none⟩ = (#[.int .i64 op, .int .i64 0, .int .i64 0, .int .i64 0] : Array Value)[o]?) (fi : ∀ o, w.frozen? ⟨ib, o, none⟩ = false)
  (hl : LeftAt w m r ws) (hM : MLok w) (hD : MapAt w b n D) (hmr : m ≠ r) (him : ib ≠ m) (hir : ib ≠ r) (hbB : b < B) (hB : B ≤ ib) (hmB : B ≤ m) (hrB : B ≤ r) (hG : 3 < B) (hib : ib < w.heap.size) (hmw : m < w.heap.size) (hrw : r < w.heap.size) :
  Calls Tryz.prog 223 #[.pointer (some ⟨ib, 0, none⟩), nextV m r, .map (some b)] w fun e w' => PartsDone op ib m r B (partsR regV (immR D) (IP.hA op) (IP.hB op) (IP.hC op) ws) w w' e := by
 rcases shapes op with ⟨h1, h2, h3⟩ | ⟨h1, h2, h3⟩ | ⟨h1, h2, h3⟩ | ⟨h1, h2, h3⟩ | ⟨h1, h2, h3⟩
 all_goals rw [h1, h2, h3]
 ·exact parseParts_fff op ib m r b n B D ws w h1 h2 h3 ci fi hl hM hD hmr him hir hbB hB hmB hrB hG hib hmw hrw
 ·exact parseParts_tft op ib m r b n B D ws w h1 h2 h3 ci fi hl hM hD hmr him hir hbB hB hmB hrB hG hib hmw hrw
 ·exact parseParts_ttt op ib m r b n B D ws w h1 h2 h3 ci fi hl hM hD hmr him hir hbB hB hmB hrB hG hib hmw hrw
 ·exact parseParts_fft op ib m r b n B D ws w h1 h2 h3 ci fi hl hM hD hmr him hir hbB hB hmB hrB hG hib hmw hrw
 ·exact parseParts_ttf op ib m r b n B D ws w h1 h2 h3 ci fi hl hM hD hmr him hir hbB hB hmB hrB hG hib hmw hrw
end Go.Proofs.YtkocmkaeaagbaaaGreatDoor.Prs
