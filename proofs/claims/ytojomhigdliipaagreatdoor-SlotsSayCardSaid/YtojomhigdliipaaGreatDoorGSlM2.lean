/- The rest of GSlMore: what few laws reach. -/
import Derived.Test.YtojomhigdliipaaGreatDoorGSlMore
namespace Go.Proofs.YtojomhigdliipaaGreatDoor.Wd
open Go.RowKit Go.Proofs.YtojomhigdliipaaGreatDoor.Mem Go.Proofs.YtojomhigdliipaaGreatDoor.Bw Go.Proofs.YtojomhigdliipaaGreatDoor.Nums Go.Proofs.YtojomhigdliipaaGreatDoor.Mmu
theorem chk_not {w : World} {x : Value} {p : PW} (h : ChkV w x (wmA p)) (hs : sndB p = false) : ∃ t v, x = .iface t v := by
 unfold sndB at hs
 generalize wmA p = r at h hs
 rcases h with ⟨rfl, rfl⟩ | ⟨e, he, rfl, rfl⟩ | ⟨e, k, b, he, h0, h1, rfl, rfl⟩
 ·simp at hs
 ·exact ⟨_, _, rfl⟩
 ·exact ⟨_, _, rfl⟩
theorem snd_key {p : PW} (h : Snd p) {k : Nat} (hk : k < p.slots.length) (h0 : p.slots[k] 0 ≠ 0) : 0 ≤ p.slots[k] 1 ∧ 1 ≤ p.slots[k] 2 ∧ p.slots[k] 1 + p.slots[k] 2 ≤ (p.kinds.length : Int) ∧ 0 ≤ p.slots[k] 4 ∧ p.slots[k] 4 ≤ 7 := by
 have ho := snd_op h hk h0
 generalize p.slots[k] = s at h0 ho ⊢
 unfold opB at ho
 simp only [Bool.and_eq_true, beq_iff_eq, decide_eq_true_eq] at ho
 obtain ⟨b0, b1, l0, l1, r0, r1⟩ := key_bounds ho.1.1 h0
 exact ⟨b0, l0, ho.1.2, r0, r1⟩
theorem sAt_in {p : PW} (h : Snd p) {n a : Int} (h0 : (sAt p n a).2 = 0) : 0 ≤ (sAt p n a).1 ∧ (sAt p n a).1 < (p.slots.length : Int) := by
 unfold sAt at h0 ⊢
 have hl := h.lf.slots
 cases hi : isB p n 5 with
 | false => rw [hi] at h0; simp at h0
 | true =>
  obtain ⟨j, rfl, hj⟩ := isB_in hi
  rw [hi] at h0
  rw [if_pos rfl] at h0 ⊢
  cases hw : within 0 255 a with
  | false => rw [hw] at h0; simp at h0
  | true =>
   have hb := of_decide_eq_true hw
   rw [hw] at h0
   rw [if_pos rfl] at h0 ⊢
   by_cases h16 : a < 16
   ·rw [if_pos h16]
    simp only
    omega
   ·rw [if_neg h16] at h0 ⊢
    have hi2 : ((j : Int) * 16 + a / 16).toNat < p.slots.length := by omega
    rw [List.getD_eq_getElem?_getD, List.getElem?_eq_getElem hi2] at h0 ⊢
    simp only [Option.getD_some] at h0 ⊢
    split at h0
    ·rename_i h5
     rw [if_pos h5]
     have := snd_key h hi2 (by omega)
     simp only
     omega
    ·simp at h0
set_option maxRecDepth 100000 in
set_option maxHeartbeats 4000000 in
theorem slotAt_ref (vb : Nat) (V : Nat → Value) (p : PW) (n a : Int) (w : World) (hv : ViewAt w vb V p) (hs : Snd p) :
  Calls Tryz.prog 14 #[.pointer (some ⟨vb, 0, none⟩), .int .i64 n, .int .i64 a] w fun r w' => r = .returned (.tuple #[.int .i64 (sAt p n a).1, .int .i64 (sAt p n a).2]) ∧ Below w.heap.size w w' := by
 have HV := hid hv
 have HS := hid hs
 have RGc := hid hv.r
 have r2 : w.cell? ⟨vb, 2, none⟩ = some (V 2) := range_cell hv.r rfl
 obtain ⟨q2, b2, off2, cap2, e2, hq2, hz2⟩ := hv.v.slots
 have hl2 : (p.slots.length : Int) ≤ 1000 := by have := hv.f.slots; omega
 have hl1 : (p.kinds.length : Int) ≤ 1000 := by have := hv.f.kinds; omega
 have hsl : p.slots.length = p.kinds.length * 16 := hs.lf.slots
 have hk1 := hs.lf.k1
 obtain rfl := hq2 (by omega)
 have HZ2 := hid hz2
 have HSL := hid hsl
 clear hv hs hq2 hz2 hsl hk1
 cases hi : isB p n 5 with
 | false =>
  have HN := hid (show sAt p n a = (0, 3) by unfold sAt; rw [hi]; rfl)
  have hkz : ¬ (kindAt p n).getD (-1) = 5 := fun e => by
   rw [isB_kind (by decide), e] at hi
   simp at hi
  have KK := hid (kindOf_any V p n w HV.out.v HV.out.f)
  clear hi
  generalize (kindAt p n).getD (-1) = kz at hkz KK
  have hkb : (kz != 5) = true := by simpa using hkz
  clear hkz
  go_enter Tryz.func14, Tryz.ntmps14
  go_wp2_with (first | ((with_reducible (show wpList _ _ _ (⟨_, Op.load 28 _, _, _, _, _⟩ :: _) _ _)); refine wp_ldWg (by rfl) _ rfl _ rfl V RGc.out ?_))
  refine KK.out.mono ?_
  rintro r w1 ⟨rfl, hb⟩
  have BB := hid hb
  clear hb
  go_wp2_with fail
  go_ret2
  exact ⟨by rw [HN.out]; rfl, BB.out⟩
 | true =>
  obtain ⟨j, rfl, hj⟩ := isB_in hi
  have HI := hid hi
  have KK := hid (kindOf_any V p j w HV.out.v HV.out.f)
  rw [show (kindAt p j).getD (-1) = 5 by simpa [isB_kind (p := p) (f := (j : Int)) (k := 5) (by decide)] using hi] at KK
  have hj2 : (j : Int) < (p.kinds.length : Int) := by omega
  clear hi
  go_enter Tryz.func14, Tryz.ntmps14
  go_wp2_with (first | ((with_reducible (show wpList _ _ _ (⟨_, Op.load 28 _, _, _, _, _⟩ :: _) _ _)); refine wp_ldWg (by rfl) _ rfl _ rfl V RGc.out ?_))
  refine KK.out.mono ?_
  rintro r w1 ⟨rfl, hb⟩
  have BB := hid hb
  have g2 := (hb.cell (p := ⟨vb, 2, none⟩) (World.block_lt_of_cell? _ _ r2)).trans r2
  clear hb r2 KK
  go_wp2_with fail
  refine (farW a 255 _).mono ?_
  rintro r w2 ⟨rfl, rfl⟩
  cases hw : within 0 255 a with
  | false =>
   have HN := hid (show sAt p j a = (0, 2) by unfold sAt; rw [HI.out, hw]; rfl)
   clear hw
   go_wp2_with fail
   go_ret2
   exact ⟨by rw [HN.out]; rfl, BB.out⟩
  | true =>
   have hwb := of_decide_eq_true hw
   obtain ⟨m, rfl⟩ : ∃ m : Nat, a = m := ⟨a.toNat, by omega⟩
   have hm : (m : Int) ≤ 255 := hwb.2
   have HW := hid hw
   clear hw hwb
   by_cases h16 : (m : Int) < 16
   ·have HN := hid (show sAt p j m = ((j : Int) * 16 + m, 0) by unfold sAt; rw [HI.out, HW.out, if_pos rfl, if_pos rfl, if_pos h16])
    go_wp2_with fail
    go_ret2
    exact ⟨by rw [HN.out]; rfl, BB.out⟩
   ·have hx : j * 16 + m / 16 < p.slots.length := by have := HSL.out; omega
    have hx2 : ((j : Int) * 16 + (m : Int) / 16) = ((j * 16 + m / 16 : Nat) : Int) := by omega
    have RZ := range_belowO (HZ2.out (j * 16 + m / 16) hx) BB.out
    have HN := hid (show sAt p j m = if p.slots[j * 16 + m / 16] 0 = 5 then (p.slots[j * 16 + m / 16] 1 * 16 + (m : Int) % 16, 0) else (0, 3) by
     unfold sAt
     rw [HI.out, HW.out, if_pos rfl, if_pos rfl, if_neg h16, hx2, Int.toNat_natCast, List.getD_eq_getElem?_getD, List.getElem?_eq_getElem hx]
     rfl)
    have HB := hid (show KB p.slots[j * 16 + m / 16] from snd_kb HS.out _ (List.getElem_mem hx))
    generalize hy : j * 16 + m / 16 = y at *
    have hy2 : (y : Int) < (p.slots.length : Int) := by omega
    have x0 := range_at0 RZ (cf_at 7 _ 0 (by omega))
    have x1 := range_at RZ (cf_at 7 _ 1 (by omega))
    have x2 := range_at RZ (cf_at 7 _ 2 (by omega))
    have x3 := range_at RZ (cf_at 7 _ 3 (by omega))
    have x4 := range_at RZ (cf_at 7 _ 4 (by omega))
    have x5 := range_at RZ (cf_at 7 _ 5 (by omega))
    generalize p.slots[y] = s at *
    have hb0 := HB.out.b0
    have hb1 := HB.out.b1
    have BC := hid (bal BB.out (.cells #[.int .i64 (s 0), .int .i64 (s 1), .int .i64 (s 2), .int .i64 (s 3), .int .i64 (s 4), .int .i64 (s 5)] 40))
    clear RZ hx HB
    by_cases h5 : s 0 = 5
    ·have h5b : (s 0 != 5) = false := by simpa using h5
     rw [if_pos h5] at HN
     clear h5
     go_wp2_with fail
     go_ret2
     exact ⟨by rw [HN.out]; rfl, BC.out⟩
    ·have h5b : (s 0 != 5) = true := by simpa using h5
     rw [if_neg h5] at HN
     clear h5
     go_wp2_with fail
     go_ret2
     exact ⟨by rw [HN.out]; rfl, BC.out⟩
def kOf (s : Nat → Int) (k r : Int) : (Nat → Int) × Int :=
 if s 0 = 0 then (nkey, 6) else if s 0 = k then (if bits .and .i64 (s 4) r = r then (s, 0) else (nkey, 4)) else (nkey, 3)
def kAt (p : PW) (n a k r : Int) : (Nat → Int) × Int :=
 if (sAt p n a).2 = 0 then kOf (p.slots.getD (sAt p n a).1.toNat nkey) k r else (nkey, (sAt p n a).2)
theorem six_set {W : World} {B : Nat} {v0 v1 v2 v3 v4 v5 x0 x1 x2 x3 x4 x5 : Value} (h : ∀ o, W.cell? ⟨B, o, none⟩ = (#[x0, x1, x2, x3, x4, x5] : Array Value)[o]?) :
  ∀ o, ((((((W.setCell ⟨B, 0, none⟩ v0).setCell ⟨B, 1, none⟩ v1).setCell ⟨B, 2, none⟩ v2).setCell ⟨B, 3, none⟩ v3).setCell ⟨B, 4, none⟩ v4).setCell ⟨B, 5, none⟩ v5).cell? ⟨B, o, none⟩ = (#[v0, v1, v2, v3, v4, v5] : Array Value)[o]? :=
 cells_set (cells_set (cells_set (cells_set (cells_set (cells_set h 0 (by simp) v0) 1 (by simp) v1) 2 (by simp) v2) 3 (by simp) v3) 4 (by simp) v4) 5 (by simp) v5
theorem bset6 {w W : World} {v0 v1 v2 v3 v4 v5 : Value} (h : Below w.heap.size w W) : Below w.heap.size w ((((((W.setCell ⟨w.heap.size, 0, none⟩ v0).setCell ⟨w.heap.size, 1, none⟩ v1).setCell ⟨w.heap.size, 2, none⟩ v2).setCell ⟨w.heap.size, 3, none⟩ v3).setCell ⟨w.heap.size, 4, none⟩ v4).setCell ⟨w.heap.size, 5, none⟩ v5) :=
 bset (bset (bset (bset (bset (bset h (Nat.le_refl _) _) (Nat.le_refl _) _) (Nat.le_refl _) _) (Nat.le_refl _) _) (Nat.le_refl _) _) (Nat.le_refl _) _
set_option maxRecDepth 100000 in
set_option maxHeartbeats 4000000 in
theorem keyAt_ref (vb : Nat) (V : Nat → Value) (p : PW) (n a k r : Int) (w : World) (hv : ViewAt w vb V p) (hs : Snd p) :
  Calls Tryz.prog 15 #[.pointer (some ⟨vb, 0, none⟩), .int .i64 n, .int .i64 a, .int .i64 k, .int .i64 r] w fun x w' => x = .returned (.tuple #[.agg (kv (kAt p n a k r).1), .int .i64 (kAt p n a k r).2]) ∧ Below w.heap.size w w' := by
 have HV := hid hv
 have HS := hid hs
 have RGc := hid hv.r
 have r2 : w.cell? ⟨vb, 2, none⟩ = some (V 2) := range_cell hv.r rfl
 obtain ⟨q2, b2, off2, cap2, e2, hq2, hz2⟩ := hv.v.slots
 have hl2 : (p.slots.length : Int) ≤ 1000 := by have := hv.f.slots; omega
 have hl1 : (p.kinds.length : Int) ≤ 1000 := by have := hv.f.kinds; omega
 have hsl : p.slots.length = p.kinds.length * 16 := hs.lf.slots
 have hk1 := hs.lf.k1
 obtain rfl := hq2 (by omega)
 have HZ2 := hid hz2
 have HSL := hid hsl
 clear hv hs hq2 hz2 hsl hk1
 have Z6 := hid (show ∀ W : World, Below W.heap.size W (W.alloc (.cells #[.int .i64 0, .int .i64 0, .int .i64 0, .int .i64 0, .int .i64 0, .int .i64 0] 40)) from fun W => bal (Below.refl _ _) _)
 have KK := hid (fun W (hb : Below w.heap.size w W) => slotAt_ref vb V p n a W ⟨range_below HV.out.r hb, HV.out.v.below hb, HV.out.f⟩ HS.out)
 have HIN := hid (fun h => sAt_in HS.out (n := n) (a := a) h)
 have HN0 := hid (show kAt p n a k r = if (sAt p n a).2 = 0 then kOf (p.slots.getD (sAt p n a).1.toNat nkey) k r else (nkey, (sAt p n a).2) from rfl)
 generalize (sAt p n a).1 = t at KK HIN HN0
 generalize (sAt p n a).2 = e at KK HIN HN0
 go_enter Tryz.func15, Tryz.ntmps15
 go_wp2_with fail
 refine (KK.out _ (Z6.out w)).mono ?_
 rintro r1 w1 ⟨rfl, hb⟩
 have BB := hid (btr (Z6.out w) hb)
 have CZ := cells_next (cells_new w #[.int .i64 0, .int .i64 0, .int .i64 0, .int .i64 0, .int .i64 0, .int .i64 0] 40) (by simp) hb
 have FZ : ∀ o, w1.frozen? ⟨w.heap.size, o, none⟩ = false := fun o => (hb.frozen (p := ⟨w.heap.size, o, none⟩) (by simp)).trans (World.frozen?_alloc_at _ _ _ _ rfl)
 have SZ := hid (show w.heap.size < w1.heap.size by have := hb.size; simp at this; omega)
 have g2 := (BB.out.cell (p := ⟨vb, 2, none⟩) (World.block_lt_of_cell? _ _ r2)).trans r2
 clear hb r2 KK
 by_cases he : e = 0
 rotate_left
 ·have heb : (e != 0) = true := by simpa using he
  have HN := hid (show kAt p n a k r = (nkey, e) by rw [HN0.out, if_neg he])
  clear he HN0 HIN
  go_wp2_with fail
  have q := six_set (v0 := .int .i64 0) (v1 := .int .i64 0) (v2 := .int .i64 0) (v3 := .int .i64 0) (v4 := .int .i64 0) (v5 := .int .i64 0) CZ
  exact bodyPost_ret (v := .tuple #[.agg (kv nkey), .int .i64 e]) (by simp [results, Tryz.results15, go_sem, kv, nkey, q 0, q 1, q 2, q 3, q 4, q 5]) rfl ⟨by rw [HN.out], bset6 BB.out⟩
 subst he
 obtain ⟨t0, t1⟩ := HIN.out rfl
 obtain ⟨y, rfl⟩ : ∃ y : Nat, t = y := ⟨t.toNat, by omega⟩
 have hy : y < p.slots.length := by omega
 have RZ := range_belowO (HZ2.out y hy) BB.out
 have HN1 := hid (show kAt p n a k r = kOf p.slots[y] k r by rw [HN0.out, if_pos rfl, Int.toNat_natCast, List.getD_eq_getElem?_getD, List.getElem?_eq_getElem hy]; rfl)
 have x0 := range_at0 RZ (cf_at 7 _ 0 (by omega))
 have x1 := range_at RZ (cf_at 7 _ 1 (by omega))
 have x2 := range_at RZ (cf_at 7 _ 2 (by omega))
 have x3 := range_at RZ (cf_at 7 _ 3 (by omega))
 have x4 := range_at RZ (cf_at 7 _ 4 (by omega))
 have x5 := range_at RZ (cf_at 7 _ 5 (by omega))
 generalize p.slots[y] = s at *
 have C2 := cells_new w1 #[.int .i64 (s 0), .int .i64 (s 1), .int .i64 (s 2), .int .i64 (s 3), .int .i64 (s 4), .int .i64 (s 5)] 40
 have CY := cells_alloc CZ SZ.out (.cells #[.int .i64 (s 0), .int .i64 (s 1), .int .i64 (s 2), .int .i64 (s 3), .int .i64 (s 4), .int .i64 (s 5)] 40)
 have FY := froz_alloc FZ SZ.out (.cells #[.int .i64 (s 0), .int .i64 (s 1), .int .i64 (s 2), .int .i64 (s 3), .int .i64 (s 4), .int .i64 (s 5)] 40)
 have BC := hid (bal BB.out (.cells #[.int .i64 (s 0), .int .i64 (s 1), .int .i64 (s 2), .int .i64 (s 3), .int .i64 (s 4), .int .i64 (s 5)] 40))
 clear RZ hy HN0 HIN CZ FZ HZ2
 by_cases h0 : s 0 = 0
 ·have h0b : (s 0 == 0) = true := by simpa using h0
  have HN := hid (show kAt p n a k r = (nkey, 6) by rw [HN1.out]; unfold kOf; rw [if_pos h0])
  clear h0
  go_wp2_with fail
  have q := six_set (v0 := .int .i64 0) (v1 := .int .i64 0) (v2 := .int .i64 0) (v3 := .int .i64 0) (v4 := .int .i64 0) (v5 := .int .i64 0) CY
  exact bodyPost_ret (v := .tuple #[.agg (kv nkey), .int .i64 6]) (by simp [results, Tryz.results15, go_sem, kv, nkey, q 0, q 1, q 2, q 3, q 4, q 5]) rfl ⟨by rw [HN.out], bset6 BC.out⟩
 have h0b : (s 0 == 0) = false := by simpa using h0
 by_cases h1 : s 0 = k
 rotate_left
 ·have h1b : (s 0 != k) = true := by simpa using h1
  have HN := hid (show kAt p n a k r = (nkey, 3) by rw [HN1.out]; unfold kOf; rw [if_neg h0, if_neg h1])
  clear h0 h1
  go_wp2_with fail
  have q := six_set (v0 := .int .i64 0) (v1 := .int .i64 0) (v2 := .int .i64 0) (v3 := .int .i64 0) (v4 := .int .i64 0) (v5 := .int .i64 0) CY
  exact bodyPost_ret (v := .tuple #[.agg (kv nkey), .int .i64 3]) (by simp [results, Tryz.results15, go_sem, kv, nkey, q 0, q 1, q 2, q 3, q 4, q 5]) rfl ⟨by rw [HN.out], bset6 BC.out⟩
 have h1b : (s 0 != k) = false := by simpa using h1
 by_cases h4 : bits .and .i64 (s 4) r = r
 rotate_left
 ·have h4b : (bits .and .i64 (s 4) r != r) = true := by simpa using h4
  have HN := hid (show kAt p n a k r = (nkey, 4) by rw [HN1.out]; unfold kOf; rw [if_neg h0, if_pos h1, if_neg h4])
  clear h0 h1 h4
  go_wp2_with fail
  have q := six_set (v0 := .int .i64 0) (v1 := .int .i64 0) (v2 := .int .i64 0) (v3 := .int .i64 0) (v4 := .int .i64 0) (v5 := .int .i64 0) CY
  exact bodyPost_ret (v := .tuple #[.agg (kv nkey), .int .i64 4]) (by simp [results, Tryz.results15, go_sem, kv, nkey, q 0, q 1, q 2, q 3, q 4, q 5]) rfl ⟨by rw [HN.out], bset6 BC.out⟩
 have h4b : (bits .and .i64 (s 4) r != r) = false := by simpa using h4
 have HN := hid (show kAt p n a k r = (s, 0) by rw [HN1.out]; unfold kOf; rw [if_neg h0, if_pos h1, if_pos h4])
 clear h0 h1 h4
 go_wp2_with fail
 have q := six_set (v0 := .int .i64 (s 0)) (v1 := .int .i64 (s 1)) (v2 := .int .i64 (s 2)) (v3 := .int .i64 (s 3)) (v4 := .int .i64 (s 4)) (v5 := .int .i64 (s 5)) CY
 exact bodyPost_ret (v := .tuple #[.agg (kv s), .int .i64 0]) (by simp [results, Tryz.results15, go_sem, kv, q 0, q 1, q 2, q 3, q 4, q 5]) rfl ⟨by rw [HN.out], bset6 BC.out⟩
/-- 'a &^ b' is nothing where 'b & a' is a. -/
theorem and_not (a b : Int) (h : -9223372036854775808 ≤ a ∧ a ≤ 9223372036854775807) : bits .and .i64 b a = a ↔ bits .andNot .i64 a b = 0 := by
 have hw : ∀ n : Nat, n < 18446744073709551616 → ∀ z : Int, (-9223372036854775808 ≤ z ∧ z ≤ 9223372036854775807) → (IntKind.i64.wrap (n : Int) = z ↔ (n : Int) = z % 18446744073709551616) := fun n hn z hz => by
  rw [IntKind.wrap_i64]
  omega
 have e1 : bits .and .i64 b a = IntKind.i64.wrap ((BitVec.ofInt 64 b &&& BitVec.ofInt 64 a).toNat : Int) := rfl
 have e2 : bits .andNot .i64 a b = IntKind.i64.wrap ((BitVec.ofInt 64 a &&& ~~~ BitVec.ofInt 64 b).toNat : Int) := rfl
 have ha : ((BitVec.ofInt 64 a).toNat : Int) = a % 18446744073709551616 := by
  rw [BitVec.toNat_ofInt]
  omega
 rw [e1, e2, hw _ (BitVec.isLt _) a h, hw _ (BitVec.isLt _) 0 (by decide), ← ha]
 generalize BitVec.ofInt 64 a = A
 generalize BitVec.ofInt 64 b = B
 have k1 : (((B &&& A).toNat : Int) = (A.toNat : Int)) ↔ B &&& A = A := ⟨fun e => BitVec.eq_of_toNat_eq (by omega), fun e => by rw [e]⟩
 have k2 : (((A &&& ~~~ B).toNat : Int) = 0 % 18446744073709551616) ↔ A &&& ~~~ B = 0#64 := ⟨fun e => BitVec.eq_of_toNat_eq (by simpa using e), fun e => by rw [e]; rfl⟩
 rw [k1, k2]
 constructor
 ·intro e
  refine BitVec.eq_of_getLsbD_eq fun i hi => ?_
  have := congrArg (fun x => x.getLsbD i) e
  simp at this ⊢
  intro g
  exact fun _ => this g
 ·intro e
  refine BitVec.eq_of_getLsbD_eq fun i hi => ?_
  have := congrArg (fun x => x.getLsbD i) e
  simp at this ⊢
  intro g
  exact this g hi
def gA (p : PW) (n a k r : Int) : (Nat → Int) × Int := if sndB p then kAt p n a k r else (nkey, 8)
theorem bset6s {w W : World} {v0 v1 v2 v3 v4 v5 : Value} (h : Below w.heap.size w W) : Below w.heap.size w ((((((W.setCell ⟨w.heap.size + 1, 0, none⟩ v0).setCell ⟨w.heap.size + 1, 1, none⟩ v1).setCell ⟨w.heap.size + 1, 2, none⟩ v2).setCell ⟨w.heap.size + 1, 3, none⟩ v3).setCell ⟨w.heap.size + 1, 4, none⟩ v4).setCell ⟨w.heap.size + 1, 5, none⟩ v5) :=
 bset (bset (bset (bset (bset (bset h (Nat.le_succ _) _) (Nat.le_succ _) _) (Nat.le_succ _) _) (Nat.le_succ _) _) (Nat.le_succ _) _) (Nat.le_succ _) _
set_option maxRecDepth 100000 in
set_option maxHeartbeats 4000000 in
theorem get_any (V : Nat → Value) (p : PW) (n a k r : Int) (w : World) (hv : WorldV w V p) (hp : p.Fits) (hr : -9223372036854775808 ≤ r ∧ r ≤ 9223372036854775807) :
  Calls Tryz.prog 17 #[.agg (arr11 V), .int .i64 n, .int .i64 a, .int .i64 k, .int .i64 r] w fun x w' => x = .returned (.tuple #[.agg (kv (gA p n a k r).1), eV (gA p n a k r).2]) ∧ Below w.heap.size w w' := by
 have RGc := hid (boxed w V 28)
 have B0 := hid (bal (bal (Below.refl w.heap.size w) (.cells (arr11 V) 28)) (.cells #[.int .i64 0, .int .i64 0, .int .i64 0, .int .i64 0, .int .i64 0, .int .i64 0] 40))
 have RG1 := hid (range_below RGc.out (bal (Below.refl _ (w.alloc (.cells (arr11 V) 28))) (.cells #[.int .i64 0, .int .i64 0, .int .i64 0, .int .i64 0, .int .i64 0, .int .i64 0] 40)))
 have CZ0 := hid (cells_at (w.alloc (.cells (arr11 V) 28)) #[.int .i64 0, .int .i64 0, .int .i64 0, .int .i64 0, .int .i64 0, .int .i64 0] 40 (w.heap.size + 1) (by simp))
 have FZ0 := hid (show ∀ o, ((w.alloc (.cells (arr11 V) 28)).alloc (.cells #[.int .i64 0, .int .i64 0, .int .i64 0, .int .i64 0, .int .i64 0, .int .i64 0] 40)).frozen? ⟨w.heap.size + 1, o, none⟩ = false from fun o => World.frozen?_alloc_at _ _ _ _ (by simp))
 have SZ0 := hid (show w.heap.size + 1 < ((w.alloc (.cells (arr11 V) 28)).alloc (.cells #[.int .i64 0, .int .i64 0, .int .i64 0, .int .i64 0, .int .i64 0, .int .i64 0] 40)).heap.size by simp)
 have KK := hid (find_any V p n a ((w.alloc (.cells (arr11 V) 28)).alloc (.cells #[.int .i64 0, .int .i64 0, .int .i64 0, .int .i64 0, .int .i64 0, .int .i64 0] 40)) (hv.below B0.out) hp)
 obtain ⟨q2, b2, off2, cap2, e2, hq2, hz2⟩ := hv.slots
 have hl2 : (p.slots.length : Int) ≤ 1000 := by have := hp.slots; omega
 have HZ2 := hid hz2
 have HQ2 := hid hq2
 have HIN := hid (show (fA p n a).2 = 0 → 0 ≤ (fA p n a).1 ∧ (fA p n a).1 < (p.slots.length : Int) from fun h => by
  unfold fA at h ⊢
  cases hs : sndB p with
  | false => rw [hs] at h; simp at h
  | true =>
   rw [hs, if_pos rfl] at h
   rw [if_pos rfl]
   exact sAt_in (snd_of hs) h)
 have HN0 := hid (show gA p n a k r = if (fA p n a).2 = 0 then kOf (p.slots.getD (fA p n a).1.toNat nkey) k r else (nkey, (fA p n a).2) by
  unfold gA fA kAt
  cases hs : sndB p with
  | false => rfl
  | true => rfl)
 have HR := hid (fun s4 => and_not r s4 hr)
 clear hv hp hq2 hz2 hr RGc
 generalize (fA p n a).1 = t at KK HIN HN0
 generalize (fA p n a).2 = e at KK HIN HN0
 have RGc := RG1
 clear RG1
 go_enter Tryz.func17, Tryz.ntmps17
 go_wp2_with (first | ((with_reducible (show wpList _ _ _ (⟨_, Op.load 28 _, _, _, _, _⟩ :: _) _ _)); refine wp_ldWg (by rfl) _ rfl _ rfl V RGc.out ?_))
 refine KK.out.mono ?_
 rintro r1 w1 ⟨rfl, hb⟩
 have BB := hid (btr B0.out hb)
 have CZ := cells_next CZ0.out SZ0.out hb
 have FZ : ∀ o, w1.frozen? ⟨w.heap.size + 1, o, none⟩ = false := fun o => (hb.frozen (p := ⟨w.heap.size + 1, o, none⟩) SZ0.out).trans (FZ0.out o)
 have SZ := hid (show w.heap.size + 1 < w1.heap.size from Nat.lt_of_lt_of_le SZ0.out hb.size)
 have g2 : w1.cell? ⟨w.heap.size, 2, none⟩ = some (V 2) := range_cell (range_below RGc.out hb) rfl
 clear hb KK RGc CZ0 FZ0 SZ0
 by_cases he : e = 0
 rotate_left
 ·have HN := hid (show gA p n a k r = (nkey, e) by rw [HN0.out, if_neg he])
  have HE := hid he
  rw [eV_n he]
  clear he HN0 HIN
  go_wp2_with fail
  have q := six_set (B := w.heap.size + 1) (v0 := .int .i64 0) (v1 := .int .i64 0) (v2 := .int .i64 0) (v3 := .int .i64 0) (v4 := .int .i64 0) (v5 := .int .i64 0) CZ
  exact bodyPost_ret (v := .tuple #[.agg (kv nkey), .iface 34 (.int .i64 e)]) (by simp [results, Tryz.results17, go_sem, kv, nkey, q 0, q 1, q 2, q 3, q 4, q 5]) rfl ⟨by rw [HN.out, eV_n HE.out], bset6s BB.out⟩
 subst he
 rw [eV_0]
 obtain ⟨t0, t1⟩ := HIN.out rfl
 obtain ⟨y, rfl⟩ : ∃ y : Nat, t = y := ⟨t.toNat, by omega⟩
 have hy : y < p.slots.length := by omega
 have hqe := HQ2.out (by omega)
 subst hqe
 have RZ := range_belowO (HZ2.out y hy) BB.out
 have HN1 := hid (show gA p n a k r = kOf p.slots[y] k r by rw [HN0.out, if_pos rfl, Int.toNat_natCast, List.getD_eq_getElem?_getD, List.getElem?_eq_getElem hy]; rfl)
 have x0 := range_at0 RZ (cf_at 7 _ 0 (by omega))
 have x1 := range_at RZ (cf_at 7 _ 1 (by omega))
 have x2 := range_at RZ (cf_at 7 _ 2 (by omega))
 have x3 := range_at RZ (cf_at 7 _ 3 (by omega))
 have x4 := range_at RZ (cf_at 7 _ 4 (by omega))
 have x5 := range_at RZ (cf_at 7 _ 5 (by omega))
 generalize p.slots[y] = s at *
 have CY := cells_alloc CZ SZ.out (.cells #[.int .i64 (s 0), .int .i64 (s 1), .int .i64 (s 2), .int .i64 (s 3), .int .i64 (s 4), .int .i64 (s 5)] 40)
 have FY := froz_alloc FZ SZ.out (.cells #[.int .i64 (s 0), .int .i64 (s 1), .int .i64 (s 2), .int .i64 (s 3), .int .i64 (s 4), .int .i64 (s 5)] 40)
 have BC := hid (bal BB.out (.cells #[.int .i64 (s 0), .int .i64 (s 1), .int .i64 (s 2), .int .i64 (s 3), .int .i64 (s 4), .int .i64 (s 5)] 40))
 have hr4 := HR.out (s 4)
 have HR4 := hid hr4
 clear RZ hy HN0 HIN CZ FZ HZ2 HQ2 hr4
 by_cases h0 : s 0 = 0
 ·have h0b : (s 0 == 0) = true := by simpa using h0
  have HN := hid (show gA p n a k r = (nkey, 6) by rw [HN1.out]; unfold kOf; rw [if_pos h0])
  clear h0
  go_wp2_with fail
  have q := six_set (B := w.heap.size + 1) (v0 := .int .i64 0) (v1 := .int .i64 0) (v2 := .int .i64 0) (v3 := .int .i64 0) (v4 := .int .i64 0) (v5 := .int .i64 0) CY
  exact bodyPost_ret (v := .tuple #[.agg (kv nkey), eV 6]) (by simp [results, Tryz.results17, go_sem, kv, nkey, eV, q 0, q 1, q 2, q 3, q 4, q 5]) rfl ⟨by rw [HN.out], bset6s BC.out⟩
 have h0b : (s 0 == 0) = false := by simpa using h0
 by_cases h1 : s 0 = k
 rotate_left
 ·have h1b : (s 0 != k) = true := by simpa using h1
  have HN := hid (show gA p n a k r = (nkey, 3) by rw [HN1.out]; unfold kOf; rw [if_neg h0, if_neg h1])
  clear h0 h1
  go_wp2_with fail
  have q := six_set (B := w.heap.size + 1) (v0 := .int .i64 0) (v1 := .int .i64 0) (v2 := .int .i64 0) (v3 := .int .i64 0) (v4 := .int .i64 0) (v5 := .int .i64 0) CY
  exact bodyPost_ret (v := .tuple #[.agg (kv nkey), eV 3]) (by simp [results, Tryz.results17, go_sem, kv, nkey, eV, q 0, q 1, q 2, q 3, q 4, q 5]) rfl ⟨by rw [HN.out], bset6s BC.out⟩
 have h1b : (s 0 != k) = false := by simpa using h1
 by_cases h4 : bits .and .i64 (s 4) r = r
 rotate_left
 ·have h4b : (bits .andNot .i64 r (s 4) != 0) = true := by
   have := mt HR4.out.2 h4
   simpa using this
  have HN := hid (show gA p n a k r = (nkey, 4) by rw [HN1.out]; unfold kOf; rw [if_neg h0, if_pos h1, if_neg h4])
  clear h0 h1 h4
  go_wp2_with fail
  have q := six_set (B := w.heap.size + 1) (v0 := .int .i64 0) (v1 := .int .i64 0) (v2 := .int .i64 0) (v3 := .int .i64 0) (v4 := .int .i64 0) (v5 := .int .i64 0) CY
  exact bodyPost_ret (v := .tuple #[.agg (kv nkey), eV 4]) (by simp [results, Tryz.results17, go_sem, kv, nkey, eV, q 0, q 1, q 2, q 3, q 4, q 5]) rfl ⟨by rw [HN.out], bset6s BC.out⟩
 have h4b : (bits .andNot .i64 r (s 4) != 0) = false := by
  have := HR4.out.1 h4
  simpa using this
 have HN := hid (show gA p n a k r = (s, 0) by rw [HN1.out]; unfold kOf; rw [if_neg h0, if_pos h1, if_pos h4])
 clear h0 h1 h4
 go_wp2_with fail
 have q := six_set (B := w.heap.size + 1) (v0 := .int .i64 (s 0)) (v1 := .int .i64 (s 1)) (v2 := .int .i64 (s 2)) (v3 := .int .i64 (s 3)) (v4 := .int .i64 (s 4)) (v5 := .int .i64 (s 5)) CY
 exact bodyPost_ret (v := .tuple #[.agg (kv s), eV 0]) (by simp [results, Tryz.results17, go_sem, kv, eV, q 0, q 1, q 2, q 3, q 4, q 5]) rfl ⟨by rw [HN.out], bset6s BC.out⟩
end Go.Proofs.YtojomhigdliipaaGreatDoor.Wd
