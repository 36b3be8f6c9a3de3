/- What keys there are to a frame, by the other text: keyholdref.frameWell; walked. -/
import Derived.Test.YtoebmjgkfkfhjaaGreatDoorGCount
namespace Go.Proofs.YtoebmjgkfkfhjaaGreatDoor.Wd
open Go.RowKit Go.Proofs.YtoebmjgkfkfhjaaGreatDoor.Mem Go.Proofs.YtoebmjgkfkfhjaaGreatDoor.Bw Go.Proofs.YtoebmjgkfkfhjaaGreatDoor.Nums Go.Proofs.YtoebmjgkfkfhjaaGreatDoor.Mmu
def okey (n : Int) (s : Nat → Int) : Nat := if opn n s then 1 else 0
theorem okey_le (n : Int) (s : Nat → Int) : okey n s ≤ 1 := by unfold okey; split <;> omega
theorem okey_any (n : Int) : ∀ l : List (Nat → Int), decide (0 < sumOf (okey n) l) = l.any (opn n)
 | [] => rfl
 | s :: l => by
  have h := okey_any n l
  have e : sumOf (okey n) (s :: l) = okey n s + sumOf (okey n) l := by unfold sumOf; simp
  rw [e, List.any_cons, ← h]
  cases ho : opn n s with
  | true =>
   have : okey n s = 1 := by unfold okey; rw [ho]; rfl
   rw [this, decide_eq_true (by omega)]
   rfl
  | false =>
   have : okey n s = 0 := by unfold okey; rw [ho]; rfl
   rw [this, Nat.zero_add]
   rfl
/-- Where the looking at slots has come to. -/
structure Fr2 (p : PW) (n : Int) (k c d : Nat) (u : Bool) : Prop where
 c : c = sumOf (cl n) (p.slots.take k)
 d : d = sumOf (okey n) (p.slots.take k)
 u : u = (p.slots.take k).any (un n)
theorem Fr2.next {p : PW} {n : Int} {k c d : Nat} {u : Bool} (h : Fr2 p n k c d u) (hk : k < p.slots.length) : Fr2 p n (k + 1) (c + cl n p.slots[k]) (d + okey n p.slots[k]) (u || un n p.slots[k]) :=
 ⟨by rw [sum_next _ hk, ← h.c], by rw [sum_next _ hk, ← h.d], by rw [any_next _ hk, ← h.u]⟩
theorem Fr2.all {p : PW} {n kind : Int} {c d : Nat} {u : Bool} (h : Fr2 p n p.slots.length c d u) : (!bfB p n kind) = (decide (c ≤ 1) && (kind == 0 || (decide (0 < d) && !u))) := by
 have e := okey_any n p.slots
 rw [h.c, h.d, h.u, List.take_length, e]
 unfold bfB
 have e2 : decide (sumOf (cl n) p.slots ≤ 1) = !decide (1 < sumOf (cl n) p.slots) := by
  by_cases hh : 1 < sumOf (cl n) p.slots
  ·rw [decide_eq_true hh, decide_eq_false (by omega)]; rfl
  ·rw [decide_eq_false hh, decide_eq_true (by omega)]; rfl
 rw [e2]
 have e3 : (kind != 0) = !(kind == 0) := rfl
 rw [e3]
 generalize decide (1 < sumOf (cl n) p.slots) = b1
 generalize (kind == 0) = b2
 generalize p.slots.any (opn n) = b3
 generalize p.slots.any (un n) = b4
 revert b1 b2 b3 b4
 decide
set_option maxRecDepth 100000 in
set_option maxHeartbeats 2000000 in
theorem frameWell_any (V : Nat → Value) (p : PW) (n : Nat) (w : World) (hv : WorldV w V p) (hp : p.Fits) (hb : ∀ s ∈ p.slots, KB s) (hn : n < p.kinds.length) :
  Calls Tryz.prog 95 #[.agg (arr11 V), .int .i64 n] w fun r w' => r = .returned (.bool (!bfB p n p.kinds[n])) ∧ Below w.heap.size w w' := by
 have RG := hid (boxed w V 28)
 have B0 := hid (bal (Below.refl w.heap.size w) (.cells (arr11 V) 28))
 obtain ⟨q, b, off, cap, e2, hq, hz⟩ := hv.slots
 obtain ⟨q1, b1, off1, cap1, e1, hq1, hz1⟩ := hv.kinds
 have hl : (p.slots.length : Int) ≤ 1000 := by have := hp.slots; omega
 have hl1 : (p.kinds.length : Int) ≤ 1000 := by have := hp.kinds; omega
 have hn2 : (n : Int) < (p.kinds.length : Int) := by omega
 obtain rfl := hq1 (by omega)
 have HQ := hid hq
 have HZ := hid hz
 have HB := hid hb
 have HK := hid (fun W (h : Below w.heap.size w W) => (hz1.below h) n hn)
 have C2 := hid (show ∀ W, Below (w.alloc (.cells (arr11 V) 28)).heap.size (w.alloc (.cells (arr11 V) 28)) W → W.cell? ⟨w.heap.size, 2, none⟩ = some (V 2) from fun W hb => range_cell (range_below RG.out hb) rfl)
 have C1 := hid (show ∀ W, Below (w.alloc (.cells (arr11 V) 28)).heap.size (w.alloc (.cells (arr11 V) 28)) W → W.cell? ⟨w.heap.size, 1, none⟩ = some (V 1) from fun W hb => range_cell (range_below RG.out hb) rfl)
 rw [e2] at C2
 rw [e1] at C1
 generalize p.kinds[n] = kind at HK ⊢
 clear hv hq hz hb e2 hq1 hz1 hn RG
 go_enter Tryz.func95, Tryz.ntmps95
 go_wp2_with fail
 generalize World.alloc _ _ = W0 at B0 C1 C2 ⊢
 go_loopw [5, 6, 7, 8] (fun t5 t6 t7 i wr => ∃ (k c d : Nat) (u : Bool), k ≤ p.slots.length ∧ i = .int .i64 k ∧ t5 = .int .i64 c ∧ t7 = .int .i64 d ∧ t6 = .bool u ∧ Hid (Fr2 p n k c d u) ∧ Hid (Below W0.heap.size W0 wr)) (fun _ _ _ i _ => p.slots.length - (intOf i).toNat)
 case atStart => exact ⟨0, 0, 0, false, by omega, rfl, rfl, rfl, rfl, hid ⟨rfl, rfl, rfl⟩, hid (Below.refl _ _)⟩
 case round =>
  obtain ⟨k, c, d, u, hk, rfl, rfl, rfl, rfl, HE, HW⟩ := hrel
  have c2 := C2.out wr HW.out
  by_cases hlt : k < p.slots.length
  ·have hlt2 : (k : Int) < (p.slots.length : Int) := by omega
   have hqe := HQ.out (by omega)
   subst hqe
   have RZ := hid (range_belowO (HZ.out k hlt) (btr B0.out HW.out))
   have c0 := range_at RZ.out (cf_at 7 _ 0 (by omega))
   rw [Nat.add_zero] at c0
   have c1 := range_at RZ.out (cf_at 7 _ 1 (by omega))
   have c3 := range_at RZ.out (cf_at 7 _ 2 (by omega))
   have c4 := range_at RZ.out (cf_at 7 _ 3 (by omega))
   have c5 := range_at RZ.out (cf_at 7 _ 4 (by omega))
   have c6 := range_at RZ.out (cf_at 7 _ 5 (by omega))
   have hc : (c : Int) ≤ 1000 := by
    have := sum_take (cl n) 1 k p.slots fun s _ => cl_le n s
    have := HE.out.c
    omega
   have hd : (d : Int) ≤ 1000 := by
    have := sum_take (okey n) 1 k p.slots fun s _ => okey_le n s
    have := HE.out.d
    omega
   obtain ⟨b0, b1, l0, l1, m0, m1, l2⟩ := HB.out _ (List.getElem_mem hlt)
   have HN := hid (HE.out.next hlt)
   clear RZ l2
   generalize hs : p.slots[k] = s at *
   clear hs
   by_cases h1 : s 0 = 1
   ·have HM := hid (show Fr2 p n (k + 1) (c + (if decide (s 1 ≤ (n : Int)) && decide ((n : Int) < s 1 + s 2) = true then 1 else 0)) d (u || (decide (s 1 ≤ (n : Int)) && decide ((n : Int) < s 1 + s 2) && decide (s 1 + s 3 ≤ (n : Int)))) by
     have := HN.out
     unfold cl okey un clI opn at this
     rw [h1] at this
     have e : decide ((n : Int) ≤ s 1 + s 2 - 1) = decide ((n : Int) < s 1 + s 2) := by congr 1; exact propext (by omega)
     simpa [e] using this)
    rw [h1] at c0
    clear h1 HN
    have BA := hid (fun arr t => bal HW.out (.cells arr t))
    generalize s 1 = s1 at *
    generalize s 2 = s2 at *
    generalize s 3 = s3 at *
    generalize s 4 = s4 at *
    generalize s 5 = s5 at *
    by_cases ha : s1 ≤ (n : Int)
    ·by_cases hb : (n : Int) < s1 + s2
     ·rw [decide_eq_true ha, decide_eq_true hb] at HM
      cases u with
      | true =>
       go_wp2_with fail
       exact ⟨⟨k + 1, c + 1, d, true, by omega, by go_num, by go_num, rfl, rfl, HM, hid (BA.out _ _)⟩, by simp [intOf]; omega⟩
      | false =>
       go_wp2_with fail
       exact ⟨⟨k + 1, c + 1, d, decide (s1 + s3 ≤ (n : Int)), by omega, by go_num, by go_num, rfl, rfl, HM, hid (BA.out _ _)⟩, by simp [intOf]; omega⟩
     ·rw [decide_eq_true ha, decide_eq_false hb] at HM
      go_wp2_with fail
      exact ⟨⟨k + 1, c, d, u, by omega, by go_num, by go_num, rfl, rfl, hid (by simpa using HM.out), hid (BA.out _ _)⟩, by simp [intOf]; omega⟩
    ·rw [decide_eq_false ha] at HM
     have ha2 : ¬ s1 ≤ (n : Int) := ha
     go_wp2_with fail
     exact ⟨⟨k + 1, c, d, u, by omega, by go_num, by go_num, rfl, rfl, hid (by simpa using HM.out), hid (BA.out _ _)⟩, by simp [intOf]; omega⟩
   ·have h1b : (s 0 == 1) = false := by simpa using h1
    have BA := hid (fun arr t => bal HW.out (.cells arr t))
    by_cases h0 : s 0 = 0
    ·have HM := hid (show Fr2 p n (k + 1) c d u by
      have := HN.out
      unfold cl okey un clI opn at this
      rw [h0] at this
      simpa using this)
     rw [h0] at c0
     clear h0 h1 h1b HN
     go_wp2_with fail
     exact ⟨⟨k + 1, c, d, u, by omega, by go_num, rfl, rfl, rfl, HM, hid (BA.out _ _)⟩, by simp [intOf]; omega⟩
    ·have h1c : (s 0 != 1) = true := by simpa using h1
     have h0c : (s 0 != 0) = true := by simpa using h0
     have HM := hid (show Fr2 p n (k + 1) c (d + (if (s 1 == (n : Int)) = true then 1 else 0)) u by
      have := HN.out
      unfold cl okey un clI opn at this
      rw [h1b, h0c, h1c] at this
      simpa using this)
     clear HN h0 h1
     generalize s 0 = s0 at *
     generalize s 1 = s1 at *
     by_cases hs : s1 = (n : Int)
     ·subst hs
      have HM2 := hid (show Fr2 p n (k + 1) c (d + 1) u by simpa using HM.out)
      clear HM
      go_wp2_with fail
      exact ⟨⟨k + 1, c, d + 1, u, by omega, by go_num, rfl, by go_num, rfl, HM2, hid (BA.out _ _)⟩, by simp [intOf]; omega⟩
     ·have HM2 := hid (show Fr2 p n (k + 1) c d u by simpa [hs] using HM.out)
      have hs2 : (s1 == (n : Int)) = false := by simpa using hs
      clear HM
      go_wp2_with fail
      exact ⟨⟨k + 1, c, d, u, by omega, by go_num, rfl, rfl, rfl, HM2, hid (BA.out _ _)⟩, by simp [intOf]; omega⟩
  ·obtain rfl : k = p.slots.length := by omega
   have hge : ¬ ((p.slots.length : Int) < (p.slots.length : Int)) := by omega
   have HF := hid (HE.out.all (kind := kind))
   have BB := hid (btr B0.out HW.out)
   have d1 := C1.out wr HW.out
   have d2 := HK.out wr BB.out
   by_cases h1 : c ≤ 1
   ·have h2 : (c : Int) ≤ 1 := by omega
    by_cases h3 : kind = 0
    ·subst h3
     go_wp2_with fail
     go_ret
     exact ⟨by rw [HF.out, decide_eq_true h1]; rfl, BB.out⟩
    ·have h4 : (kind == 0) = false := by simpa using h3
     by_cases h5 : 0 < d
     ·have h6 : (0 : Int) < (d : Int) := by omega
      go_wp2_with fail
      go_ret
      exact ⟨by rw [HF.out, decide_eq_true h1, h4, decide_eq_true h5]; rfl, BB.out⟩
     ·have h6 : ¬ (0 : Int) < (d : Int) := by omega
      go_wp2_with fail
      go_ret
      exact ⟨by rw [HF.out, decide_eq_true h1, h4, decide_eq_false h5]; rfl, BB.out⟩
   ·have h2 : ¬ (c : Int) ≤ 1 := by omega
    go_wp2_with fail
    go_ret
    exact ⟨by rw [HF.out, decide_eq_false h1]; rfl, BB.out⟩
end Go.Proofs.YtoebmjgkfkfhjaaGreatDoor.Wd
