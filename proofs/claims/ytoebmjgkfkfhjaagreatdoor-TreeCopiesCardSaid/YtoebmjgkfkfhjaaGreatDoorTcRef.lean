/- A key is made from another one, by the document: keyholdref.CopyKey, walked. (Written by mk_ck.py.) -/
import Derived.Test.YtoebmjgkfkfhjaaGreatDoorGTc1More
import Derived.Test.YtoebmjgkfkfhjaaGreatDoorTcCopy
import Derived.BigGuard
namespace Go.Proofs.YtoebmjgkfkfhjaaGreatDoor.Wd
open Go.RowKit Go.Proofs.YtoebmjgkfkfhjaaGreatDoor.Mem Go.Proofs.YtoebmjgkfkfhjaaGreatDoor.Bw Go.Proofs.YtoebmjgkfkfhjaaGreatDoor.Nums Go.Proofs.YtoebmjgkfkfhjaaGreatDoor.Mmu
theorem cpE_ls {p : PW} {i : Nat} {s : Nat → Int} (hi : i < p.slots.length) (hsi : p.slots[i] = s) {j r g : Int} (hb : boE p i j = 0) : cpE p i j r g = lsE s r g ∧ cpP p i j r g = p.slot j.toNat (cpS (lsK s r g) i) := by
 subst hsi
 unfold cpE cpP
 rw [if_pos hb, Int.toNat_natCast, List.getD_eq_getElem?_getD, List.getElem?_eq_getElem hi]
 exact ⟨rfl, rfl⟩
set_option maxRecDepth 100000 in
set_option maxHeartbeats 4000000 in
theorem copyKey_any (a b r g : Int) (p : PW) (hp : p.Fits) (hl : ∀ l ∈ p.tlbs, l.length ≤ 100) (hs : Snd p) (W : World) (wb : Nat) (L : Nat → Nat) (V : Nat → Value) (bo : BoxO W wb L V p) :
  Calls Tryz.prog 12 #[.pointer (some ⟨wb, 0, none⟩), .int .i64 a, .int .i64 b, .int .i64 r, .int .i64 g] W fun x W' => x = .returned (.int .i64 (cpE p a b r g)) ∧ Below (L 0) W W' ∧ (cpE p a b r g = 0 → ∃ V' L', BoxO W' wb L' V' (cpP p a b r g) ∧ L 0 ≤ L' 0) := by
 have HBO := hid bo
 have HB := hid (both_ref wb V p a b W (bo.view hp hl) hs.lf.slots)
 have HL2 := hid (show (p.slots.length : Int) ≤ 1000 by have := hp.slots; omega)
 have HKY := hid (fun k (hk : k < p.slots.length) (h0 : p.slots[k] 0 ≠ 0) => snd_op hs hk h0)
 clear hs hl hp bo
 by_cases hb : boE p a b = 0
 rotate_left
 ·have HE := hid (show cpE p a b r g = boE p a b from if_neg hb)
  have hbb : (boE p a b != 0) = true := by simpa using hb
  have HN := hid (show ¬ cpE p a b r g = 0 by rw [HE.out]; exact hb)
  generalize boE p a b = x at HB HE hbb
  clear hb
  go_enter Tryz.func12, Tryz.ntmps12
  go_wp2_with fail
  refine HB.out.mono ?_
  rintro q w1 ⟨rfl, rfl⟩
  go_wp2_with fail
  go_ret
  exact ⟨by rw [HE.out]; rfl, Below.refl _ _, fun h => absurd h HN.out⟩
 obtain ⟨i, j, rfl, rfl, hi, hj⟩ := boE_in hb
 obtain ⟨s, hsi⟩ : ∃ s, p.slots[i] = s := ⟨_, rfl⟩
 obtain ⟨hE, hP⟩ := cpE_ls hi hsi (r := r) (g := g) hb
 rw [Int.toNat_natCast] at hP
 have HPP := hid hP
 have HE := hid hE
 have h00 : s 0 ≠ 0 := by
  unfold boE at hb
  split at hb
  ·rename_i h1
   unfold hasE at h1
   intro h0
   split at h1
   ·rw [Int.toNat_natCast, List.getD_eq_getElem?_getD, List.getElem?_eq_getElem hi] at h1
    simp only [Option.getD_some] at h1
    rw [hsi, if_pos h0] at h1
    cases h1
   ·cases h1
  ·rename_i h1
   exact absurd hb h1
 have hop := HKY.out i hi (by rw [hsi]; exact h00)
 rw [hsi] at hop
 unfold opB at hop
 simp only [Bool.and_eq_true, beq_iff_eq, decide_eq_true_eq] at hop
 obtain ⟨-, -, -, -, -, -, -, -, r0, r1, g0, g1⟩ := KP.chk_zero (show KP.chk (s 0) (s 1) (s 2) (s 3) (s 4) (s 5) = 0 from hop.1.1)
 have HR4 := hid (show 0 ≤ s 4 ∧ s 4 ≤ 7 by omega)
 have HG5 := hid (show 0 ≤ s 5 by omega)
 clear hop r0 r1 g0 g1 h00 HKY hE hP
 rw [hb] at HB
 have hi2 : (i : Int) < (p.slots.length : Int) := by omega
 have hj2 : (j : Int) < (p.slots.length : Int) := by omega
 have hl2 := HL2.out
 obtain ⟨g2, cap2, e2⟩ : ∃ g2 cap, V 2 = .slice (some ⟨g2, 0, none⟩) p.slots.length cap := by
  rcases HBO.out.o.slots.1.2 with ⟨_, h0⟩ | ⟨g2, cap, cur, h, _⟩
  ·simp only at h0; omega
  ·exact ⟨g2, cap, h⟩
 have v2 : W.cell? ⟨wb, 2, none⟩ = some (V 2) := range_cell HBO.out.r rfl
 have RZ : W.rangeAt g2 (i * 7) (cf 7 s) := by
  have h1 := own_rowsC HBO.out.o.slots.1
  obtain ⟨q, b, off, cap, e, hq, hz⟩ := h1
  rw [e2] at e
  have e3 := hq (by omega)
  rw [e3] at e
  have e4 : g2 = b ∧ off = 0 := by simp at e; omega
  have h7 := hz i hi
  rw [hsi, e4.2, Nat.zero_add, ← e4.1] at h7
  exact h7
 have x0 := range_at0 RZ (cf_at 7 _ 0 (by omega))
 have x1 := range_at RZ (cf_at 7 _ 1 (by omega))
 have x2 := range_at RZ (cf_at 7 _ 2 (by omega))
 have x3 := range_at RZ (cf_at 7 _ 3 (by omega))
 have x4 := range_at RZ (cf_at 7 _ 4 (by omega))
 have x5 := range_at RZ (cf_at 7 _ 5 (by omega))
 have TH := hid (fun X (h : Below W.heap.size W X) => show X.there g2 (j * 7) 7 from by
  have h1 := (HBO.out.below h).o.slots.1
  rw [e2] at h1
  exact own_there h1 (j * 7) 7 (by show j * 7 + 7 ≤ p.slots.length * 7; omega))
 have L0W := hid (show L 0 ≤ W.heap.size from Nat.le_trans (HBO.out.o.le 10 (by omega)) (Nat.le_trans HBO.out.lo (Nat.le_of_lt HBO.out.lt)))
 have A1 := hid (bal (Below.refl W.heap.size W) (.cells #[.int .i64 (s 0), .int .i64 (s 1), .int .i64 (s 2), .int .i64 (s 3), .int .i64 (s 4), .int .i64 (s 5)] 60))
 have CK := hid (cells_new W #[.int .i64 (s 0), .int .i64 (s 1), .int .i64 (s 2), .int .i64 (s 3), .int .i64 (s 4), .int .i64 (s 5)] 60)
 have FK := hid (show ∀ o, (W.alloc (.cells #[.int .i64 (s 0), .int .i64 (s 1), .int .i64 (s 2), .int .i64 (s 3), .int .i64 (s 4), .int .i64 (s 5)] 60)).frozen? ⟨W.heap.size, o, none⟩ = false from fun o => World.frozen?_alloc_at _ _ _ _ rfl)
 clear hb hsi RZ
 go_enter Tryz.func12, Tryz.ntmps12
 go_wp2_with fail
 refine HB.out.mono ?_
 rintro q w1 ⟨rfl, rfl⟩
 go_upto_region 5 with fail
 generalize World.alloc _ _ = W1 at *
 clear x0 x1 x2 x3 x4 x5 v2 HB
 have k0 := CK.out 0
 have k4 := CK.out 4
 have k5 := CK.out 5
 have fk := FK.out
 by_cases h1 : s 0 = 1
 ·have h1b : (s 0 == 1) = true := by simpa using h1
  have HV := hid (show cpE p i j r g = 3 by rw [HE.out]; unfold lsE; rw [if_pos h1])
  clear h1
  go_wp2_with fail
  go_ret
  exact ⟨by rw [HV.out]; rfl, A1.out.mono L0W.out, fun h => absurd h (by rw [HV.out]; decide)⟩
 have h1b : (s 0 == 1) = false := by simpa using h1
 go_wp2_with fail
 refine (farW r 7 _).mono ?_
 rintro q w2 ⟨rfl, rfl⟩
 cases hr : within 0 7 r with
 | false =>
  have HV := hid (show cpE p i j r g = 2 by rw [HE.out]; unfold lsE; rw [if_neg h1, hr]; rfl)
  clear h1 hr
  go_wp2_with fail
  go_ret
  exact ⟨by rw [HV.out]; rfl, A1.out.mono L0W.out, fun h => absurd h (by rw [HV.out]; decide)⟩
 | true =>
 go_wp2_with fail
 refine (farW g 65535 _).mono ?_
 rintro q w2 ⟨rfl, rfl⟩
 rw [show within 0 65535 g = wB g from rfl]
 cases hw : wB g with
 | false =>
  have HV := hid (show cpE p i j r g = 2 by rw [HE.out]; unfold lsE; rw [if_neg h1, hr, hw]; rfl)
  clear h1 hr hw
  go_wp2_with fail
  go_ret
  exact ⟨by rw [HV.out]; rfl, A1.out.mono L0W.out, fun h => absurd h (by rw [HV.out]; decide)⟩
 | true =>
 have hr2 := of_decide_eq_true hr
 have hw2 := of_decide_eq_true hw
 have HE0 := hid (show cpE p i j r g = if g = 0 then 0 else if (s 0 ≠ 7 ∧ s 0 ≠ 8) ∨ s 5 ≠ 0 then 4 else 0 by rw [HE.out]; unfold lsE; rw [if_neg h1, hr, hw]; rfl)
 have BW := hid (fun X => Cpu.bitwise_int 6 (.inl rfl) (s 4) r X HR4.out.1 (by have := HR4.out.2; omega) hr2.1 (by omega))
 have HA := hid (show ((Bw.bw 6 (s 4).toNat r.toNat : Nat) : Int) = bits .and .i64 (s 4) r by
  have h := Bw.and_nat (s 4).toNat r.toNat (by have := HR4.out.2; omega) (by omega)
  rw [show (((s 4).toNat : Nat) : Int) = s 4 by have := HR4.out.1; omega, show ((r.toNat : Nat) : Int) = r by omega] at h
  exact h.symm)
 rw [HA.out] at BW
 have HCF0 := hid (show cf 7 (cpS (lsK s r g) (i : Int)) = [.int .i64 (s 0), .int .i64 (s 1), .int .i64 (s 2), .int .i64 (s 3), .int .i64 (bits .and .i64 (s 4) r), .int .i64 (if g = 0 then s 5 else g), .int .i64 i] from rfl)
 generalize bits .and .i64 (s 4) r = a4 at BW HCF0
 have hg0 : 0 ≤ g := hw2.1
 clear h1 hr hw hr2 hw2 HA
 by_cases h0 : g = 0
 ·subst h0
  have HV := hid (show cpE p i j r 0 = 0 by rw [HE0.out]; rfl)
  have HCF := hid (show cf 7 (cpS (lsK s r 0) (i : Int)) = (#[.int .i64 (s 0), .int .i64 (s 1), .int .i64 (s 2), .int .i64 (s 3), .int .i64 a4, .int .i64 (s 5), .int .i64 i]).toList from HCF0.out)
  have q6 := hid (cells_set CK.out 4 (by simp) (.int .i64 a4))
  have A4 := hid (bset A1.out (b := W.heap.size) (o := 4) (Nat.le_refl _) (.int .i64 a4))
  go_wp2_with fail
  refine (BW.out _).mono ?_
  rintro q w2 ⟨rfl, rfl⟩
  go_upto_region 14 with fail
  generalize W1.setCell ⟨W.heap.size, 4, none⟩ (.int .i64 a4) = W4 at q6 A4 ⊢
  have A5 := hid (show Below W.heap.size W W4.drew from btr A4.out (below_drew W4 1))
  have R5 := hid (show W4.drew.rangeAt W.heap.size 0 [.int .i64 (s 0), .int .i64 (s 1), .int .i64 (s 2), .int .i64 (s 3), .int .i64 a4, .int .i64 (s 5)] from fun k v hk => by
   rw [Nat.zero_add]
   exact ((q6.out k).trans (by simpa using hk) : W4.cell? ⟨W.heap.size, k, none⟩ = some v))
  have V5 := hid (show W4.drew.cell? ⟨wb, 2, none⟩ = some (.slice (some ⟨g2, 0, none⟩) p.slots.length cap2) from (range_cell (HBO.out.below A5.out).r (k := 2) rfl).trans (by rw [e2]))
  have F5 := hid ((HBO.out.below A5.out).slot e2 hj (cpS (lsK s r 0) i))
  refine wp_region_held_drew (S := fun X => X.cell? ⟨wb, 2, none⟩ = some (.slice (some ⟨g2, 0, none⟩) p.slots.length cap2) ∧ X.rangeAt W.heap.size 0 [.int .i64 (s 0), .int .i64 (s 1), .int .i64 (s 2), .int .i64 (s 3), .int .i64 a4, .int .i64 (s 5)]) (by kernel_rfl) ⟨V5.out, R5.out⟩ (fun hH0 => ?_)
  have hH := hid hH0
  clear hH0
  refine tk 0 (.pointer (some ⟨wb, 0, none⟩)) rfl hH.out ?_
  simp only [jj]
  refine tk 1 (.pointer (some ⟨wb, 0, none⟩)) rfl hH.out ?_
  simp only [jj]
  refine tk 2 (.pointer (some ⟨wb, 2, none⟩)) rfl hH.out ?_
  simp only [jj]
  refine tg 3 (.slice (some ⟨g2, 0, none⟩) p.slots.length cap2) rfl (Or.inl ⟨by rfl, fun W h => by have h3 := h.1; clear h; go_simp⟩) hH.out ?_
  simp only [jj]
  refine tk 4 (.int .i64 j) rfl hH.out ?_
  simp only [jj]
  refine tg 5 (.agg #[.int .i64 (s 0), .int .i64 (s 1), .int .i64 (s 2), .int .i64 (s 3), .int .i64 a4, .int .i64 (s 5)]) rfl (yieldsIf_load_mid (by rfl) _ _ rfl _ _ rfl ([.int .i64 (s 0), .int .i64 (s 1), .int .i64 (s 2), .int .i64 (s 3), .int .i64 a4, .int .i64 (s 5)]) _ (fun _ h => h.2) Tryz.underlying60 rfl info6) hH.out ?_
  simp only [jj]
  refine tk 6 (.int .i64 i) rfl hH.out ?_
  simp only [jj]
  refine tk 7 (.agg #[.int .i64 (s 0), .int .i64 (s 1), .int .i64 (s 2), .int .i64 (s 3), .int .i64 a4, .int .i64 (s 5), .int .i64 i]) rfl hH.out ?_
  simp only [jj]
  refine tk 8 (.pointer (some ⟨g2, j * 7, none⟩)) rfl hH.out ?_
  simp only [jj]
  refine wpAnyH_ready (rs := [9]) (by kernel_rfl) (by simp) (AllReadyH.cons rfl (fun K hK => ?_) AllReadyH.nil)
  refine wp_store_mid 64 _ _ rfl g2 (j * 7) #[.int .i64 (s 0), .int .i64 (s 1), .int .i64 (s 2), .int .i64 (s 3), .int .i64 a4, .int .i64 (s 5), .int .i64 i] rfl rfl (TH.out _ A5.out) info7s (by simp [Value.oneCell']) ?_
  have R6 := hid (show (W4.drew.setCells g2 (j * 7) (#[.int .i64 (s 0), .int .i64 (s 1), .int .i64 (s 2), .int .i64 (s 3), .int .i64 a4, .int .i64 (s 5), .int .i64 i]).toList).rangeAt W.heap.size 0 [.int .i64 (s 0), .int .i64 (s 1), .int .i64 (s 2), .int .i64 (s 3), .int .i64 a4, .int .i64 (s 5)] from fun k v hk => by
   rw [World.cell?_setCells_out g2 _ _ _ ⟨W.heap.size, 0 + k, none⟩ (fun e _ => by
    simp only at e
    have h2 := HBO.out.o.slots
    rw [e2] at h2
    have := h2.2 g2 rfl
    have u3 : L 3 ≤ L 10 := HBO.out.o.upto 7 3 (by omega)
    have := HBO.out.lo
    have := HBO.out.lt
    omega)]
   exact R5.out k v hk)
  have F6 := hid (show BoxO (W4.drew.setCells g2 (j * 7) (#[.int .i64 (s 0), .int .i64 (s 1), .int .i64 (s 2), .int .i64 (s 3), .int .i64 a4, .int .i64 (s 5), .int .i64 i]).toList) wb L V (p.slot j (cpS (lsK s r 0) i)) ∧ Below (L 0) W4.drew (W4.drew.setCells g2 (j * 7) (#[.int .i64 (s 0), .int .i64 (s 1), .int .i64 (s 2), .int .i64 (s 3), .int .i64 a4, .int .i64 (s 5), .int .i64 i]).toList) by
   have h := F5.out
   rw [HCF.out] at h
   exact h)
  generalize World.setCells _ _ _ _ = W6 at R6 F6 ⊢
  refine hK.out _ _ ⟨(range_cell F6.out.1.r (k := 2) rfl).trans (by rw [e2]), R6.out⟩ (fun hH0 => ?_)
  clear hK K hH0 hH
  try simp only [Act.put]
  refine wpAnyH_done (by kernel_rfl) ?_ _
  go_wp2_with fail
  go_ret
  exact ⟨by rw [HV.out]; rfl, (A5.out.mono L0W.out).trans F6.out.2, fun _ => ⟨V, L, by rw [HPP.out]; exact F6.out.1, Nat.le_refl _⟩⟩
 have hgp : (0 : Int) < g := by omega
 by_cases h4 : (s 0 ≠ 7 ∧ s 0 ≠ 8) ∨ s 5 ≠ 0
 ·have HV := hid (show cpE p i j r g = 4 by rw [HE0.out, if_neg h0, if_pos h4])
  have C4 := hid h4
  clear h0 h4
  by_cases h5 : (0 : Int) < s 5
  ·go_wp2_with fail
   go_ret
   exact ⟨by rw [HV.out]; rfl, A1.out.mono L0W.out, fun h => absurd h (by rw [HV.out]; decide)⟩
  ·have h50 : ¬ (0 : Int) < s 5 := h5
   have h78 : s 0 ≠ 7 ∧ s 0 ≠ 8 := by
    rcases C4.out with h | h
    ·exact h
    ·exact absurd (show (0 : Int) < s 5 by have := HG5.out; omega) h5
   have h7b : (s 0 != 7) = true := by simpa using h78.1
   have h8b : (s 0 != 8) = true := by simpa using h78.2
   clear h78 h5
   go_wp2_with fail
   go_ret
   exact ⟨by rw [HV.out]; rfl, A1.out.mono L0W.out, fun h => absurd h (by rw [HV.out]; decide)⟩
 have HV := hid (show cpE p i j r g = 0 by rw [HE0.out, if_neg h0, if_neg h4])
 have h50 : ¬ (0 : Int) < s 5 := fun h => h4 (.inr (by omega))
 have h78 : s 0 = 7 ∨ s 0 = 8 := by
  apply Classical.byContradiction
  intro h
  exact h4 (.inl ⟨fun e => h (.inl e), fun e => h (.inr e)⟩)
 have HCF := hid (show cf 7 (cpS (lsK s r g) (i : Int)) = (#[.int .i64 (s 0), .int .i64 (s 1), .int .i64 (s 2), .int .i64 (s 3), .int .i64 a4, .int .i64 g, .int .i64 i]).toList by rw [HCF0.out, if_neg h0])
 have q5 := hid (cells_set CK.out 5 (by simp) (.int .i64 g))
 have A3 := hid (bset A1.out (b := W.heap.size) (o := 5) (Nat.le_refl _) (.int .i64 g))
 have kk4 : (W1.setCell ⟨W.heap.size, 5, none⟩ (.int .i64 g)).cell? ⟨W.heap.size, 4, none⟩ = some (.int .i64 (s 4)) := q5.out 4
 have q6 := hid (cells_set q5.out 4 (by simp) (.int .i64 a4))
 have A4 := hid (bset A3.out (b := W.heap.size) (o := 4) (Nat.le_refl _) (.int .i64 a4))
 have H78 := hid h78
 clear h0 h4 h78
 rcases H78.out with h7 | h8
 ·have h7b : (s 0 != 7) = false := by simpa using h7
  clear h7
  go_wp2_with fail
  refine (BW.out _).mono ?_
  rintro q w2 ⟨rfl, rfl⟩
  go_upto_region 14 with fail
  clear kk4
  generalize (W1.setCell ⟨W.heap.size, 5, none⟩ (.int .i64 g)).setCell ⟨W.heap.size, 4, none⟩ (.int .i64 a4) = W4 at q6 A4 ⊢
  have A5 := hid (show Below W.heap.size W W4.drew from btr A4.out (below_drew W4 1))
  have R5 := hid (show W4.drew.rangeAt W.heap.size 0 [.int .i64 (s 0), .int .i64 (s 1), .int .i64 (s 2), .int .i64 (s 3), .int .i64 a4, .int .i64 g] from fun k v hk => by
   rw [Nat.zero_add]
   exact ((q6.out k).trans (by simpa using hk) : W4.cell? ⟨W.heap.size, k, none⟩ = some v))
  have V5 := hid (show W4.drew.cell? ⟨wb, 2, none⟩ = some (.slice (some ⟨g2, 0, none⟩) p.slots.length cap2) from (range_cell (HBO.out.below A5.out).r (k := 2) rfl).trans (by rw [e2]))
  have F5 := hid ((HBO.out.below A5.out).slot e2 hj (cpS (lsK s r g) i))
  refine wp_region_held_drew (S := fun X => X.cell? ⟨wb, 2, none⟩ = some (.slice (some ⟨g2, 0, none⟩) p.slots.length cap2) ∧ X.rangeAt W.heap.size 0 [.int .i64 (s 0), .int .i64 (s 1), .int .i64 (s 2), .int .i64 (s 3), .int .i64 a4, .int .i64 g]) (by kernel_rfl) ⟨V5.out, R5.out⟩ (fun hH0 => ?_)
  have hH := hid hH0
  clear hH0
  refine tk 0 (.pointer (some ⟨wb, 0, none⟩)) rfl hH.out ?_
  simp only [jj]
  refine tk 1 (.pointer (some ⟨wb, 0, none⟩)) rfl hH.out ?_
  simp only [jj]
  refine tk 2 (.pointer (some ⟨wb, 2, none⟩)) rfl hH.out ?_
  simp only [jj]
  refine tg 3 (.slice (some ⟨g2, 0, none⟩) p.slots.length cap2) rfl (Or.inl ⟨by rfl, fun W h => by have h3 := h.1; clear h; go_simp⟩) hH.out ?_
  simp only [jj]
  refine tk 4 (.int .i64 j) rfl hH.out ?_
  simp only [jj]
  refine tg 5 (.agg #[.int .i64 (s 0), .int .i64 (s 1), .int .i64 (s 2), .int .i64 (s 3), .int .i64 a4, .int .i64 g]) rfl (yieldsIf_load_mid (by rfl) _ _ rfl _ _ rfl ([.int .i64 (s 0), .int .i64 (s 1), .int .i64 (s 2), .int .i64 (s 3), .int .i64 a4, .int .i64 g]) _ (fun _ h => h.2) Tryz.underlying60 rfl info6) hH.out ?_
  simp only [jj]
  refine tk 6 (.int .i64 i) rfl hH.out ?_
  simp only [jj]
  refine tk 7 (.agg #[.int .i64 (s 0), .int .i64 (s 1), .int .i64 (s 2), .int .i64 (s 3), .int .i64 a4, .int .i64 g, .int .i64 i]) rfl hH.out ?_
  simp only [jj]
  refine tk 8 (.pointer (some ⟨g2, j * 7, none⟩)) rfl hH.out ?_
  simp only [jj]
  refine wpAnyH_ready (rs := [9]) (by kernel_rfl) (by simp) (AllReadyH.cons rfl (fun K hK => ?_) AllReadyH.nil)
  refine wp_store_mid 64 _ _ rfl g2 (j * 7) #[.int .i64 (s 0), .int .i64 (s 1), .int .i64 (s 2), .int .i64 (s 3), .int .i64 a4, .int .i64 g, .int .i64 i] rfl rfl (TH.out _ A5.out) info7s (by simp [Value.oneCell']) ?_
  have R6 := hid (show (W4.drew.setCells g2 (j * 7) (#[.int .i64 (s 0), .int .i64 (s 1), .int .i64 (s 2), .int .i64 (s 3), .int .i64 a4, .int .i64 g, .int .i64 i]).toList).rangeAt W.heap.size 0 [.int .i64 (s 0), .int .i64 (s 1), .int .i64 (s 2), .int .i64 (s 3), .int .i64 a4, .int .i64 g] from fun k v hk => by
   rw [World.cell?_setCells_out g2 _ _ _ ⟨W.heap.size, 0 + k, none⟩ (fun e _ => by
    simp only at e
    have h2 := HBO.out.o.slots
    rw [e2] at h2
    have := h2.2 g2 rfl
    have u3 : L 3 ≤ L 10 := HBO.out.o.upto 7 3 (by omega)
    have := HBO.out.lo
    have := HBO.out.lt
    omega)]
   exact R5.out k v hk)
  have F6 := hid (show BoxO (W4.drew.setCells g2 (j * 7) (#[.int .i64 (s 0), .int .i64 (s 1), .int .i64 (s 2), .int .i64 (s 3), .int .i64 a4, .int .i64 g, .int .i64 i]).toList) wb L V (p.slot j (cpS (lsK s r g) i)) ∧ Below (L 0) W4.drew (W4.drew.setCells g2 (j * 7) (#[.int .i64 (s 0), .int .i64 (s 1), .int .i64 (s 2), .int .i64 (s 3), .int .i64 a4, .int .i64 g, .int .i64 i]).toList) by
   have h := F5.out
   rw [HCF.out] at h
   exact h)
  generalize World.setCells _ _ _ _ = W6 at R6 F6 ⊢
  refine hK.out _ _ ⟨(range_cell F6.out.1.r (k := 2) rfl).trans (by rw [e2]), R6.out⟩ (fun hH0 => ?_)
  clear hK K hH0 hH
  try simp only [Act.put]
  refine wpAnyH_done (by kernel_rfl) ?_ _
  go_wp2_with fail
  go_ret
  exact ⟨by rw [HV.out]; rfl, (A5.out.mono L0W.out).trans F6.out.2, fun _ => ⟨V, L, by rw [HPP.out]; exact F6.out.1, Nat.le_refl _⟩⟩
 ·have h8b : (s 0 != 8) = false := by simpa using h8
  have h7b : (s 0 != 7) = true := by simp [h8]
  clear h8
  go_wp2_with fail
  refine (BW.out _).mono ?_
  rintro q w2 ⟨rfl, rfl⟩
  go_upto_region 14 with fail
  clear kk4
  generalize (W1.setCell ⟨W.heap.size, 5, none⟩ (.int .i64 g)).setCell ⟨W.heap.size, 4, none⟩ (.int .i64 a4) = W4 at q6 A4 ⊢
  have A5 := hid (show Below W.heap.size W W4.drew from btr A4.out (below_drew W4 1))
  have R5 := hid (show W4.drew.rangeAt W.heap.size 0 [.int .i64 (s 0), .int .i64 (s 1), .int .i64 (s 2), .int .i64 (s 3), .int .i64 a4, .int .i64 g] from fun k v hk => by
   rw [Nat.zero_add]
   exact ((q6.out k).trans (by simpa using hk) : W4.cell? ⟨W.heap.size, k, none⟩ = some v))
  have V5 := hid (show W4.drew.cell? ⟨wb, 2, none⟩ = some (.slice (some ⟨g2, 0, none⟩) p.slots.length cap2) from (range_cell (HBO.out.below A5.out).r (k := 2) rfl).trans (by rw [e2]))
  have F5 := hid ((HBO.out.below A5.out).slot e2 hj (cpS (lsK s r g) i))
  refine wp_region_held_drew (S := fun X => X.cell? ⟨wb, 2, none⟩ = some (.slice (some ⟨g2, 0, none⟩) p.slots.length cap2) ∧ X.rangeAt W.heap.size 0 [.int .i64 (s 0), .int .i64 (s 1), .int .i64 (s 2), .int .i64 (s 3), .int .i64 a4, .int .i64 g]) (by kernel_rfl) ⟨V5.out, R5.out⟩ (fun hH0 => ?_)
  have hH := hid hH0
  clear hH0
  refine tk 0 (.pointer (some ⟨wb, 0, none⟩)) rfl hH.out ?_
  simp only [jj]
  refine tk 1 (.pointer (some ⟨wb, 0, none⟩)) rfl hH.out ?_
  simp only [jj]
  refine tk 2 (.pointer (some ⟨wb, 2, none⟩)) rfl hH.out ?_
  simp only [jj]
  refine tg 3 (.slice (some ⟨g2, 0, none⟩) p.slots.length cap2) rfl (Or.inl ⟨by rfl, fun W h => by have h3 := h.1; clear h; go_simp⟩) hH.out ?_
  simp only [jj]
  refine tk 4 (.int .i64 j) rfl hH.out ?_
  simp only [jj]
  refine tg 5 (.agg #[.int .i64 (s 0), .int .i64 (s 1), .int .i64 (s 2), .int .i64 (s 3), .int .i64 a4, .int .i64 g]) rfl (yieldsIf_load_mid (by rfl) _ _ rfl _ _ rfl ([.int .i64 (s 0), .int .i64 (s 1), .int .i64 (s 2), .int .i64 (s 3), .int .i64 a4, .int .i64 g]) _ (fun _ h => h.2) Tryz.underlying60 rfl info6) hH.out ?_
  simp only [jj]
  refine tk 6 (.int .i64 i) rfl hH.out ?_
  simp only [jj]
  refine tk 7 (.agg #[.int .i64 (s 0), .int .i64 (s 1), .int .i64 (s 2), .int .i64 (s 3), .int .i64 a4, .int .i64 g, .int .i64 i]) rfl hH.out ?_
  simp only [jj]
  refine tk 8 (.pointer (some ⟨g2, j * 7, none⟩)) rfl hH.out ?_
  simp only [jj]
  refine wpAnyH_ready (rs := [9]) (by kernel_rfl) (by simp) (AllReadyH.cons rfl (fun K hK => ?_) AllReadyH.nil)
  refine wp_store_mid 64 _ _ rfl g2 (j * 7) #[.int .i64 (s 0), .int .i64 (s 1), .int .i64 (s 2), .int .i64 (s 3), .int .i64 a4, .int .i64 g, .int .i64 i] rfl rfl (TH.out _ A5.out) info7s (by simp [Value.oneCell']) ?_
  have R6 := hid (show (W4.drew.setCells g2 (j * 7) (#[.int .i64 (s 0), .int .i64 (s 1), .int .i64 (s 2), .int .i64 (s 3), .int .i64 a4, .int .i64 g, .int .i64 i]).toList).rangeAt W.heap.size 0 [.int .i64 (s 0), .int .i64 (s 1), .int .i64 (s 2), .int .i64 (s 3), .int .i64 a4, .int .i64 g] from fun k v hk => by
   rw [World.cell?_setCells_out g2 _ _ _ ⟨W.heap.size, 0 + k, none⟩ (fun e _ => by
    simp only at e
    have h2 := HBO.out.o.slots
    rw [e2] at h2
    have := h2.2 g2 rfl
    have u3 : L 3 ≤ L 10 := HBO.out.o.upto 7 3 (by omega)
    have := HBO.out.lo
    have := HBO.out.lt
    omega)]
   exact R5.out k v hk)
  have F6 := hid (show BoxO (W4.drew.setCells g2 (j * 7) (#[.int .i64 (s 0), .int .i64 (s 1), .int .i64 (s 2), .int .i64 (s 3), .int .i64 a4, .int .i64 g, .int .i64 i]).toList) wb L V (p.slot j (cpS (lsK s r g) i)) ∧ Below (L 0) W4.drew (W4.drew.setCells g2 (j * 7) (#[.int .i64 (s 0), .int .i64 (s 1), .int .i64 (s 2), .int .i64 (s 3), .int .i64 a4, .int .i64 g, .int .i64 i]).toList) by
   have h := F5.out
   rw [HCF.out] at h
   exact h)
  generalize World.setCells _ _ _ _ = W6 at R6 F6 ⊢
  refine hK.out _ _ ⟨(range_cell F6.out.1.r (k := 2) rfl).trans (by rw [e2]), R6.out⟩ (fun hH0 => ?_)
  clear hK K hH0 hH
  try simp only [Act.put]
  refine wpAnyH_done (by kernel_rfl) ?_ _
  go_wp2_with fail
  go_ret
  exact ⟨by rw [HV.out]; rfl, (A5.out.mono L0W.out).trans F6.out.2, fun _ => ⟨V, L, by rw [HPP.out]; exact F6.out.1, Nat.le_refl _⟩⟩
end Go.Proofs.YtoebmjgkfkfhjaaGreatDoor.Wd
