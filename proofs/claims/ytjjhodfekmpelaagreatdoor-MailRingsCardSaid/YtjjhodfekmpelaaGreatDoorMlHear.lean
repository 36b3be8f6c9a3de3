/- What mail.Listen does, and what the document asks of Ring and Listen; walked. (Written by mk_hear.py.) -/
import Derived.Test.YtjjhodfekmpelaaGreatDoorMlB
import Derived.Test.YtjjhodfekmpelaaGreatDoorMlBMore
import Derived.Deep.RegionHeld3
namespace Go.Proofs.YtjjhodfekmpelaaGreatDoor.Wd
open Go.RowKit Go.Proofs.YtjjhodfekmpelaaGreatDoor.Mem Go.Proofs.YtjjhodfekmpelaaGreatDoor.Bw Go.Proofs.YtjjhodfekmpelaaGreatDoor.Nums Go.Proofs.YtjjhodfekmpelaaGreatDoor.Mmu
theorem frB_in {p : PW} {f : Int} (h : frB p f = true) : ∃ t : Nat, t < p.kinds.length ∧ f = t := by
 unfold frB at h
 have h3 := of_decide_eq_true h
 exact ⟨f.toNat, by omega, by omega⟩
theorem mt_in {p : PW} {t a k : Int} (h : mtE p t a k = 0) : ∃ (t' a' : Nat) (ht : t' < p.kinds.length) (ha : a' < p.kinds.length), t = t' ∧ a = a' ∧ p.kinds[t'] = 6 ∧ p.kinds[a'] = k ∧ inB t p.cores = true := by
 unfold mtE at h
 by_cases h1 : (frB p t && frB p a) = true
 ·rw [if_pos h1] at h
  by_cases h2 : (isB p t 6 && isB p a k) = true
  ·rw [if_pos h2] at h
   by_cases h3 : inB t p.cores = true
   ·rw [Bool.and_eq_true] at h1 h2
    obtain ⟨t', ht, rfl⟩ := frB_in h1.1
    obtain ⟨a', ha, rfl⟩ := frB_in h1.2
    exact ⟨t', a', ht, ha, rfl, rfl, isB_at ht h2.1, isB_at ha h2.2, h3⟩
   ·rw [if_neg h3] at h; cases h
  ·rw [if_neg h2] at h; cases h
 ·rw [if_neg h1] at h; cases h
theorem bit_word {p : PW} (h : Snd p) {a : Nat} (ha : a < p.lines.length) : 0 ≤ p.bits.getD a 0 ∧ p.bits.getD a 0 < 65536 := by
 have h1 : blB p a (p.kinds.getD a 0) (p.bits.getD a 0) p.lines[a] = false := h.b6 a ha
 unfold blB at h1
 rw [Bool.or_eq_false_iff] at h1
 have h2 := h1.1
 unfold hdB at h2
 rw [Bool.or_eq_false_iff] at h2
 have h3 := h2.2
 generalize p.bits.getD a 0 = x at h3 ⊢
 by_cases hx : x = 0
 ·omega
 ·rw [show (x != 0) = true by simpa using hx, Bool.true_and, Bool.or_eq_false_iff] at h3
  have h4 := h3.2
  rw [Bool.not_eq_false'] at h4
  unfold wB at h4
  have h5 := of_decide_eq_true h4
  omega
set_option maxRecDepth 100000 in
set_option maxHeartbeats 4000000 in
theorem listen_deed (c1 c2 : Nat) (t0 b0 : Int) (p : PW) (hp : p.Fits) (hl : ∀ l ∈ p.tlbs, l.length ≤ 100) (hs : Snd p) : DeedT 97 #[ptr c1, ptr c2] (CapsT [(c1, .int .i64 t0), (c2, .int .i64 b0)]) eV p (hbP p t0 b0) (mtE p t0 b0 8) := by
 intro W wb tag V bt hc
 have x1 := (hc (c1, .int .i64 t0) (by simp)).1
 have x2 := (hc (c2, .int .i64 b0) (by simp)).1
 have HC := hid hc
 have HT := hid (meet_any wb tag V p t0 b0 8 W bt hp hl hs)
 unfold ptr
 simp only [List.append_toArray, List.cons_append, List.nil_append]
 by_cases h0 : mtE p t0 b0 8 = 0
 rotate_left
 ·rw [eV_n h0] at HT ⊢
  have HN := hid h0
  generalize mtE p t0 b0 8 = x at HT HN ⊢
  clear h0 bt hp hl hs hc
  go_enter Tryz.func97, Tryz.ntmps97
  go_wp2_with fail
  refine HT.out.mono ?_
  rintro q w1 ⟨rfl, hb⟩
  have BL := hid hb
  clear hb
  go_wp2_with fail
  go_ret
  exact ⟨rfl, tag, .below BL.out, fun h => absurd h HN.out⟩
 obtain ⟨t, a, ht, ha, rfl, rfl, hk, hka, hin⟩ := mt_in h0
 rw [h0, eV_0] at HT ⊢
 have htl : t < p.tasks.length := by rw [hs.lf.tasks]; exact ht
 have hal : a < p.lines.length := by rw [hs.lf.lines]; exact ha
 have hab : a < p.bits.length := by rw [hs.lf.bits]; exact ha
 have hl5 : (p.bits.length : Int) ≤ 1000 := by have := hp.bits; omega
 have hb2 : (a : Int) < (p.bits.length : Int) := by omega
 obtain ⟨g5, cap5, e5⟩ := bt.o.bits.form (by omega)
 have E5 := hid e5
 have HBL := hid hab
 have HPP := hid (show hbP p t a = if p.bits.getD a 0 = 0 then ssP p t a 6 else { (p.task t 1 0).task t 2 (p.bits.getD a 0) with bits := p.bits.set a 0 } by unfold hbP; rw [Int.toNat_natCast, Int.toNat_natCast])
 have HS := hid (fun X (h : BoxT X wb tag V p) => standM_any wb tag V p t a 6 X h hp htl hal)
 rw [stand_eq hs ht hk hin 6] at HS
 have HH := hid (fun X (h : BoxT X wb tag V p) => handM_any wb tag V p t 0 (p.bits.getD a 0) X h hp htl)
 have XB := hid (fun X (h : BoxT X wb tag V p) => (h.bitsAt e5 hab).1)
 generalize p.bits.getD a 0 = y at HPP HH XB
 have B0 := hid bt
 clear bt hp hl hs hc h0 hk hka hin e5 htl hal hab ht ha
 by_cases hy : y = 0
 ·have HR := hid (HPP.out.trans (if_pos hy))
  subst hy
  clear HH HPP
  go_enter Tryz.func97, Tryz.ntmps97
  go_wp2_with fail
  refine HT.out.mono ?_
  rintro q w1 ⟨rfl, hb⟩
  have B1 := hid (B0.out.below hb)
  have K1 := hid (show Kt tag tag W w1 from .below hb)
  clear hb x1 x2 HT B0
  have c5 : w1.cell? ⟨wb, 5, none⟩ = some (.slice (some ⟨g5, 0, none⟩) p.bits.length cap5) := by rw [range_cell B1.out.r (k := 5) rfl, E5.out]
  have x5 := XB.out _ B1.out
  have z1 := (HC.out.kt K1.out (c1, .int .i64 t) (by simp)).1
  have z2 := (HC.out.kt K1.out (c2, .int .i64 a) (by simp)).1
  go_upto_region 4 with fail
  go_quiet (fail)
  have B2 := hid (B1.out.below (below_drewN (Below.refl w1.heap.size w1) nq))
  have K2 := hid (K1.out.trans (.below (below_drewN (Below.refl w1.heap.size w1) nq)))
  have y1 : (w1.drewN nq).cell? ⟨c1, 0, none⟩ = some (.int .i64 t) := z1
  have y2 : (w1.drewN nq).cell? ⟨c2, 0, none⟩ = some (.int .i64 a) := z2
  clear c5 x5 z1 z2 B1 K1
  generalize World.drewN _ _ = w2 at *
  go_wp2_with fail
  refine (HS.out _ B2.out).mono ?_
  rintro q w3 ⟨rfl, tg3, h1, k1⟩
  have B3 := hid h1
  have K3 := hid (K2.out.trans k1)
  clear h1 k1 HS y1 y2
  go_wp2_with fail
  go_ret
  exact ⟨rfl, tg3, K3.out, fun _ => ⟨V, by rw [HR.out]; exact B3.out⟩⟩
 ·have HR := hid (HPP.out.trans (if_neg hy))
  have hyb : (y == 0) = false := by simpa using hy
  clear HS HPP hy
  go_enter Tryz.func97, Tryz.ntmps97
  go_wp2_with fail
  refine HT.out.mono ?_
  rintro q w1 ⟨rfl, hb⟩
  have B1 := hid (B0.out.below hb)
  have K1 := hid (show Kt tag tag W w1 from .below hb)
  clear hb x1 x2 HT B0
  have c5 : w1.cell? ⟨wb, 5, none⟩ = some (.slice (some ⟨g5, 0, none⟩) p.bits.length cap5) := by rw [range_cell B1.out.r (k := 5) rfl, E5.out]
  have x5 := XB.out _ B1.out
  have z1 := (HC.out.kt K1.out (c1, .int .i64 t) (by simp)).1
  have z2 := (HC.out.kt K1.out (c2, .int .i64 a) (by simp)).1
  go_upto_region 4 with fail
  go_quiet (fail)
  have B2 := hid (B1.out.below (below_drewN (Below.refl w1.heap.size w1) nq))
  have K2 := hid (K1.out.trans (.below (below_drewN (Below.refl w1.heap.size w1) nq)))
  clear c5 x5 z1 z2 B1 K1
  generalize World.drewN _ _ = w2 at *
  have KS := hid (fun X (h : BoxT X wb tag V p) (k : Kt tag tag W X) => show X.cell? ⟨wb, 5, none⟩ = some (.slice (some ⟨g5, 0, none⟩) p.bits.length cap5) ∧ X.cell? ⟨c1, 0, none⟩ = some (.int .i64 t) ∧ X.cell? ⟨c2, 0, none⟩ = some (.int .i64 a) ∧ X.cell? ⟨g5, a, none⟩ = some (.int .i64 y) from ⟨by rw [range_cell h.r (k := 5) rfl, E5.out], (HC.out.kt k (c1, .int .i64 t) (by simp)).1, (HC.out.kt k (c2, .int .i64 a) (by simp)).1, XB.out _ h⟩)
  go_upto_region 7 with fail
  have BD : Hid (BoxT w2.drew wb tag V p) := hid (B2.out.below (below_drew w2 1))
  have KD : Hid (Kt tag tag W w2.drew) := hid (K2.out.trans (.below (below_drew w2 1)))
  refine wp_region_F (S := fun X => X.cell? ⟨wb, 5, none⟩ = some (.slice (some ⟨g5, 0, none⟩) p.bits.length cap5) ∧ X.cell? ⟨c1, 0, none⟩ = some (.int .i64 t) ∧ X.cell? ⟨c2, 0, none⟩ = some (.int .i64 a)) (R := fun X => X.cell? ⟨g5, a, none⟩ = some (.int .i64 y)) [9] (by kernel_rfl) (let h := KS.out _ BD.out KD.out; ⟨h.1, h.2.1, h.2.2.1⟩) (KS.out _ BD.out KD.out).2.2.2 (fun hS0 hR0 => ?_)
  have hS := hid hS0
  have hR := hid hR0
  clear hS0 hR0
  refine wpAnyF_take (i := 0) (v := .pointer (some ⟨wb, 0, none⟩)) rfl (by kernel_rfl) (by kernel_rfl) (by kernel_rfl) (by kernel_rfl) (fun _ _ _ h => h) (Or.inl ⟨by rfl, fun W h => by clear h; go_simp⟩) hS.out (fun _ => hR.out) ?_
  simp only [jj]
  refine wpAnyF_take (i := 1) (v := .int .i64 t) rfl (by kernel_rfl) (by kernel_rfl) (by kernel_rfl) (by kernel_rfl) (fun _ _ _ h => h) (Or.inl ⟨by rfl, fun W h => by have h3 := h.2.1; clear h; go_simp⟩) hS.out (fun _ => hR.out) ?_
  simp only [jj]
  refine wpAnyF_take (i := 2) (v := .pointer (some ⟨wb, 0, none⟩)) rfl (by kernel_rfl) (by kernel_rfl) (by kernel_rfl) (by kernel_rfl) (fun _ _ _ h => h) (Or.inl ⟨by rfl, fun W h => by clear h; go_simp⟩) hS.out (fun _ => hR.out) ?_
  simp only [jj]
  refine wpAnyF_take (i := 3) (v := .pointer (some ⟨wb, 0, none⟩)) rfl (by kernel_rfl) (by kernel_rfl) (by kernel_rfl) (by kernel_rfl) (fun _ _ _ h => h) (Or.inl ⟨by rfl, fun W h => by clear h; go_simp⟩) hS.out (fun _ => hR.out) ?_
  simp only [jj]
  refine wpAnyF_take (i := 4) (v := .pointer (some ⟨wb, 5, none⟩)) rfl (by kernel_rfl) (by kernel_rfl) (by kernel_rfl) (by kernel_rfl) (fun _ _ _ h => h) (Or.inl ⟨by rfl, fun W h => by clear h; go_simp⟩) hS.out (fun _ => hR.out) ?_
  simp only [jj]
  refine wpAnyF_take (i := 5) (v := .slice (some ⟨g5, 0, none⟩) p.bits.length cap5) rfl (by kernel_rfl) (by kernel_rfl) (by kernel_rfl) (by kernel_rfl) (fun _ _ _ h => h) (Or.inl ⟨by rfl, fun W h => by have h3 := h.1; clear h; go_simp⟩) hS.out (fun _ => hR.out) ?_
  simp only [jj]
  refine wpAnyF_take (i := 6) (v := .int .i64 a) rfl (by kernel_rfl) (by kernel_rfl) (by kernel_rfl) (by kernel_rfl) (fun _ _ _ h => h) (Or.inl ⟨by rfl, fun W h => by have h3 := h.2.2; clear h; go_simp⟩) hS.out (fun _ => hR.out) ?_
  simp only [jj]
  refine wpAnyF_take (i := 7) (v := .pointer (some ⟨g5, a, none⟩)) rfl (by kernel_rfl) (by kernel_rfl) (by kernel_rfl) (by kernel_rfl) (fun _ _ _ h => h) (Or.inl ⟨by rfl, fun W h => by clear h; go_simp⟩) hS.out (fun _ => hR.out) ?_
  simp only [jj]
  refine wpAnyF_takeR (i := 8) (v := .int .i64 y) rfl (by kernel_rfl) (by kernel_rfl) (by kernel_rfl) (by kernel_rfl) (by kernel_rfl) (by kernel_rfl) (fun _ _ _ h => h) (Or.inl ⟨by rfl, fun W h => by have h3 := h.2; clear h; go_simp⟩) hS.out (fun _ => hR.out) ?_
  simp only [jj]
  refine wpAnyF_ready (rs := [9]) (by kernel_rfl) (by simp) (AllReadyF.cons rfl (fun K hK => ?_) AllReadyF.nil)
  go_simp
  refine (HH.out _ BD.out).mono ?_
  rintro q Y ⟨rfl, h1, k1⟩
  have BY := hid h1
  have KY := hid (KD.out.trans k1)
  clear h1 k1
  go_wp2_with fail
  refine hK.out _ _ (by rw [range_cell BY.out.r (k := 5) rfl, E5.out]; exact ⟨rfl, (HC.out.kt KY.out (c1, .int .i64 t) (by simp)).1, (HC.out.kt KY.out (c2, .int .i64 a) (by simp)).1⟩) (notClean (by kernel_rfl)) (fun _ _ => ?_)
  clear hK K
  try simp only [Act.put]
  refine wpAnyF_done (by kernel_rfl) ?_ _
  clear hS hR BD KD B2 K2
  clear KS HH
  go_upto_region 8 with fail
  have BD : Hid (Below Y.heap.size Y Y.drew) := hid (below_drew Y 1)
  have KS := hid (fun X (h : Below Y.heap.size Y X) => show X.cell? ⟨wb, 5, none⟩ = some (.slice (some ⟨g5, 0, none⟩) p.bits.length cap5) ∧ X.cell? ⟨c2, 0, none⟩ = some (.int .i64 a) from ⟨by rw [range_cell (BY.out.below h).r (k := 5) rfl, E5.out], (HC.out.kt (KY.out.trans (.below h)) (c2, .int .i64 a) (by simp)).1⟩)
  refine wp_region_F (S := fun X => X.cell? ⟨wb, 5, none⟩ = some (.slice (some ⟨g5, 0, none⟩) p.bits.length cap5) ∧ X.cell? ⟨c2, 0, none⟩ = some (.int .i64 a)) (R := fun _ => True) [6] (by kernel_rfl) (KS.out _ BD.out) trivial (fun hS0 hR0 => ?_)
  have hS := hid hS0
  have hR := hid hR0
  clear hS0 hR0
  refine wpAnyF_take (i := 0) (v := .pointer (some ⟨wb, 0, none⟩)) rfl (by kernel_rfl) (by kernel_rfl) (by kernel_rfl) (by kernel_rfl) (fun _ _ _ h => h) (Or.inl ⟨by rfl, fun W h => by clear h; go_simp⟩) hS.out (fun _ => hR.out) ?_
  simp only [jj]
  refine wpAnyF_take (i := 1) (v := .pointer (some ⟨wb, 0, none⟩)) rfl (by kernel_rfl) (by kernel_rfl) (by kernel_rfl) (by kernel_rfl) (fun _ _ _ h => h) (Or.inl ⟨by rfl, fun W h => by clear h; go_simp⟩) hS.out (fun _ => hR.out) ?_
  simp only [jj]
  refine wpAnyF_take (i := 2) (v := .pointer (some ⟨wb, 5, none⟩)) rfl (by kernel_rfl) (by kernel_rfl) (by kernel_rfl) (by kernel_rfl) (fun _ _ _ h => h) (Or.inl ⟨by rfl, fun W h => by clear h; go_simp⟩) hS.out (fun _ => hR.out) ?_
  simp only [jj]
  refine wpAnyF_take (i := 3) (v := .slice (some ⟨g5, 0, none⟩) p.bits.length cap5) rfl (by kernel_rfl) (by kernel_rfl) (by kernel_rfl) (by kernel_rfl) (fun _ _ _ h => h) (Or.inl ⟨by rfl, fun W h => by have h3 := h.1; clear h; go_simp⟩) hS.out (fun _ => hR.out) ?_
  simp only [jj]
  refine wpAnyF_take (i := 4) (v := .int .i64 a) rfl (by kernel_rfl) (by kernel_rfl) (by kernel_rfl) (by kernel_rfl) (fun _ _ _ h => h) (Or.inl ⟨by rfl, fun W h => by have h3 := h.2; clear h; go_simp⟩) hS.out (fun _ => hR.out) ?_
  simp only [jj]
  refine wpAnyF_take (i := 5) (v := .pointer (some ⟨g5, a, none⟩)) rfl (by kernel_rfl) (by kernel_rfl) (by kernel_rfl) (by kernel_rfl) (fun _ _ _ h => h) (Or.inl ⟨by rfl, fun W h => by clear h; go_simp⟩) hS.out (fun _ => hR.out) ?_
  simp only [jj]
  obtain ⟨y5, f5⟩ := (BY.out.below BD.out).bitsAt E5.out HBL.out
  obtain ⟨b6, k6⟩ := (BY.out.below BD.out).bitsCell E5.out a 0
  have B6 := hid (show BoxT (Y.setCell ⟨g5, a, none⟩ (.int .i64 0)).drew wb tag V { (p.task t 1 0).task t 2 y with bits := p.bits.set a 0 } from b6)
  have K6 := hid (show Kt tag tag W (Y.setCell ⟨g5, a, none⟩ (.int .i64 0)).drew from (KY.out.trans (.below BD.out)).trans k6)
  have S6 := hid (show (Y.setCell ⟨g5, a, none⟩ (.int .i64 0)).drew.cell? ⟨wb, 5, none⟩ = some (.slice (some ⟨g5, 0, none⟩) p.bits.length cap5) ∧ (Y.setCell ⟨g5, a, none⟩ (.int .i64 0)).drew.cell? ⟨c2, 0, none⟩ = some (.int .i64 a) from ⟨by rw [range_cell B6.out.r (k := 5) rfl, E5.out], (HC.out.kt K6.out (c2, .int .i64 a) (by simp)).1⟩)
  clear b6 k6
  refine wpAnyF_ready (rs := [6]) (by kernel_rfl) (by simp) (AllReadyF.cons rfl (fun K hK => ?_) AllReadyF.nil)
  go_simp
  refine hK.out _ _ S6.out (notClean (by kernel_rfl)) (fun _ _ => ?_)
  clear hK K
  try simp only [Act.put]
  refine wpAnyF_done (by kernel_rfl) ?_ _
  generalize World.drew (World.setCell _ _ _) = W6 at *
  clear KS BD S6 y5 f5 hS hR
  go_wp2_with fail
  go_ret
  exact ⟨rfl, tag, K6.out, V, by rw [HR.out]; exact B6.out⟩
set_option maxRecDepth 100000 in
set_option maxHeartbeats 4000000 in
theorem ringRef_deed (c1 c2 : Nat) (b g : Int) (p : PW) (hp : p.Fits) (hs : Snd p) : DeedT 44 #[ptr c1, ptr c2] (CapsT [(c1, .int .i64 b), (c2, .int .i64 g)]) (fun e => .int .i64 e) p (rgP p b g) (rgE p b g) := by
 intro W wb tag V bt hc
 have HC := hid hc
 have x1 := (hc (c1, .int .i64 b) (by simp)).1
 have c1' : W.cell? ⟨wb, 1, none⟩ = some (V 1) := range_cell bt.r rfl
 have hl : (p.kinds.length : Int) ≤ 1000 := by have := hp.kinds; omega
 obtain ⟨q0, b0, off, cap, e1, hq, hz⟩ := own_ints bt.o.kinds.1
 have B0 := hid bt
 have K0 := hid (Kt.refl tag W)
 unfold ptr
 simp only [List.append_toArray, List.cons_append, List.nil_append]
 cases h1 : frB p b with
 | false =>
  have HE := hid (show rgE p b g = 2 by unfold rgE thE; rw [h1]; rfl)
  rw [HE.out]
  have hn := of_decide_eq_false h1
  clear h1 hz hq bt hc hp hs
  rw [e1] at c1'
  by_cases h0 : b < 0
  ·clear hn
   go_enter Tryz.func44, Tryz.ntmps44
   go_upto_region 1 with fail
   go_quiet (fail)
   have B1 := hid (B0.out.below (below_drewN (Below.refl W.heap.size W) nq))
   have K1 := hid (K0.out.trans (.below (below_drewN (Below.refl W.heap.size W) nq)))
   clear c1' x1 B0 K0
   generalize World.drewN _ _ = w1 at *
   go_wp2_with fail
   go_ret
   first | exact ⟨rfl, tag, K1.out⟩ | exact ⟨rfl, tag, K1.out, fun h => by cases h⟩
  ·have h2 : (p.kinds.length : Int) ≤ b := by omega
   clear hn
   go_enter Tryz.func44, Tryz.ntmps44
   go_upto_region 1 with fail
   go_quiet (fail)
   have B1 := hid (B0.out.below (below_drewN (Below.refl W.heap.size W) nq))
   have K1 := hid (K0.out.trans (.below (below_drewN (Below.refl W.heap.size W) nq)))
   clear c1' x1 B0 K0
   generalize World.drewN _ _ = w1 at *
   go_wp2_with fail
   go_ret
   first | exact ⟨rfl, tag, K1.out⟩ | exact ⟨rfl, tag, K1.out, fun h => by cases h⟩
 | true =>
  obtain ⟨a, ha, rfl⟩ := frB_in h1
  have hj2 : (a : Int) < (p.kinds.length : Int) := by omega
  have n0 : ¬ ((a : Int) < 0) := by omega
  have n1 : ¬ ((p.kinds.length : Int) ≤ (a : Int)) := by omega
  obtain rfl := hq (by omega)
  have hka : ∃ z, p.kinds[a] = z := ⟨_, rfl⟩
  obtain ⟨z, hka⟩ := hka
  have HZ := hid (fun X (h : BoxT X wb tag V p) => show X.cell? ⟨wb, 1, none⟩ = some (.slice (some ⟨b0, off, none⟩) p.kinds.length cap) by rw [range_cell h.r (k := 1) rfl, e1])
  have HX := hid (fun X (k : Kt tag tag W X) => (HC.out.kt k (c1, .int .i64 a) (by simp)).1)
  have HY := hid (fun X (k : Kt tag tag W X) => (HC.out.kt k (c2, .int .i64 g) (by simp)).1)
  rw [e1] at c1'
  by_cases h8 : z = 8
  rotate_left
  ·have HE := hid (show rgE p a g = 3 by
    unfold rgE thE isB
    rw [h1, if_pos rfl, kindAt_some ha, hka, if_neg (show ¬ ((some z == some (8 : Int)) = true) by simpa using h8)]
    rfl)
   rw [HE.out]
   have h8b : (z == 8) = false := by simpa using h8
   have HK := hid (fun X (h : BoxT X wb tag V p) => show X.cell? ⟨b0, off + a, none⟩ = some (.int .i64 z) by
    obtain ⟨q2, b2, o2, c2', e2, hq2, hz2⟩ := own_ints h.o.kinds.1
    rw [e1] at e2
    cases e2
    have h3 := hz2 a ha
    have h4 := hq2 (by omega)
    cases h4
    rw [hka] at h3
    exact h3)
   clear h1 hz hq bt hc hp hs h8 hka ha
   go_enter Tryz.func44, Tryz.ntmps44
   go_upto_region 1 with fail
   go_quiet (fail)
   have B1 := hid (B0.out.below (below_drewN (Below.refl W.heap.size W) nq))
   have K1 := hid (K0.out.trans (.below (below_drewN (Below.refl W.heap.size W) nq)))
   clear c1' x1 B0 K0
   generalize World.drewN _ _ = w1 at *
   have z1 := HX.out _ K1.out
   have z2 := HZ.out _ B1.out
   have z3 := HK.out _ B1.out
   go_upto_region 3 with fail
   go_quiet (fail)
   have B2 := hid (B1.out.below (below_drewN (Below.refl w1.heap.size w1) nq))
   have K2 := hid (K1.out.trans (.below (below_drewN (Below.refl w1.heap.size w1) nq)))
   clear z1 z2 z3 B1 K1
   generalize World.drewN _ _ = w2 at *
   go_wp2_with fail
   go_ret
   first | exact ⟨rfl, tag, K2.out⟩ | exact ⟨rfl, tag, K2.out, fun h => by cases h⟩
  subst h8
  have hal : a < p.lines.length := by rw [hs.lf.lines]; exact ha
  have hab : a < p.bits.length := by rw [hs.lf.bits]; exact ha
  have HK := hid (fun X (h : BoxT X wb tag V p) => show X.cell? ⟨b0, off + a, none⟩ = some (.int .i64 8) by
   obtain ⟨q2, b2, o2, c2', e2, hq2, hz2⟩ := own_ints h.o.kinds.1
   rw [e1] at e2
   cases e2
   have h3 := hz2 a ha
   have h4 := hq2 (by omega)
   cases h4
   rw [hka] at h3
   exact h3)
  have hE0 : rgE p a g = if wB g then 0 else 1 := by
   unfold rgE thE isB
   rw [h1, if_pos rfl, kindAt_some ha, hka, if_pos (show ((some (8 : Int) == some (8 : Int)) = true) by rfl), if_pos rfl]
  have HFA := hid (fun X => far_any g 65535 X)
  by_cases hg : g < 0 ∨ 65535 < g
  ·rw [hE0, show wB g = false from decide_eq_false (by omega), if_neg (by decide)]
   simp only [decide_eq_true hg] at HFA
   clear h1 hz hq bt hc hp hs hka ha hal hab hE0 hg
   go_enter Tryz.func44, Tryz.ntmps44
   go_upto_region 1 with fail
   go_quiet (fail)
   have B1 := hid (B0.out.below (below_drewN (Below.refl W.heap.size W) nq))
   have K1 := hid (K0.out.trans (.below (below_drewN (Below.refl W.heap.size W) nq)))
   clear c1' x1 B0 K0
   generalize World.drewN _ _ = w1 at *
   have z1 := HX.out _ K1.out
   have z2 := HZ.out _ B1.out
   have z3 := HK.out _ B1.out
   go_upto_region 3 with fail
   go_quiet (fail)
   have B2 := hid (B1.out.below (below_drewN (Below.refl w1.heap.size w1) nq))
   have K2 := hid (K1.out.trans (.below (below_drewN (Below.refl w1.heap.size w1) nq)))
   clear z1 z2 z3 B1 K1
   generalize World.drewN _ _ = w2 at *
   have z4 := HY.out _ K2.out
   go_wp2_with fail
   refine (HFA.out _).mono ?_
   rintro q w3 ⟨rfl, rfl⟩
   go_wp2_with fail
   go_ret
   first | exact ⟨rfl, tag, K2.out⟩ | exact ⟨rfl, tag, K2.out, fun h => by cases h⟩
  ·rw [hE0, show wB g = true from decide_eq_true (by omega), if_pos rfl]
   simp only [decide_eq_false hg] at HFA
   have HRB := hid (show ∀ X, BoxT X wb tag V p → Calls Tryz.prog 45 #[.pointer (some ⟨wb, 0, none⟩), .int .i64 a, .int .i64 g] X fun r W' => r = .returned (.tuple #[]) ∧ ∃ tag', BoxT W' wb tag' V (rgP p a g) ∧ Kt tag tag' X W' from fun X h => by
    obtain ⟨zs, hz⟩ : ∃ zs, p.lines.getD a [] = zs := ⟨_, rfl⟩
    unfold rgP
    rw [Int.toNat_natCast, hz]
    cases zs with
    | nil => exact ringBell_nil wb tag V p a g X h hp hal hab hz (bit_word hs hal) (by omega)
    | cons z l =>
     obtain ⟨t, ht, rfl, hk, hat⟩ := line_first hs hal hz
     have h9 := bell_first hs ha hka ht hk hat
     exact ringBell_cons wb tag V p a t l g X h hp hs hal hz ht hk h9)
   clear h1 hz hq bt hc hp hs hka ha hal hab hE0 hg
   go_enter Tryz.func44, Tryz.ntmps44
   go_upto_region 1 with fail
   go_quiet (fail)
   have B1 := hid (B0.out.below (below_drewN (Below.refl W.heap.size W) nq))
   have K1 := hid (K0.out.trans (.below (below_drewN (Below.refl W.heap.size W) nq)))
   clear c1' x1 B0 K0
   generalize World.drewN _ _ = w1 at *
   have z1 := HX.out _ K1.out
   have z2 := HZ.out _ B1.out
   have z3 := HK.out _ B1.out
   go_upto_region 3 with fail
   go_quiet (fail)
   have B2 := hid (B1.out.below (below_drewN (Below.refl w1.heap.size w1) nq))
   have K2 := hid (K1.out.trans (.below (below_drewN (Below.refl w1.heap.size w1) nq)))
   clear z1 z2 z3 B1 K1
   generalize World.drewN _ _ = w2 at *
   have z1 := HX.out _ K2.out
   have z4 := HY.out _ K2.out
   go_wp2_with fail
   refine (HFA.out _).mono ?_
   rintro q w3 ⟨rfl, rfl⟩
   go_wp2_with fail
   refine (HRB.out _ B2.out).mono ?_
   rintro q w4 ⟨rfl, tg4, h4, k4⟩
   have B4 := hid h4
   have K4 := hid (K2.out.trans k4)
   clear h4 k4 HRB HFA
   go_wp2_with fail
   go_ret
   first | exact ⟨rfl, tg4, K4.out, V, B4.out⟩ | exact ⟨rfl, tg4, K4.out, fun _ => ⟨V, B4.out⟩⟩
set_option maxRecDepth 100000 in
set_option maxHeartbeats 4000000 in
theorem hearRef_deed (c1 c2 : Nat) (t0 b0 : Int) (p : PW) (hp : p.Fits) (hs : Snd p) : DeedT 46 #[ptr c1, ptr c2] (CapsT [(c1, .int .i64 t0), (c2, .int .i64 b0)]) (fun e => .int .i64 e) p (hbP p t0 b0) (mtE p t0 b0 8) := by
 intro W wb tag V bt hc
 have x1 := (hc (c1, .int .i64 t0) (by simp)).1
 have x2 := (hc (c2, .int .i64 b0) (by simp)).1
 have HM := hid (actMay_ref wb tag V p t0 b0 8 W bt hp)
 unfold ptr
 simp only [List.append_toArray, List.cons_append, List.nil_append]
 by_cases h0 : mtE p t0 b0 8 = 0
 ·obtain ⟨t, a, ht, ha, rfl, rfl, -, -, -⟩ := mt_in h0
  have HH := hid (hearBell_ref wb tag V p t a W bt hp (by rw [hs.lf.tasks]; exact ht) (by rw [hs.lf.lines]; exact ha) (by rw [hs.lf.bits]; exact ha))
  rw [h0] at HM ⊢
  clear bt hc hp hs h0 ht ha
  go_enter Tryz.func46, Tryz.ntmps46
  go_wp2_with fail
  refine HM.out.mono ?_
  rintro q w1 ⟨rfl, rfl⟩
  go_wp2_with fail
  refine HH.out.mono ?_
  rintro q w2 ⟨rfl, tg2, h2, k2⟩
  have B2 := hid h2
  have K2 := hid k2
  clear h2 k2
  go_wp2_with fail
  go_ret
  exact ⟨rfl, tg2, K2.out, fun _ => ⟨V, B2.out⟩⟩
 ·have HN := hid h0
  generalize mtE p t0 b0 8 = e at HM HN h0 ⊢
  have hb : (e == 0) = false := by simpa using h0
  clear bt hc hp hs h0
  go_enter Tryz.func46, Tryz.ntmps46
  go_wp2_with fail
  refine HM.out.mono ?_
  rintro q w1 ⟨rfl, rfl⟩
  go_wp2_with fail
  go_ret
  exact ⟨rfl, tag, Kt.refl _ _, fun h => absurd h HN.out⟩
end Go.Proofs.YtjjhodfekmpelaaGreatDoor.Wd
