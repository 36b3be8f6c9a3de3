/- TopBell's worlds, plain: before the hearing (A), listening (B), having heard at once (C), woken by a ring (D); what ringing and hearing do to them. · TopBell's worlds are sound, whatever the letters. · What mail.Listen does, and what the document asks of Ring and Listen; walked. (Written by mk_hear.py.) -/
import Derived.Deep.RegionHeld3
import Derived.Test.YtakmaeohhclngaaGreatDoorQbk
import Derived.Test.YtakmaeohhclngaaGreatDoorQbl
import Derived.Test.YtakmaeohhclngaaGreatDoorQbn
namespace Go.Proofs.YtakmaeohhclngaaGreatDoor.Wd
open Go.RowKit Go.Proofs.YtakmaeohhclngaaGreatDoor.Mem Go.Proofs.YtakmaeohhclngaaGreatDoor.Bw Go.Proofs.YtakmaeohhclngaaGreatDoor.Nums Go.Proofs.YtakmaeohhclngaaGreatDoor.Mmu Go.Proofs.YtakmaeohhclngaaGreatDoor.Hex Go.Proofs.YtakmaeohhclngaaGreatDoor.Mad
/-- Core 0 has picked. -/
def p3 (L : Nat → Int) : PW := slP (p2 L) 0
theorem p3_fit (L : Nat → Int) : fitB (p3 L) = true := by kernel_rfl
theorem p3_snd (L : Nat → Int) (h : ∀ i, i < 32 → 0 ≤ L i ∧ L i ≤ 65535) : sndB (p3 L) = true := snd_ram (ramL_in h) (by kernel_rfl)
theorem p2_pick (L : Nat → Int) : pkE (p2 L) 0 = 0 := by kernel_rfl
theorem p3_core (L : Nat → Int) : (p3 L).cores.getD 0 0 = 8 := by kernel_rfl
theorem p3_kinds (L : Nat → Int) : (p3 L).kinds.length = 24 ∧ (p2 L).kinds.length = 24 ∧ (p3 L).cores.length = 2 ∧ (p2 L).cores.length = 2 := ⟨by kernel_rfl, by kernel_rfl, by kernel_rfl, by kernel_rfl⟩
/-- Before task 8 listens: the bell's bits are v. -/
def mA (L : Nat → Int) (v : Int) : PW := { p3 L with bits := (p3 L).bits.set 11 v }
/-- It listens. -/
def mB (L : Nat → Int) : PW := ssP (mA L 0) 8 11 6
/-- It has heard h at once. -/
def mC (L : Nat → Int) (v h : Int) : PW := { (((p3 L).task 8 1 0).task 8 2 h) with bits := (p3 L).bits.set 11 v }
/-- It was woken by h. -/
def mD (L : Nat → Int) (v h : Int) : PW := { rgP (mB L) 11 h with bits := (mB L).bits.set 11 v }
theorem mA_0 (L : Nat → Int) : mA L 0 = p3 L := by kernel_rfl
theorem mA_bits (L : Nat → Int) (v : Int) : (mA L v).bits.getD 11 0 = v := by kernel_rfl
theorem mC_bits (L : Nat → Int) (v h : Int) : (mC L v h).bits.getD 11 0 = v := by kernel_rfl
theorem mD_bits (L : Nat → Int) (v h : Int) : (mD L v h).bits.getD 11 0 = v := by kernel_rfl
theorem mA_ring (L : Nat → Int) (v n : Int) : rgP (mA L v) 11 n = mA L (bits .or .i64 v n) := by kernel_rfl
theorem mC_ring (L : Nat → Int) (v h n : Int) : rgP (mC L v h) 11 n = mC L (bits .or .i64 v n) h := by kernel_rfl
theorem mD_ring (L : Nat → Int) (v h n : Int) : rgP (mD L v h) 11 n = mD L (bits .or .i64 v n) h := by kernel_rfl
theorem mB_ring (L : Nat → Int) (n : Int) : rgP (mB L) 11 n = mD L 0 n := by kernel_rfl
theorem mA_hear0 (L : Nat → Int) : hbP (mA L 0) 8 11 = mB L := by kernel_rfl
theorem mA_hear (L : Nat → Int) (v : Int) (h : v ≠ 0) : hbP (mA L v) 8 11 = mC L 0 v := by
 unfold hbP
 rw [show (11 : Int).toNat = 11 from rfl, mA_bits, if_neg h]
 kernel_rfl
theorem m_state (L : Nat → Int) (v h : Int) : (mA L v).tasks.getD 8 bl 9 = 1 ∧ (mB L).tasks.getD 8 bl 9 = 6 ∧ (mC L v h).tasks.getD 8 bl 9 = 1 ∧ (mD L v h).tasks.getD 8 bl 9 = 1 ∧ (mC L v h).tasks.getD 8 bl 2 = h ∧ (mD L v h).tasks.getD 8 bl 2 = h := ⟨by kernel_rfl, by kernel_rfl, by kernel_rfl, by kernel_rfl, by kernel_rfl, by kernel_rfl⟩
theorem m_may (L : Nat → Int) (v h : Int) : thE (mA L v) 11 8 = 0 ∧ thE (mB L) 11 8 = 0 ∧ thE (mC L v h) 11 8 = 0 ∧ thE (mD L v h) 11 8 = 0 ∧ mtE (mA L v) 8 11 8 = 0 := ⟨by kernel_rfl, by kernel_rfl, by kernel_rfl, by kernel_rfl, by kernel_rfl⟩
theorem m_fit (L : Nat → Int) (v h : Int) : fitB (mA L v) = true ∧ fitB (mB L) = true ∧ fitB (mC L v h) = true ∧ fitB (mD L v h) = true := ⟨by kernel_rfl, by kernel_rfl, by kernel_rfl, by kernel_rfl⟩
end Go.Proofs.YtakmaeohhclngaaGreatDoor.Wd
namespace Go.Proofs.YtakmaeohhclngaaGreatDoor.Wd
open Go.RowKit Go.Proofs.YtakmaeohhclngaaGreatDoor.Mem Go.Proofs.YtakmaeohhclngaaGreatDoor.Bw Go.Proofs.YtakmaeohhclngaaGreatDoor.Nums Go.Proofs.YtakmaeohhclngaaGreatDoor.Mmu Go.Proofs.YtakmaeohhclngaaGreatDoor.Hex Go.Proofs.YtakmaeohhclngaaGreatDoor.Mad
/-- One place is asked by hand. -/
theorem lk_but {α : Type} {bad : Nat → α → Bool} {l : List α} (i : Nat) (d : α) (hi : bad i (l.getD i d) = false) (h : lk (fun k x => if k = i then false else bad k x) l = none) : lk bad l = none := lk_none (fun k hk => by
 by_cases e : k = i
 ·subst e
  rw [List.getD_eq_getElem?_getD, List.getElem?_eq_getElem hk] at hi
  exact hi
 ·unfold lk at h
  rw [List.find?_eq_none] at h
  have := h k (List.mem_range.2 hk)
  rw [List.getElem?_eq_getElem hk] at this
  simpa [e] using this)
/-- The looks that ask letters are done by hand: the words, the tasks, the lines. -/
def sndT (p : PW) : Bool := (lfB p && within 0 1000000 p.time) && (firstOf [(3, lk (fun _ x => nkB x) p.kinds), (2, lk (fun _ x => nd x) p.doms), (8, lk (fun k s => bsB p (p.kinds.getD (k / 16) 0) s) p.slots), (8, lk (fun k x => bfB p k x) p.kinds), (8, lk (fun k t => bcB p k t) p.cores), (8, lk (fun k l => brB p k l) p.ready), (9, lk (fun k x => beB p (p.kinds.getD (k / 16) 0) x) p.ram), (9, lk (fun _ l => bmB p l) p.tlbs)]).1 == 0
theorem first_none {e : Int} {o : Option Nat} {r : List (Int × Option Nat)} (he : e ≠ 0) (h : (firstOf ((e, o) :: r)).1 = 0) : o = none ∧ (firstOf r).1 = 0 := by
 cases o with
 | some k => exact absurd h he
 | none => exact ⟨rfl, h⟩
theorem snd_hand {p : PW} (h1 : ∀ x ∈ p.ram, 0 ≤ x ∧ x ≤ 65535) (h2 : lk (fun k f => btB p k (p.kinds.getD k 0) f) p.tasks = none) (h3 : lk (fun k l => blB p k (p.kinds.getD k 0) (p.bits.getD k 0) l) p.lines = none) (h : sndT p = true) : sndB p = true := by
 unfold sndT at h
 rw [Bool.and_eq_true, beq_iff_eq] at h
 obtain ⟨h0, h⟩ := h
 obtain ⟨a1, h⟩ := first_none (by decide) h
 obtain ⟨a2, h⟩ := first_none (by decide) h
 obtain ⟨a3, h⟩ := first_none (by decide) h
 obtain ⟨a4, h⟩ := first_none (by decide) h
 obtain ⟨a5, h⟩ := first_none (by decide) h
 obtain ⟨a6, h⟩ := first_none (by decide) h
 obtain ⟨a7, h⟩ := first_none (by decide) h
 obtain ⟨a8, h⟩ := first_none (by decide) h
 have e : lk (fun _ x => nwB x) p.ram = none := lk_none (fun k hk => by
  have := h1 _ (List.getElem_mem hk)
  unfold nwB wB
  simpa using this)
 unfold sndB wmA
 rw [h0, if_pos rfl]
 unfold looks
 rw [e, a1, a2, a3, a4, h2, h3, a5, a6, a7, a8]
 rfl
theorem wB_of {v : Int} (h : 0 ≤ v ∧ v ≤ 65535) : wB v = true := decide_eq_true h
/-- A bell in whose line nobody stands, with these bits. -/
theorem bell_ok {p : PW} {v : Int} (hv : 0 ≤ v ∧ v ≤ 65535) (e1 : p.kinds.getD 11 0 = 8) (e2 : p.bits.getD 11 0 = v) (e3 : p.lines.getD 11 [] = []) : blB p (11 : Nat) (p.kinds.getD 11 0) (p.bits.getD 11 0) (p.lines.getD 11 []) = false := by
 rw [e1, e2, e3]
 unfold blB hdB
 simp [wB_of hv]
/-- Task 8, whose registers 1 and 2 are letters. -/
theorem task_ok {p : PW} {f : Nat → Int} {h : Int} (hh : 0 ≤ h ∧ h ≤ 65535) (e0 : p.kinds.getD 8 0 = 6) (ef : p.tasks.getD 8 bl = f) (e2 : f 2 = h) (e3 : (List.range 8).all (fun k => if k = 2 then true else wB (f k)) = true) (e4 : (wB (f 8) && wB (f 15) && wB (f 16) && within 0 6 (f 9) && within 0 3 (f 10) && within 0 ((p.cores.length : Int) - 1) (f 18) && within 0 3 (f 19)) = true) (e5 : (ffB p f && dbB p 8 f && srB p 8 f && rrB p 8 f) = true) : btB p (8 : Nat) (p.kinds.getD 8 0) (p.tasks.getD 8 bl) = false := by
 rw [e0, ef]
 have hr : regB f = true := reg_yes (fun k hk => by
  by_cases e : k = 2
  ·rw [e, e2]; exact wB_of hh
  ·have := List.all_eq_true.1 e3 k (List.mem_range.2 hk)
   rwa [if_neg e] at this)
 have hn : nfB p f = true := by
  unfold nfB
  simp only [Bool.and_eq_true] at e4 ⊢
  exact ⟨⟨⟨⟨⟨⟨⟨hr, e4.1.1.1.1.1.1⟩, e4.1.1.1.1.1.2⟩, e4.1.1.1.1.2⟩, e4.1.1.1.2⟩, e4.1.1.2⟩, e4.1.2⟩, e4.2⟩
 simp only [Bool.and_eq_true] at e5
 unfold btB
 rw [if_pos rfl, hn]
 have e6 : ((8 : Nat) : Int) = 8 := rfl
 rw [e6, e5.1.1.1, e5.1.1.2, e5.1.2, e5.2]
 rfl
theorem mA_snd (L : Nat → Int) (h : ∀ i, i < 32 → 0 ≤ L i ∧ L i ≤ 65535) (v : Int) (hv : 0 ≤ v ∧ v ≤ 65535) : sndB (mA L v) = true :=
 snd_hand (ramL_in h) (by kernel_rfl) (lk_but 11 [] (bell_ok hv (by kernel_rfl) (mA_bits L v) (by kernel_rfl)) (by kernel_rfl)) (by kernel_rfl)
theorem mB_snd (L : Nat → Int) (h : ∀ i, i < 32 → 0 ≤ L i ∧ L i ≤ 65535) : sndB (mB L) = true := snd_ram (ramL_in h) (by kernel_rfl)
theorem mC_snd (L : Nat → Int) (h : ∀ i, i < 32 → 0 ≤ L i ∧ L i ≤ 65535) (v x : Int) (hv : 0 ≤ v ∧ v ≤ 65535) (hx : 0 ≤ x ∧ x ≤ 65535) : sndB (mC L v x) = true :=
 snd_hand (ramL_in h) (lk_but 8 bl (task_ok (f := (mC L v x).tasks.getD 8 bl) (h := x) hx (by kernel_rfl) rfl (by kernel_rfl) (by kernel_rfl) (by kernel_rfl) (by kernel_rfl)) (by kernel_rfl)) (lk_but 11 [] (bell_ok hv (by kernel_rfl) (mC_bits L v x) (by kernel_rfl)) (by kernel_rfl)) (by kernel_rfl)
theorem mD_snd (L : Nat → Int) (h : ∀ i, i < 32 → 0 ≤ L i ∧ L i ≤ 65535) (v x : Int) (hv : 0 ≤ v ∧ v ≤ 65535) (hx : 0 ≤ x ∧ x ≤ 65535) : sndB (mD L v x) = true :=
 snd_hand (ramL_in h) (lk_but 8 bl (task_ok (f := (mD L v x).tasks.getD 8 bl) (h := x) hx (by kernel_rfl) rfl (by kernel_rfl) (by kernel_rfl) (by kernel_rfl) (by kernel_rfl)) (by kernel_rfl)) (lk_but 11 [] (bell_ok hv (by kernel_rfl) (mD_bits L v x) (by kernel_rfl)) (by kernel_rfl)) (by kernel_rfl)
end Go.Proofs.YtakmaeohhclngaaGreatDoor.Wd
namespace Go.Proofs.YtakmaeohhclngaaGreatDoor.Wd
open Go.RowKit Go.Proofs.YtakmaeohhclngaaGreatDoor.Mem Go.Proofs.YtakmaeohhclngaaGreatDoor.Bw Go.Proofs.YtakmaeohhclngaaGreatDoor.Nums Go.Proofs.YtakmaeohhclngaaGreatDoor.Mmu
theorem frB_in {p : PW} {f : Int} (h : frB p f = true) : ∃ t : Nat, t < p.kinds.length ∧ f = t := by
 unfold frB at h
 have h3 := of_decide_eq_true h
 exact ⟨f.toNat, by omega, by omega⟩
theorem mt_in {p : PW} {t a k : Int} (h : mtE p t a k = 0) : ∃ (t' a' : Nat) (ht : t' < p.kinds.length) (ha : a' < p.kinds.length), t = t' ∧ a = a' ∧ p.kinds[t'] = 6 ∧ p.kinds[a'] = k ∧ inB t p.cores = true := by
 unfold mtE at h
 by_cases h1 : (frB p t && frB p a) = true
 ·rw [if_pos h1] at h
  by_cases h2 : (isB p t 6 && isB p a k) = true
  ·rw [if_pos h2] at h
   by_cases h3 : inB t p.cores = true
   ·rw [Bool.and_eq_true] at h1 h2
    obtain ⟨t', ht, rfl⟩ := frB_in h1.1
    obtain ⟨a', ha, rfl⟩ := frB_in h1.2
    exact ⟨t', a', ht, ha, rfl, rfl, isB_at ht h2.1, isB_at ha h2.2, h3⟩
   ·rw [if_neg h3] at h; cases h
  ·rw [if_neg h2] at h; cases h
 ·rw [if_neg h1] at h; cases h
set_option maxRecDepth 100000 in
set_option maxHeartbeats 4000000 in
theorem listen_deed (c1 c2 : Nat) (t0 b0 : Int) (p : PW) (hp : p.Fits) (hl : ∀ l ∈ p.tlbs, l.length ≤ 100) (hs : Snd p) : DeedT 38 #[ptr c1, ptr c2] (CapsT [(c1, .int .i64 t0), (c2, .int .i64 b0)]) eV p (hbP p t0 b0) (mtE p t0 b0 8) := by
 intro W wb tag V bt hc
 have x1 := (hc (c1, .int .i64 t0) (by simp)).1
 have x2 := (hc (c2, .int .i64 b0) (by simp)).1
 have HC := hid hc
 have HT := hid (meet_any wb tag V p t0 b0 8 W bt hp hl hs)
 unfold ptr
 simp only [List.append_toArray, List.cons_append, List.nil_append]
 by_cases h0 : mtE p t0 b0 8 = 0
 rotate_left
 ·rw [eV_n h0] at HT ⊢
  have HN := hid h0
  generalize mtE p t0 b0 8 = x at HT HN ⊢
  clear h0 bt hp hl hs hc
  go_enter Tryz.func38, Tryz.ntmps38
  go_wp2_with fail
  refine HT.out.mono ?_
  rintro q w1 ⟨rfl, hb⟩
  have BL := hid hb
  clear hb
  go_wp2_with fail
  go_ret
  exact ⟨rfl, tag, .below BL.out, fun h => absurd h HN.out⟩
 obtain ⟨t, a, ht, ha, rfl, rfl, hk, hka, hin⟩ := mt_in h0
 rw [h0, eV_0] at HT ⊢
 have htl : t < p.tasks.length := by rw [hs.lf.tasks]; exact ht
 have hal : a < p.lines.length := by rw [hs.lf.lines]; exact ha
 have hab : a < p.bits.length := by rw [hs.lf.bits]; exact ha
 have hl5 : (p.bits.length : Int) ≤ 1000 := by have := hp.bits; omega
 have hb2 : (a : Int) < (p.bits.length : Int) := by omega
 obtain ⟨g5, cap5, e5⟩ := bt.o.bits.form (by omega)
 have E5 := hid e5
 have HBL := hid hab
 have HPP := hid (show hbP p t a = if p.bits.getD a 0 = 0 then ssP p t a 6 else { (p.task t 1 0).task t 2 (p.bits.getD a 0) with bits := p.bits.set a 0 } by unfold hbP; rw [Int.toNat_natCast, Int.toNat_natCast])
 have HS := hid (fun X (h : BoxT X wb tag V p) => standM_any wb tag V p t a 6 X h hp htl hal)
 rw [stand_eq hs ht hk hin 6] at HS
 have HH := hid (fun X (h : BoxT X wb tag V p) => handM_any wb tag V p t 0 (p.bits.getD a 0) X h hp htl)
 have XB := hid (fun X (h : BoxT X wb tag V p) => (h.bitsAt e5 hab).1)
 generalize p.bits.getD a 0 = y at HPP HH XB
 have B0 := hid bt
 clear bt hp hl hs hc h0 hk hka hin e5 htl hal hab ht ha
 by_cases hy : y = 0
 ·have HR := hid (HPP.out.trans (if_pos hy))
  subst hy
  clear HH HPP
  go_enter Tryz.func38, Tryz.ntmps38
  go_wp2_with fail
  refine HT.out.mono ?_
  rintro q w1 ⟨rfl, hb⟩
  have B1 := hid (B0.out.below hb)
  have K1 := hid (show Kt tag tag W w1 from .below hb)
  clear hb x1 x2 HT B0
  have c5 : w1.cell? ⟨wb, 5, none⟩ = some (.slice (some ⟨g5, 0, none⟩) p.bits.length cap5) := by rw [range_cell B1.out.r (k := 5) rfl, E5.out]
  have x5 := XB.out _ B1.out
  have z1 := (HC.out.kt K1.out (c1, .int .i64 t) (by simp)).1
  have z2 := (HC.out.kt K1.out (c2, .int .i64 a) (by simp)).1
  go_upto_region 4 with fail
  go_quiet (fail)
  have B2 := hid (B1.out.below (below_drewN (Below.refl w1.heap.size w1) nq))
  have K2 := hid (K1.out.trans (.below (below_drewN (Below.refl w1.heap.size w1) nq)))
  have y1 : (w1.drewN nq).cell? ⟨c1, 0, none⟩ = some (.int .i64 t) := z1
  have y2 : (w1.drewN nq).cell? ⟨c2, 0, none⟩ = some (.int .i64 a) := z2
  clear c5 x5 z1 z2 B1 K1
  generalize World.drewN _ _ = w2 at *
  go_wp2_with fail
  refine (HS.out _ B2.out).mono ?_
  rintro q w3 ⟨rfl, tg3, h1, k1⟩
  have B3 := hid h1
  have K3 := hid (K2.out.trans k1)
  clear h1 k1 HS y1 y2
  go_wp2_with fail
  go_ret
  exact ⟨rfl, tg3, K3.out, fun _ => ⟨V, by rw [HR.out]; exact B3.out⟩⟩
 ·have HR := hid (HPP.out.trans (if_neg hy))
  have hyb : (y == 0) = false := by simpa using hy
  clear HS HPP hy
  go_enter Tryz.func38, Tryz.ntmps38
  go_wp2_with fail
  refine HT.out.mono ?_
  rintro q w1 ⟨rfl, hb⟩
  have B1 := hid (B0.out.below hb)
  have K1 := hid (show Kt tag tag W w1 from .below hb)
  clear hb x1 x2 HT B0
  have c5 : w1.cell? ⟨wb, 5, none⟩ = some (.slice (some ⟨g5, 0, none⟩) p.bits.length cap5) := by rw [range_cell B1.out.r (k := 5) rfl, E5.out]
  have x5 := XB.out _ B1.out
  have z1 := (HC.out.kt K1.out (c1, .int .i64 t) (by simp)).1
  have z2 := (HC.out.kt K1.out (c2, .int .i64 a) (by simp)).1
  go_upto_region 4 with fail
  go_quiet (fail)
  have B2 := hid (B1.out.below (below_drewN (Below.refl w1.heap.size w1) nq))
  have K2 := hid (K1.out.trans (.below (below_drewN (Below.refl w1.heap.size w1) nq)))
  clear c5 x5 z1 z2 B1 K1
  generalize World.drewN _ _ = w2 at *
  have KS := hid (fun X (h : BoxT X wb tag V p) (k : Kt tag tag W X) => show X.cell? ⟨wb, 5, none⟩ = some (.slice (some ⟨g5, 0, none⟩) p.bits.length cap5) ∧ X.cell? ⟨c1, 0, none⟩ = some (.int .i64 t) ∧ X.cell? ⟨c2, 0, none⟩ = some (.int .i64 a) ∧ X.cell? ⟨g5, a, none⟩ = some (.int .i64 y) from ⟨by rw [range_cell h.r (k := 5) rfl, E5.out], (HC.out.kt k (c1, .int .i64 t) (by simp)).1, (HC.out.kt k (c2, .int .i64 a) (by simp)).1, XB.out _ h⟩)
  go_upto_region 7 with fail
  have BD : Hid (BoxT w2.drew wb tag V p) := hid (B2.out.below (below_drew w2 1))
  have KD : Hid (Kt tag tag W w2.drew) := hid (K2.out.trans (.below (below_drew w2 1)))
  refine wp_region_F (S := fun X => X.cell? ⟨wb, 5, none⟩ = some (.slice (some ⟨g5, 0, none⟩) p.bits.length cap5) ∧ X.cell? ⟨c1, 0, none⟩ = some (.int .i64 t) ∧ X.cell? ⟨c2, 0, none⟩ = some (.int .i64 a)) (R := fun X => X.cell? ⟨g5, a, none⟩ = some (.int .i64 y)) [9] (by kernel_rfl) (let h := KS.out _ BD.out KD.out; ⟨h.1, h.2.1, h.2.2.1⟩) (KS.out _ BD.out KD.out).2.2.2 (fun hS0 hR0 => ?_)
  have hS := hid hS0
  have hR := hid hR0
  clear hS0 hR0
  refine wpAnyF_take (i := 0) (v := .pointer (some ⟨wb, 0, none⟩)) rfl (by kernel_rfl) (by kernel_rfl) (by kernel_rfl) (by kernel_rfl) (fun _ _ _ h => h) (Or.inl ⟨by rfl, fun W h => by clear h; go_simp⟩) hS.out (fun _ => hR.out) ?_
  simp only [jj]
  refine wpAnyF_take (i := 1) (v := .int .i64 t) rfl (by kernel_rfl) (by kernel_rfl) (by kernel_rfl) (by kernel_rfl) (fun _ _ _ h => h) (Or.inl ⟨by rfl, fun W h => by have h3 := h.2.1; clear h; go_simp⟩) hS.out (fun _ => hR.out) ?_
  simp only [jj]
  refine wpAnyF_take (i := 2) (v := .pointer (some ⟨wb, 0, none⟩)) rfl (by kernel_rfl) (by kernel_rfl) (by kernel_rfl) (by kernel_rfl) (fun _ _ _ h => h) (Or.inl ⟨by rfl, fun W h => by clear h; go_simp⟩) hS.out (fun _ => hR.out) ?_
  simp only [jj]
  refine wpAnyF_take (i := 3) (v := .pointer (some ⟨wb, 0, none⟩)) rfl (by kernel_rfl) (by kernel_rfl) (by kernel_rfl) (by kernel_rfl) (fun _ _ _ h => h) (Or.inl ⟨by rfl, fun W h => by clear h; go_simp⟩) hS.out (fun _ => hR.out) ?_
  simp only [jj]
  refine wpAnyF_take (i := 4) (v := .pointer (some ⟨wb, 5, none⟩)) rfl (by kernel_rfl) (by kernel_rfl) (by kernel_rfl) (by kernel_rfl) (fun _ _ _ h => h) (Or.inl ⟨by rfl, fun W h => by clear h; go_simp⟩) hS.out (fun _ => hR.out) ?_
  simp only [jj]
  refine wpAnyF_take (i := 5) (v := .slice (some ⟨g5, 0, none⟩) p.bits.length cap5) rfl (by kernel_rfl) (by kernel_rfl) (by kernel_rfl) (by kernel_rfl) (fun _ _ _ h => h) (Or.inl ⟨by rfl, fun W h => by have h3 := h.1; clear h; go_simp⟩) hS.out (fun _ => hR.out) ?_
  simp only [jj]
  refine wpAnyF_take (i := 6) (v := .int .i64 a) rfl (by kernel_rfl) (by kernel_rfl) (by kernel_rfl) (by kernel_rfl) (fun _ _ _ h => h) (Or.inl ⟨by rfl, fun W h => by have h3 := h.2.2; clear h; go_simp⟩) hS.out (fun _ => hR.out) ?_
  simp only [jj]
  refine wpAnyF_take (i := 7) (v := .pointer (some ⟨g5, a, none⟩)) rfl (by kernel_rfl) (by kernel_rfl) (by kernel_rfl) (by kernel_rfl) (fun _ _ _ h => h) (Or.inl ⟨by rfl, fun W h => by clear h; go_simp⟩) hS.out (fun _ => hR.out) ?_
  simp only [jj]
  refine wpAnyF_takeR (i := 8) (v := .int .i64 y) rfl (by kernel_rfl) (by kernel_rfl) (by kernel_rfl) (by kernel_rfl) (by kernel_rfl) (by kernel_rfl) (fun _ _ _ h => h) (Or.inl ⟨by rfl, fun W h => by have h3 := h.2; clear h; go_simp⟩) hS.out (fun _ => hR.out) ?_
  simp only [jj]
  refine wpAnyF_ready (rs := [9]) (by kernel_rfl) (by simp) (AllReadyF.cons rfl (fun K hK => ?_) AllReadyF.nil)
  go_simp
  refine (HH.out _ BD.out).mono ?_
  rintro q Y ⟨rfl, h1, k1⟩
  have BY := hid h1
  have KY := hid (KD.out.trans k1)
  clear h1 k1
  go_wp2_with fail
  refine hK.out _ _ (by rw [range_cell BY.out.r (k := 5) rfl, E5.out]; exact ⟨rfl, (HC.out.kt KY.out (c1, .int .i64 t) (by simp)).1, (HC.out.kt KY.out (c2, .int .i64 a) (by simp)).1⟩) (notClean (by kernel_rfl)) (fun _ _ => ?_)
  clear hK K
  try simp only [Act.put]
  refine wpAnyF_done (by kernel_rfl) ?_ _
  clear hS hR BD KD B2 K2
  clear KS HH
  go_upto_region 8 with fail
  have BD : Hid (Below Y.heap.size Y Y.drew) := hid (below_drew Y 1)
  have KS := hid (fun X (h : Below Y.heap.size Y X) => show X.cell? ⟨wb, 5, none⟩ = some (.slice (some ⟨g5, 0, none⟩) p.bits.length cap5) ∧ X.cell? ⟨c2, 0, none⟩ = some (.int .i64 a) from ⟨by rw [range_cell (BY.out.below h).r (k := 5) rfl, E5.out], (HC.out.kt (KY.out.trans (.below h)) (c2, .int .i64 a) (by simp)).1⟩)
  refine wp_region_F (S := fun X => X.cell? ⟨wb, 5, none⟩ = some (.slice (some ⟨g5, 0, none⟩) p.bits.length cap5) ∧ X.cell? ⟨c2, 0, none⟩ = some (.int .i64 a)) (R := fun _ => True) [6] (by kernel_rfl) (KS.out _ BD.out) trivial (fun hS0 hR0 => ?_)
  have hS := hid hS0
  have hR := hid hR0
  clear hS0 hR0
  refine wpAnyF_take (i := 0) (v := .pointer (some ⟨wb, 0, none⟩)) rfl (by kernel_rfl) (by kernel_rfl) (by kernel_rfl) (by kernel_rfl) (fun _ _ _ h => h) (Or.inl ⟨by rfl, fun W h => by clear h; go_simp⟩) hS.out (fun _ => hR.out) ?_
  simp only [jj]
  refine wpAnyF_take (i := 1) (v := .pointer (some ⟨wb, 0, none⟩)) rfl (by kernel_rfl) (by kernel_rfl) (by kernel_rfl) (by kernel_rfl) (fun _ _ _ h => h) (Or.inl ⟨by rfl, fun W h => by clear h; go_simp⟩) hS.out (fun _ => hR.out) ?_
  simp only [jj]
  refine wpAnyF_take (i := 2) (v := .pointer (some ⟨wb, 5, none⟩)) rfl (by kernel_rfl) (by kernel_rfl) (by kernel_rfl) (by kernel_rfl) (fun _ _ _ h => h) (Or.inl ⟨by rfl, fun W h => by clear h; go_simp⟩) hS.out (fun _ => hR.out) ?_
  simp only [jj]
  refine wpAnyF_take (i := 3) (v := .slice (some ⟨g5, 0, none⟩) p.bits.length cap5) rfl (by kernel_rfl) (by kernel_rfl) (by kernel_rfl) (by kernel_rfl) (fun _ _ _ h => h) (Or.inl ⟨by rfl, fun W h => by have h3 := h.1; clear h; go_simp⟩) hS.out (fun _ => hR.out) ?_
  simp only [jj]
  refine wpAnyF_take (i := 4) (v := .int .i64 a) rfl (by kernel_rfl) (by kernel_rfl) (by kernel_rfl) (by kernel_rfl) (fun _ _ _ h => h) (Or.inl ⟨by rfl, fun W h => by have h3 := h.2; clear h; go_simp⟩) hS.out (fun _ => hR.out) ?_
  simp only [jj]
  refine wpAnyF_take (i := 5) (v := .pointer (some ⟨g5, a, none⟩)) rfl (by kernel_rfl) (by kernel_rfl) (by kernel_rfl) (by kernel_rfl) (fun _ _ _ h => h) (Or.inl ⟨by rfl, fun W h => by clear h; go_simp⟩) hS.out (fun _ => hR.out) ?_
  simp only [jj]
  obtain ⟨y5, f5⟩ := (BY.out.below BD.out).bitsAt E5.out HBL.out
  obtain ⟨b6, k6⟩ := (BY.out.below BD.out).bitsCell E5.out a 0
  have B6 := hid (show BoxT (Y.setCell ⟨g5, a, none⟩ (.int .i64 0)).drew wb tag V { (p.task t 1 0).task t 2 y with bits := p.bits.set a 0 } from b6)
  have K6 := hid (show Kt tag tag W (Y.setCell ⟨g5, a, none⟩ (.int .i64 0)).drew from (KY.out.trans (.below BD.out)).trans k6)
  have S6 := hid (show (Y.setCell ⟨g5, a, none⟩ (.int .i64 0)).drew.cell? ⟨wb, 5, none⟩ = some (.slice (some ⟨g5, 0, none⟩) p.bits.length cap5) ∧ (Y.setCell ⟨g5, a, none⟩ (.int .i64 0)).drew.cell? ⟨c2, 0, none⟩ = some (.int .i64 a) from ⟨by rw [range_cell B6.out.r (k := 5) rfl, E5.out], (HC.out.kt K6.out (c2, .int .i64 a) (by simp)).1⟩)
  clear b6 k6
  refine wpAnyF_ready (rs := [6]) (by kernel_rfl) (by simp) (AllReadyF.cons rfl (fun K hK => ?_) AllReadyF.nil)
  go_simp
  refine hK.out _ _ S6.out (notClean (by kernel_rfl)) (fun _ _ => ?_)
  clear hK K
  try simp only [Act.put]
  refine wpAnyF_done (by kernel_rfl) ?_ _
  generalize World.drew (World.setCell _ _ _) = W6 at *
  clear KS BD S6 y5 f5 hS hR
  go_wp2_with fail
  go_ret
  exact ⟨rfl, tag, K6.out, V, by rw [HR.out]; exact B6.out⟩
end Go.Proofs.YtakmaeohhclngaaGreatDoor.Wd
