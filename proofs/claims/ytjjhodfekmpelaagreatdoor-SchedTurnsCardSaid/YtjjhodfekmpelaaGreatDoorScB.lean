/- What sched.Start, sched.Stop and sched.Rank do, walked. (Written by mk_sc.py.) · Starting, stopping and ranking a task, by the document: keyholdref.Started, Stop, Ranked; walked. (Written by mk_scref.py.) -/
import Derived.Test.YtjjhodfekmpelaaGreatDoorGLvMore
import Derived.Test.YtjjhodfekmpelaaGreatDoorGRfM2
import Derived.Test.YtjjhodfekmpelaaGreatDoorGRfMore
import Derived.Test.YtjjhodfekmpelaaGreatDoorScA
import Derived.Test.YtjjhodfekmpelaaGreatDoorScAMore
import Derived.Test.YtjjhodfekmpelaaGreatDoorGBx
import Derived.Test.YtjjhodfekmpelaaGreatDoorGBxMore
namespace Go.Proofs.YtjjhodfekmpelaaGreatDoor.Wd
open Go.RowKit Go.Proofs.YtjjhodfekmpelaaGreatDoor.Mem Go.Proofs.YtjjhodfekmpelaaGreatDoor.Bw Go.Proofs.YtjjhodfekmpelaaGreatDoor.Nums Go.Proofs.YtjjhodfekmpelaaGreatDoor.Mmu
set_option maxRecDepth 100000 in
set_option maxHeartbeats 4000000 in
theorem start_deed (c1 : Nat) (t : Nat) (p : PW) (hp : p.Fits) (hs : Snd p) (ht : t < p.kinds.length) (hk : p.kinds[t] = 6) : DeedT 70 #[ptr c1] (CapsT [(c1, .int .i64 t)]) eV p (wnP p t (rdN p t)) (if p.tasks.getD t bl 9 = 0 then 0 else 7) := by
 intro W wb tag V bt hc
 have x1 := (hc (c1, .int .i64 t) (by simp)).1
 have htl : t < p.tasks.length := by rw [hs.lf.tasks]; exact ht
 obtain ⟨g3, cap3, e3⟩ := bt.o.tasks.form (by omega)
 have c3 : W.cell? ⟨wb, 3, none⟩ = some (.slice (some ⟨g3, 0, none⟩) p.tasks.length cap3) := by rw [range_cell bt.r (k := 3) rfl, e3]
 have x9 := bt.taskAt e3 htl (show 9 < 20 by omega)
 have ht2 : (t : Int) < (p.tasks.length : Int) := by omega
 have hl3 : (p.tasks.length : Int) ≤ 1000 := by have := hp.tasks; omega
 obtain ⟨r1, r2, r3, r4⟩ := rdN_eq hs ht hk
 have HW := hid (fun X (h : Below W.heap.size W X) => wake_any wb tag V p t (rdN p t) X (bt.below h) hp htl r1 r3 r4 r2)
 have HQ := hid (fun h9 => start_eq hs ht hk h9 (rdN p t))
 have HC := hid hc
 clear bt hp hs hc e3 r1 r2 r3 r4 htl
 unfold ptr
 simp only [List.append_toArray, List.cons_append, List.nil_append]
 by_cases h9 : p.tasks.getD t bl 9 = 0
 ·have HE := hid (show (if p.tasks.getD t bl 9 = 0 then (0 : Int) else 7) = 0 from if_pos h9)
  have H9 := hid (HQ.out h9)
  rw [h9] at x9
  rw [HE.out]
  clear h9 HQ
  go_enter Tryz.func70, Tryz.ntmps70
  go_upto_region 1 with fail
  go_quiet (fail)
  have BS := hid (below_drewN (Below.refl W.heap.size W) nq)
  generalize World.drewN _ _ = W1 at BS ⊢
  have z1 := (HC.out.kt (.below BS.out) (c1, .int .i64 t) (by simp)).1
  clear x1 x9 c3
  go_wp2_with fail
  refine (HW.out _ BS.out).mono ?_
  rintro r w2 ⟨rfl, tag', h1, h2⟩
  have H1 := hid h1
  have H2 := hid h2
  clear h1 h2
  go_wp2_with fail
  go_ret
  exact ⟨rfl, tag', Kt.trans (.below BS.out) H2.out, fun _ => ⟨V, by rw [← H9.out]; exact H1.out⟩⟩
 ·have HE := hid (show (if p.tasks.getD t bl 9 = 0 then (0 : Int) else 7) = 7 from if_neg h9)
  have h9b : (p.tasks.getD t bl 9 != 0) = true := by simpa using h9
  rw [HE.out]
  generalize p.tasks.getD t bl 9 = y at x9 h9b
  clear h9 HQ HE HW
  go_enter Tryz.func70, Tryz.ntmps70
  go_upto_region 1 with fail
  go_quiet (fail)
  have BS := hid (below_drewN (Below.refl W.heap.size W) nq)
  generalize World.drewN _ _ = W1 at BS ⊢
  go_wp2_with fail
  go_ret
  exact ⟨rfl, tag, Kt.below BS.out⟩
set_option maxRecDepth 100000 in
set_option maxHeartbeats 4000000 in
theorem stop_deed (c1 : Nat) (t : Nat) (p : PW) (hp : p.Fits) (hs : Snd p) (ht : t < p.kinds.length) : DeedT 72 #[ptr c1] (CapsT [(c1, .int .i64 t)]) eV p (stP p t) 0 := by
 intro W wb tag V bt hc
 have x1 := (hc (c1, .int .i64 t) (by simp)).1
 have HW := hid (stop_any wb tag V p t W bt hp (by rw [hs.lf.tasks]; exact ht))
 clear bt hp hs hc ht
 unfold ptr
 simp only [List.append_toArray, List.cons_append, List.nil_append]
 go_enter Tryz.func72, Tryz.ntmps72
 go_wp2_with fail
 refine HW.out.mono ?_
 rintro r w2 ⟨rfl, h1, h2⟩
 have H1 := hid h1
 have H2 := hid h2
 clear h1 h2
 go_wp2_with fail
 go_ret
 exact ⟨rfl, tag, H2.out, fun _ => ⟨V, H1.out⟩⟩
set_option maxRecDepth 100000 in
set_option maxHeartbeats 4000000 in
theorem rank_deed (c1 c2 : Nat) (t : Nat) (b : Int) (p : PW) (hp : p.Fits) (hs : Snd p) (ht : t < p.kinds.length) (hk : p.kinds[t] = 6) : DeedT 74 #[ptr c1, ptr c2] (CapsT [(c1, .int .i64 b), (c2, .int .i64 t)]) eV p (rkP p t b) (if within 0 3 b then 0 else 2) := by
 intro W wb tag V bt hc
 have x1 := (hc (c1, .int .i64 b) (by simp)).1
 have x2 := (hc (c2, .int .i64 t) (by simp)).1
 cases hb : within 0 3 b with
 | false =>
  have HB := hid (show decide (0 ≤ b ∧ b ≤ 3) = false from hb)
  have HWI := hid (withinB b 0 3 W)
  rw [hb] at HWI
  clear bt hp hs hc hb HB
  unfold ptr
  simp only [List.append_toArray, List.cons_append, List.nil_append]
  go_enter Tryz.func74, Tryz.ntmps74
  go_wp2_with fail
  refine HWI.out.mono ?_
  rintro q w1 ⟨rfl, rfl⟩
  go_wp2_with fail
  go_ret
  exact ⟨rfl, tag, Kt.refl _ _⟩
 | true =>
 have HWI := hid (withinB b 0 3 W)
 rw [hb] at HWI
 have htl : t < p.tasks.length := by rw [hs.lf.tasks]; exact ht
 obtain ⟨hb1, hb2⟩ := of_decide_eq_true hb
 obtain ⟨g3, cap3, e3⟩ := bt.o.tasks.form (by omega)
 have E3 := hid e3
 have c3 : W.cell? ⟨wb, 3, none⟩ = some (.slice (some ⟨g3, 0, none⟩) p.tasks.length cap3) := by rw [range_cell bt.r (k := 3) rfl, e3]
 have x10 := bt.taskAt e3 htl (show 10 < 20 by omega)
 have f10 := bt.tasksFr e3 (t * 20 + 10)
 have ht2 : (t : Int) < (p.tasks.length : Int) := by omega
 have hl3 : (p.tasks.length : Int) ≤ 1000 := by have := hp.tasks; omega
 obtain ⟨b1, k1⟩ := (bt.below (below_drew W 1)).task e3 htl (show 10 < 20 by omega) b
 have B1 := hid (show BoxT (W.setCell ⟨g3, t * 20 + 10, none⟩ (.int .i64 b)).drew wb tag V (p.task t 10 b) from b1)
 have K1 := hid (show Kt tag tag W (W.setCell ⟨g3, t * 20 + 10, none⟩ (.int .i64 b)).drew from Kt.trans (.below (below_drew W 1)) k1)
 have HC := hid hc
 have LT := PW.task_len p t 10 b
 have e4 : V 3 = .slice (some ⟨g3, 0, none⟩) (p.task t 10 b).tasks.length cap3 := by rw [LT]; exact e3
 have G9 : (p.task t 10 b).tasks.getD t bl 9 = p.tasks.getD t bl 9 := task_at p t 10 9 b htl (by decide)
 have G18 : (p.task t 10 b).tasks.getD t bl 18 = p.tasks.getD t bl 18 := task_at p t 10 18 b htl (by decide)
 have G10 : (p.task t 10 b).tasks.getD t bl 10 = b := by rw [task_getD p t 10 10 b htl, if_pos rfl]
 obtain ⟨_, _, h18, _⟩ := nf_bounds (snd_task hs ht hk).1
 have hc2 := hs.lf.c2
 have r1 : rdN (p.task t 10 b) t < (p.task t 10 b).ready.length := by
  show rdN (p.task t 10 b) t < p.ready.length
  unfold rdN
  rw [G18, G10, hs.lf.ready]
  omega
 have r2 : (p.task t 10 b).tasks.getD t bl 18 * 4 + (p.task t 10 b).tasks.getD t bl 10 = (rdN (p.task t 10 b) t : Int) := by
  unfold rdN
  rw [G18, G10]
  omega
 have hp1 : (p.task t 10 b).Fits := ⟨hp.ram, hp.kinds, hp.slots, by rw [LT]; exact hp.tasks, hp.lines, hp.line, hp.bits, hp.cores, hp.ready, hp.next, hp.tlbs, hp.doms⟩
 have HW := hid (fun X tg (h : BoxT X wb tg V (p.task t 10 b)) => wake_any wb tg V (p.task t 10 b) t (rdN (p.task t 10 b) t) X h hp1 (by rw [LT]; exact htl) r1 ⟨by rw [G18]; omega, by rw [G18]; omega⟩ ⟨by rw [G10]; omega, by rw [G10]; omega⟩ r2)
 have HY9 := hid (fun X (h : BoxT X wb tag V (p.task t 10 b)) => show X.cell? ⟨g3, t * 20 + 9, none⟩ = some (.int .i64 (p.tasks.getD t bl 9)) by
  have h1 := h.taskAt e4 (i := t) (by rw [LT]; exact htl) (show 9 < 20 by omega)
  rw [G9] at h1
  exact h1)
 have HCN := hid (fun X (h : BoxT X wb tag V (p.task t 10 b)) => contains_any (V 6) p.cores t X (own_ints h.o.cores.1) hp.cores)
 have HR := hid (show rkP p t b = if p.tasks.getD t bl 9 = 1 ∧ inB t p.cores = false then wkP (p.task t 10 b) t (rdN (p.task t 10 b) t) else p.task t 10 b by unfold rkP; rw [Int.toNat_natCast])
 obtain ⟨q6, g6, cap6, e6, -⟩ := bt.o.cores.shape
 have E6 := hid e6
 generalize p.tasks.getD t bl 9 = y at HY9 HR
 generalize inB t p.cores = ic at HCN HR
 clear bt hp hs hc hk b1 k1 e3 e4 hb1 hb2 hb r1 r2 hp1 LT G9 G18 G10 h18 hc2 htl e6
 unfold ptr
 simp only [List.append_toArray, List.cons_append, List.nil_append]
 go_enter Tryz.func74, Tryz.ntmps74
 go_wp2_with fail
 refine HWI.out.mono ?_
 rintro q w1 ⟨rfl, rfl⟩
 go_wp2_with fail
 refine wp_region_held_drew (S := fun X => X.cell? ⟨wb, 3, none⟩ = some (.slice (some ⟨g3, 0, none⟩) p.tasks.length cap3) ∧ X.cell? ⟨c2, 0, none⟩ = some (.int .i64 t) ∧ X.cell? ⟨c1, 0, none⟩ = some (.int .i64 b)) (by kernel_rfl) ⟨c3, x2, x1⟩ (fun hH0 => ?_)
 have hH := hid hH0
 clear hH0
 refine tk 0 (.pointer (some ⟨wb, 0, none⟩)) rfl hH.out ?_
 simp only [jj]
 refine tk 1 (.pointer (some ⟨wb, 0, none⟩)) rfl hH.out ?_
 simp only [jj]
 refine tk 2 (.pointer (some ⟨wb, 3, none⟩)) rfl hH.out ?_
 simp only [jj]
 refine Mem.tg 3 (.slice (some ⟨g3, 0, none⟩) p.tasks.length cap3) rfl (Or.inl ⟨by rfl, fun W h => by have h3 := h.1; clear h; go_simp⟩) hH.out ?_
 simp only [jj]
 refine Mem.tg 4 (.int .i64 t) rfl (Or.inl ⟨by rfl, fun W h => by have h3 := h.2.1; clear h; go_simp⟩) hH.out ?_
 simp only [jj]
 refine Mem.tg 5 (.int .i64 b) rfl (Or.inl ⟨by rfl, fun W h => by have h3 := h.2.2; clear h; go_simp⟩) hH.out ?_
 simp only [jj]
 refine tk 6 (.pointer (some ⟨g3, t * 20, none⟩)) rfl hH.out ?_
 simp only [jj]
 refine tk 7 (.pointer (some ⟨g3, t * 20 + 10, none⟩)) rfl hH.out ?_
 simp only [jj]
 have y10 : W.drew.cell? ⟨g3, t * 20 + 10, none⟩ = _ := x10
 have f10' : W.drew.frozen? ⟨g3, t * 20 + 10, none⟩ = false := f10
 refine wpAnyH_ready (rs := [8]) (by kernel_rfl) (by simp) (AllReadyH.cons rfl (fun K hK => ?_) AllReadyH.nil)
 go_simp
 have S2 := hid (show (W.setCell ⟨g3, t * 20 + 10, none⟩ (.int .i64 b)).drew.cell? ⟨wb, 3, none⟩ = some (.slice (some ⟨g3, 0, none⟩) p.tasks.length cap3) ∧ (W.setCell ⟨g3, t * 20 + 10, none⟩ (.int .i64 b)).drew.cell? ⟨c2, 0, none⟩ = some (.int .i64 t) ∧ (W.setCell ⟨g3, t * 20 + 10, none⟩ (.int .i64 b)).drew.cell? ⟨c1, 0, none⟩ = some (.int .i64 b) from ⟨by rw [range_cell B1.out.r (k := 3) rfl, E3.out], (HC.out.kt K1.out (c2, .int .i64 t) (by simp)).1, (HC.out.kt K1.out (c1, .int .i64 b) (by simp)).1⟩)
 refine hK.out _ _ S2.out (fun _ => ?_)
 clear hK K hH
 try simp only [Act.put]
 refine wpAnyH_done (by kernel_rfl) ?_ _
 generalize World.drew (World.setCell _ _ _) = W1 at *
 go_upto_region 4 with fail
 clear c3 x1 x2 x10 f10 y10 f10' HWI
 have c3 := S2.out.1
 have z2 := S2.out.2.1
 have y9 := HY9.out _ B1.out
 have c6 : W1.cell? ⟨wb, 6, none⟩ = some (.slice q6 p.cores.length cap6) := by rw [range_cell B1.out.r (k := 6) rfl, E6.out]
 have HCX := hid (fun n => (HCN.out (W1.drewN n) (B1.out.below (below_drew W1 n))).mono fun _ _ h => (⟨h.1, h.2.symm⟩ : _ ∧ _))
 rw [E6.out] at HCX
 by_cases hy : y = 1
 ·subst hy
  cases ic with
  | false =>
   have HRR := hid (HR.out.trans (if_pos ⟨rfl, rfl⟩))
   clear HR
   go_quiet (first | (go_at_call 75; refine Calls.quiet_of_same (HCX.out _)))
   have BS := hid (below_drewN (Below.refl W1.heap.size W1) nq)
   generalize World.drewN _ _ = W2 at BS ⊢
   have B2 := hid (B1.out.below BS.out)
   have K2 := hid (K1.out.trans (.below BS.out))
   have z3 := (HC.out.kt K2.out (c2, .int .i64 t) (by simp)).1
   clear c3 z2 y9 c6 HCX S2 HCN HY9
   go_wp2_with fail
   refine (HW.out _ _ B2.out).mono ?_
   rintro r w2 ⟨rfl, tag', h1, h2⟩
   have H1 := hid h1
   have H2 := hid h2
   clear h1 h2
   go_wp2_with fail
   go_ret
   exact ⟨rfl, tag', K2.out.trans H2.out, ⟨V, by rw [HRR.out]; exact H1.out⟩⟩
  | true =>
   have HRR := hid (HR.out.trans (if_neg (fun h => by cases h.2)))
   clear HR HW
   go_quiet (first | (go_at_call 75; refine Calls.quiet_of_same (HCX.out _)))
   have BS := hid (below_drewN (Below.refl W1.heap.size W1) nq)
   generalize World.drewN _ _ = W2 at BS ⊢
   clear c3 z2 y9 c6 HCX S2 HCN HY9
   go_wp2_with fail
   go_ret
   exact ⟨rfl, tag, K1.out.trans (.below BS.out), ⟨V, by rw [HRR.out]; exact B1.out.below BS.out⟩⟩
 ·have HRR := hid (HR.out.trans (if_neg (fun h => hy h.1)))
  have hyb : (y == 1) = false := by simpa using hy
  clear HR HW hy
  go_quiet (fail)
  have BS := hid (below_drewN (Below.refl W1.heap.size W1) nq)
  generalize World.drewN _ _ = W2 at BS ⊢
  clear c3 z2 y9 c6 HCX S2 HCN HY9
  go_wp2_with fail
  go_ret
  exact ⟨rfl, tag, K1.out.trans (.below BS.out), ⟨V, by rw [HRR.out]; exact B1.out.below BS.out⟩⟩
set_option maxRecDepth 100000 in
set_option maxHeartbeats 8000000 in
theorem started_ref (a : Int) (p : PW) (hp : p.Fits) (hl : ∀ l ∈ p.tlbs, l.length ≤ 100) (hs : Snd p) (W : World) (wb : Nat) (tag : Nat → Nat) (V : Nat → Value) (bt : BoxT W wb tag V p) :
  Calls Tryz.prog 26 #[.pointer (some ⟨wb, 0, none⟩), .int .i64 a] W fun x W' => x = .returned (.int .i64 (srE p a)) ∧ ∃ tag', Kt tag tag' W W' ∧ (srE p a = 0 → ∃ V', BoxT W' wb tag' V' (srP p a)) := by
 have HM := hid (taskMay_ref wb V p a W (bt.view hp hl))
 by_cases h0 : thE p a 6 = 0
 rotate_left
 ·have HE := hid (show srE p a = thE p a 6 from if_neg h0)
  have h0b : (thE p a 6 != 0) = true := by simpa using h0
  rw [HE.out]
  have HN := hid h0
  generalize thE p a 6 = x at HM h0b HN ⊢
  clear h0 bt HE
  go_enter Tryz.func26, Tryz.ntmps26
  go_wp2_with fail
  refine HM.out.mono ?_
  rintro q w1 ⟨rfl, rfl⟩
  go_wp2_with fail
  go_ret
  exact ⟨rfl, tag, Kt.refl _ _, fun h => absurd h HN.out⟩
 obtain ⟨t, ht, rfl, hk⟩ := thE_in h0
 rw [h0] at HM
 have htl : t < p.tasks.length := by rw [hs.lf.tasks]; exact ht
 obtain ⟨g3, cap3, e3⟩ := bt.o.tasks.form (by omega)
 have c3 : W.cell? ⟨wb, 3, none⟩ = some (.slice (some ⟨g3, 0, none⟩) p.tasks.length cap3) := by rw [range_cell bt.r (k := 3) rfl, e3]
 have x9 := bt.taskAt e3 htl (show 9 < 20 by omega)
 have ht2 : (t : Int) < (p.tasks.length : Int) := by omega
 have hl3 : (p.tasks.length : Int) ≤ 1000 := by have := hp.tasks; omega
 obtain ⟨r1, r2, r3, r4⟩ := rdN_eq hs ht hk
 have HW := hid (woken_ref wb tag V p t (rdN p t) W bt hp htl r1 r3 r4 r2)
 have HE0 := hid (show srE p t = if p.tasks.getD t bl 9 = 0 then 0 else 7 by unfold srE; rw [if_pos h0, Int.toNat_natCast])
 have HPP := hid (show srP p t = wnP p t (rdN p t) by unfold srP; rw [Int.toNat_natCast])
 generalize p.tasks.getD t bl 9 = y at x9 HE0
 clear bt hp hs hk hl e3 r1 r2 r3 r4 htl h0
 by_cases h9 : y = 0
 ·have HE := hid (HE0.out.trans (if_pos h9))
  subst h9
  rw [HE.out]
  go_enter Tryz.func26, Tryz.ntmps26
  go_wp2_with fail
  refine HM.out.mono ?_
  rintro q w1 ⟨rfl, rfl⟩
  go_wp2_with fail
  refine HW.out.mono ?_
  rintro q w2 ⟨rfl, tag', h1, h2⟩
  have H1 := hid h1
  have H2 := hid h2
  clear h1 h2
  go_wp2_with fail
  go_ret
  exact ⟨rfl, tag', H2.out, fun _ => ⟨V, by rw [HPP.out]; exact H1.out⟩⟩
 ·have HE := hid (HE0.out.trans (if_neg h9))
  have h9b : (y != 0) = true := by simpa using h9
  rw [HE.out]
  clear h9 HW
  go_enter Tryz.func26, Tryz.ntmps26
  go_wp2_with fail
  refine HM.out.mono ?_
  rintro q w1 ⟨rfl, rfl⟩
  go_wp2_with fail
  go_ret
  exact ⟨rfl, tag, Kt.refl _ _, fun h => by cases h⟩
set_option maxRecDepth 100000 in
set_option maxHeartbeats 8000000 in
theorem stopR_ref (a : Int) (p : PW) (hp : p.Fits) (hl : ∀ l ∈ p.tlbs, l.length ≤ 100) (hs : Snd p) (W : World) (wb : Nat) (tag : Nat → Nat) (V : Nat → Value) (bt : BoxT W wb tag V p) :
  Calls Tryz.prog 28 #[.pointer (some ⟨wb, 0, none⟩), .int .i64 a] W fun x W' => x = .returned (.int .i64 (thE p a 6)) ∧ ∃ tag', Kt tag tag' W W' ∧ (thE p a 6 = 0 → ∃ V', BoxT W' wb tag' V' (stP p a.toNat)) := by
 have HM := hid (taskMay_ref wb V p a W (bt.view hp hl))
 by_cases h0 : thE p a 6 = 0
 rotate_left
 ·have h0b : (thE p a 6 == 0) = false := by simpa using h0
  have HN := hid h0
  generalize thE p a 6 = x at HM h0b HN ⊢
  clear h0 bt
  go_enter Tryz.func28, Tryz.ntmps28
  go_wp2_with fail
  refine HM.out.mono ?_
  rintro q w1 ⟨rfl, rfl⟩
  go_wp2_with fail
  go_ret
  exact ⟨rfl, tag, Kt.refl _ _, fun h => absurd h HN.out⟩
 obtain ⟨t, ht, rfl, hk⟩ := thE_in h0
 rw [h0] at HM
 have HW := hid (stopped_ref wb tag V p t W bt hp (by rw [hs.lf.tasks]; exact ht))
 have HE := hid h0
 rw [Int.toNat_natCast]
 clear bt hp hs hk hl h0
 go_enter Tryz.func28, Tryz.ntmps28
 go_wp2_with fail
 refine HM.out.mono ?_
 rintro q w1 ⟨rfl, rfl⟩
 go_wp2_with fail
 refine HW.out.mono ?_
 rintro q w2 ⟨rfl, tag', h1, h2⟩
 have H1 := hid h1
 have H2 := hid h2
 clear h1 h2
 go_wp2_with fail
 go_ret
 exact ⟨by rw [HE.out]; rfl, tag', H2.out, fun _ => ⟨V, H1.out⟩⟩
set_option maxRecDepth 100000 in
set_option maxHeartbeats 8000000 in
theorem ranked_ref (a b : Int) (p : PW) (hp : p.Fits) (hl : ∀ l ∈ p.tlbs, l.length ≤ 100) (hs : Snd p) (W : World) (wb : Nat) (tag : Nat → Nat) (V : Nat → Value) (bt : BoxT W wb tag V p) :
  Calls Tryz.prog 30 #[.pointer (some ⟨wb, 0, none⟩), .int .i64 a, .int .i64 b] W fun x W' => x = .returned (.int .i64 (rkE p a b)) ∧ ∃ tag', Kt tag tag' W W' ∧ (rkE p a b = 0 → ∃ V', BoxT W' wb tag' V' (rkP p a b)) := by
 have HM := hid (taskMay_ref wb V p a W (bt.view hp hl))
 by_cases h0 : thE p a 6 = 0
 rotate_left
 ·have HE := hid (show rkE p a b = thE p a 6 from if_neg h0)
  have h0b : (thE p a 6 != 0) = true := by simpa using h0
  rw [HE.out]
  have HN := hid h0
  generalize thE p a 6 = x at HM h0b HN ⊢
  clear h0 bt HE
  go_enter Tryz.func30, Tryz.ntmps30
  go_wp2_with fail
  refine HM.out.mono ?_
  rintro q w1 ⟨rfl, rfl⟩
  go_wp2_with fail
  go_ret
  exact ⟨rfl, tag, Kt.refl _ _, fun h => absurd h HN.out⟩
 obtain ⟨t, ht, rfl, hk⟩ := thE_in h0
 rw [h0] at HM
 have HE0 := hid (show rkE p t b = if within 0 3 b then 0 else 2 by unfold rkE; rw [if_pos h0])
 have HFA := hid (far_any b 3 W)
 cases hb : within 0 3 b with
 | false =>
  rw [hb, if_neg (by decide)] at HE0
  have hfb : decide (b < 0 ∨ 3 < b) = true := decide_eq_true (by have := of_decide_eq_false hb; omega)
  rw [hfb] at HFA
  rw [HE0.out]
  clear bt hp hs hk hl h0 hb hfb
  go_enter Tryz.func30, Tryz.ntmps30
  go_wp2_with fail
  refine HM.out.mono ?_
  rintro q w1 ⟨rfl, rfl⟩
  go_wp2_with fail
  refine HFA.out.mono ?_
  rintro q w1 ⟨rfl, rfl⟩
  go_wp2_with fail
  go_ret
  exact ⟨rfl, tag, Kt.refl _ _, fun h => by cases h⟩
 | true =>
 rw [hb, if_pos rfl] at HE0
 have hb2 := of_decide_eq_true hb
 have hfb : decide (b < 0 ∨ 3 < b) = false := decide_eq_false (by omega)
 rw [hfb] at HFA
 rw [HE0.out]
 have htl : t < p.tasks.length := by rw [hs.lf.tasks]; exact ht
 obtain ⟨g3, cap3, e3⟩ := bt.o.tasks.form (by omega)
 have E3 := hid e3
 have HTL := hid htl
 have ht2 : (t : Int) < (p.tasks.length : Int) := by omega
 have hl3 : (p.tasks.length : Int) ≤ 1000 := by have := hp.tasks; omega
 have hl7 : (p.ready.length : Int) ≤ 1000 := by have := hp.ready; omega
 have HLL := hid hp.next
 have B0 := hid bt
 have HEQ := hid (rank_eq hs ht hk b)
 have LT := PW.task_len p t 10 b
 have G18 : (p.task t 10 b).tasks.getD t bl 18 = p.tasks.getD t bl 18 := task_at p t 10 18 b htl (by decide)
 have G10 : (p.task t 10 b).tasks.getD t bl 10 = b := by rw [task_getD p t 10 10 b htl, if_pos rfl]
 obtain ⟨_, _, h18, _⟩ := nf_bounds (snd_task hs ht hk).1
 have hc2 := hs.lf.c2
 have r1 : rdN (p.task t 10 b) t < p.ready.length := by
  unfold rdN
  rw [G18, G10, hs.lf.ready]
  omega
 have r2 : (p.task t 10 b).tasks.getD t bl 18 * 4 + (p.task t 10 b).tasks.getD t bl 10 = (rdN (p.task t 10 b) t : Int) := by
  unfold rdN
  rw [G18, G10]
  omega
 have hp2 : (({ p with ready := lvs t p.ready } : PW).task t 10 b).Fits := ⟨hp.ram, hp.kinds, hp.slots, by rw [PW.task_len]; exact hp.tasks, hp.lines, hp.line, hp.bits, hp.cores, by show (lvs t p.ready).length ≤ 1000; rw [lvs_len]; exact hp.ready, fun l hm => by
  have h1 : l ∈ lvs t p.ready := hm
  unfold lvs at h1
  obtain ⟨l0, h2, rfl⟩ := List.mem_map.1 h1
  exact Nat.le_trans (List.length_filter_le _ _) (hp.next l0 h2), hp.tlbs, hp.doms⟩
 have HW := hid (fun X tg (h : BoxT X wb tg V (({ p with ready := lvs t p.ready } : PW).task t 10 b)) => woken_ref wb tg V (({ p with ready := lvs t p.ready } : PW).task t 10 b) t (rdN (p.task t 10 b) t) X h hp2 (by rw [PW.task_len]; exact htl) (by show rdN (p.task t 10 b) t < (lvs t p.ready).length; rw [lvs_len]; exact r1) ⟨by show 0 ≤ (p.task t 10 b).tasks.getD t bl 18; rw [G18]; omega, by show (p.task t 10 b).tasks.getD t bl 18 ≤ 1000; rw [G18]; omega⟩ ⟨by show 0 ≤ (p.task t 10 b).tasks.getD t bl 10; rw [G10]; omega, by show (p.task t 10 b).tasks.getD t bl 10 ≤ 1000; rw [G10]; omega⟩ r2)
 clear bt hp hs hk hl h0 hb hfb hb2 e3 htl LT G18 G10 h18 hc2 r1 r2 hp2
 go_enter Tryz.func30, Tryz.ntmps30
 go_wp2_with fail
 refine HM.out.mono ?_
 rintro q w1 ⟨rfl, rfl⟩
 go_wp2_with fail
 refine HFA.out.mono ?_
 rintro q w1 ⟨rfl, rfl⟩
 go_wp2_with fail
 go_loopw [8, 9] (fun s i wr => ∃ (k : Nat) (tg : Nat → Nat), k ≤ p.ready.length ∧ s = .bool (decide (0 < cna t (p.ready.take k))) ∧ i = .int .i64 k ∧ Hid (BoxT wr wb tg V { p with ready := mapK (goneP fun x => x == (t : Int)) k p.ready }) ∧ Hid (Kt tag tg W wr)) (fun _ i _ => p.ready.length - (intOf i).toNat)
 case atStart => exact ⟨0, tag, by omega, rfl, rfl, hid (by rw [mapK_zero]; exact B0.out), hid (Kt.refl _ _)⟩
 case round =>
  obtain ⟨k, tg, hk2, rfl, rfl, HT, HK⟩ := hrel
  obtain ⟨gL, eL⟩ := HT.out.o.ready.form
  have EL := hid (show V 7 = .slice (some ⟨gL, 0, none⟩) p.ready.length p.ready.length from eL.trans (congrArg (fun m => Value.slice (some ⟨gL, 0, none⟩) m m) (mapK_len _ _ _)))
  have HLR := hid (show ListT wr tg 9 13 22 3 1 p.ready.length (.slice (some ⟨gL, 0, none⟩) p.ready.length p.ready.length) (ci (mapK (goneP fun x => x == (t : Int)) k p.ready)) by
   have h1 := HT.out.o.ready
   simp only at h1
   rw [mapK_len, EL.out] at h1
   exact h1)
  have cl : wr.cell? ⟨wb, 7, none⟩ = some (.slice (some ⟨gL, 0, none⟩) p.ready.length p.ready.length) := by rw [range_cell HT.out.r (k := 7) rfl, EL.out]
  clear eL
  by_cases hlt : k < p.ready.length
  ·have hlt2 : (k : Int) < (p.ready.length : Int) := by omega
   have HST := hid (show decide (0 < cna t (p.ready.take (k + 1))) = (decide (0 < cna t (p.ready.take k)) || inB t p.ready[k]) by
    have h1 : cna t (p.ready.take (k + 1)) = cna t (p.ready.take k) + cn t p.ready[k] := sum_next (cn t) hlt
    unfold inB
    rw [h1, Bool.eq_iff_iff]
    simp only [decide_eq_true_eq, Bool.or_eq_true]
    omega)
   obtain ⟨ux, cux, hux⟩ := HLR.out.at (j := k) hlt
   have HIN := hid (show IntsIn wr ux p.ready[k] by
    have hkl : k < (mapK (goneP fun x => x == (t : Int)) k p.ready).length := by rw [mapK_len]; exact hlt
    have h1 := hux.1
    unfold ci at h1
    rw [List.getD_eq_getElem?_getD, List.getElem?_eq_getElem hkl, Option.getD_some, mapK_at _ _ _ hlt hkl] at h1
    exact own_ints h1)
   have HII := hid (in_any ux p.ready[k] t wr HIN.out (HLL.out _ (List.getElem_mem hlt)))
   clear hux
   generalize decide (0 < cna t (p.ready.take k)) = sb at HST ⊢
   generalize hic : inB t p.ready[k] = ic at HST HII
   clear hic
   cases sb with
   | true =>
    rw [Bool.true_or] at HST
    clear HII HIN
    go_wp2_with fail
    clear cl cux
    obtain ⟨u, cu, hu⟩ := HLR.out.at (j := k) hlt
    have HCI := hid (show ci (mapK (goneP fun x => x == (t : Int)) k p.ready) k = (p.ready[k].length, ints p.ready[k]) by
     have hkl : k < (mapK (goneP fun x => x == (t : Int)) k p.ready).length := by rw [mapK_len]; exact hlt
     unfold ci
     rw [List.getD_eq_getElem?_getD, List.getElem?_eq_getElem hkl, Option.getD_some, mapK_at _ _ _ hlt hkl])
    rw [HCI.out] at hu
    have HU := hid (own_ints hu.1)
    have HZL := hid (HLL.out _ (List.getElem_mem hlt))
    have FRZ := hid (fun X (h : Below wr.heap.size wr X) => show X.frozen? ⟨gL, k, none⟩ = false from (HLR.out.kp (T := fun _ => False) (.of_below h) (fun _ _ => rfl) (fun _ _ e => e)).fr k)
    have KS := hid (fun X (h : Below wr.heap.size wr X) => show X.cell? ⟨wb, 7, none⟩ = some (.slice (some ⟨gL, 0, none⟩) p.ready.length p.ready.length) by rw [range_cell (HT.out.below h).r (k := 7) rfl, EL.out])
    have KR := hid (fun X (h : Below wr.heap.size wr X) => show X.cell? ⟨gL, k, none⟩ = some u from (h.cell (World.block_lt_of_cell? _ _ cu)).trans cu)
    have BD : Hid (Below wr.heap.size wr wr.drew) := hid (below_drew wr 1)
    have FIN := hid (fun X v (h : Below wr.heap.size wr X) (ho : X.ownsRow wr.heap.size 3 1 v ((goneP fun x => x == (t : Int)) p.ready[k]).length (ints ((goneP fun x => x == (t : Int)) p.ready[k]))) => show BoxT (X.setCell ⟨gL, k, none⟩ v) wb (tagN tg wr.heap.size (13 + 3 * k)) V { p with ready := mapK (goneP fun x => x == (t : Int)) (k + 1) p.ready } ∧ Kt tag (tagN tg wr.heap.size (13 + 3 * k)) W (X.setCell ⟨gL, k, none⟩ v) from by
     obtain ⟨hp1, hp2⟩ := HLR.out.put (tag' := tagN tg wr.heap.size (13 + 3 * k)) (w1 := X) (u := v) (c := (((goneP fun x => x == (t : Int)) p.ready[k]).length, ints ((goneP fun x => x == (t : Int)) p.ready[k]))) (j := k) hlt (fun j => by omega) (.of_below h) (fun k hk => tagN_lt hk) ⟨ho.mono (Nat.zero_le _), fun j e => by
      unfold tagN
      rw [if_neg (by have := (ho.lt j e).1; omega)]⟩
     refine ⟨HT.out.ready hp2 (fun k hk => tagN_lt hk) ?_, HK.out.trans (Kt.of (tag' := tagN tg wr.heap.size (13 + 3 * k)) hp2 (fun k e => by rcases e with e | ⟨j, e⟩ <;> omega) (fun k hk => tagN_lt hk))⟩
     rw [mapK_len, EL.out, mapK_succ _ _ _ hlt, ci_set _ _ (by rw [mapK_len]; exact hlt)]
     exact hp1)
    clear hu cu HCI
    refine wp_region_F (S := fun X => X.cell? ⟨wb, 7, none⟩ = some (.slice (some ⟨gL, 0, none⟩) p.ready.length p.ready.length)) (R := fun X => X.cell? ⟨gL, k, none⟩ = some u) [15] (by kernel_rfl) (KS.out _ BD.out) (KR.out _ BD.out) (fun hS0 hR0 => ?_)
    have hS := hid hS0
    have hR := hid hR0
    clear hS0 hR0
    refine wpAnyF_take (i := 0) (v := .pointer (some ⟨wb, 0, none⟩)) rfl (by kernel_rfl) (by kernel_rfl) (by kernel_rfl) (by kernel_rfl) (fun _ _ _ h => h) (Or.inl ⟨by rfl, fun W h => by clear h; go_simp⟩) hS.out (fun _ => hR.out) ?_
    simp only [jj]
    refine wpAnyF_take (i := 1) (v := .pointer (some ⟨wb, 0, none⟩)) rfl (by kernel_rfl) (by kernel_rfl) (by kernel_rfl) (by kernel_rfl) (fun _ _ _ h => h) (Or.inl ⟨by rfl, fun W h => by clear h; go_simp⟩) hS.out (fun _ => hR.out) ?_
    simp only [jj]
    refine wpAnyF_take (i := 2) (v := .pointer (some ⟨wb, 7, none⟩)) rfl (by kernel_rfl) (by kernel_rfl) (by kernel_rfl) (by kernel_rfl) (fun _ _ _ h => h) (Or.inl ⟨by rfl, fun W h => by clear h; go_simp⟩) hS.out (fun _ => hR.out) ?_
    simp only [jj]
    refine wpAnyF_take (i := 3) (v := .slice (some ⟨gL, 0, none⟩) p.ready.length p.ready.length) rfl (by kernel_rfl) (by kernel_rfl) (by kernel_rfl) (by kernel_rfl) (fun _ _ _ h => h) (Or.inl ⟨by rfl, fun W h => by have h3 := h; clear h; go_simp⟩) hS.out (fun _ => hR.out) ?_
    simp only [jj]
    refine wpAnyF_take (i := 4) (v := .int .i64 k) rfl (by kernel_rfl) (by kernel_rfl) (by kernel_rfl) (by kernel_rfl) (fun _ _ _ h => h) (Or.inl ⟨by rfl, fun W h => by clear h; go_simp⟩) hS.out (fun _ => hR.out) ?_
    simp only [jj]
    refine wpAnyF_take (i := 5) (v := .pointer (some ⟨wb, 0, none⟩)) rfl (by kernel_rfl) (by kernel_rfl) (by kernel_rfl) (by kernel_rfl) (fun _ _ _ h => h) (Or.inl ⟨by rfl, fun W h => by clear h; go_simp⟩) hS.out (fun _ => hR.out) ?_
    simp only [jj]
    refine wpAnyF_take (i := 6) (v := .pointer (some ⟨wb, 0, none⟩)) rfl (by kernel_rfl) (by kernel_rfl) (by kernel_rfl) (by kernel_rfl) (fun _ _ _ h => h) (Or.inl ⟨by rfl, fun W h => by clear h; go_simp⟩) hS.out (fun _ => hR.out) ?_
    simp only [jj]
    refine wpAnyF_take (i := 7) (v := .pointer (some ⟨wb, 7, none⟩)) rfl (by kernel_rfl) (by kernel_rfl) (by kernel_rfl) (by kernel_rfl) (fun _ _ _ h => h) (Or.inl ⟨by rfl, fun W h => by clear h; go_simp⟩) hS.out (fun _ => hR.out) ?_
    simp only [jj]
    refine wpAnyF_take (i := 8) (v := .slice (some ⟨gL, 0, none⟩) p.ready.length p.ready.length) rfl (by kernel_rfl) (by kernel_rfl) (by kernel_rfl) (by kernel_rfl) (fun _ _ _ h => h) (Or.inl ⟨by rfl, fun W h => by have h3 := h; clear h; go_simp⟩) hS.out (fun _ => hR.out) ?_
    simp only [jj]
    refine wpAnyF_take (i := 9) (v := .int .i64 k) rfl (by kernel_rfl) (by kernel_rfl) (by kernel_rfl) (by kernel_rfl) (fun _ _ _ h => h) (Or.inl ⟨by rfl, fun W h => by clear h; go_simp⟩) hS.out (fun _ => hR.out) ?_
    simp only [jj]
    refine wpAnyF_take (i := 10) (v := .pointer (some ⟨gL, k, none⟩)) rfl (by kernel_rfl) (by kernel_rfl) (by kernel_rfl) (by kernel_rfl) (fun _ _ _ h => h) (Or.inl ⟨by rfl, fun W h => by clear h; go_simp⟩) hS.out (fun _ => hR.out) ?_
    simp only [jj]
    refine wpAnyF_takeR (i := 11) (v := u) rfl (by kernel_rfl) (by kernel_rfl) (by kernel_rfl) (by kernel_rfl) (by kernel_rfl) (by kernel_rfl) (fun _ _ _ h => h) (Or.inl ⟨by rfl, fun W h => by have h3 := h.2; clear h; go_simp⟩) hS.out (fun _ => hR.out) ?_
    simp only [jj]
    refine wpAnyF_take (i := 12) (v := .int .i64 t) rfl (by kernel_rfl) (by kernel_rfl) (by kernel_rfl) (by kernel_rfl) (fun _ _ _ h => h) (Or.inl ⟨by rfl, fun W h => by clear h; go_simp⟩) hS.out (fun _ => hR.out) ?_
    simp only [jj]
    refine wpAnyF_ready (rs := [13]) (by kernel_rfl) (by simp) (AllReadyF.cons rfl (fun K hK => ?_) AllReadyF.nil)
    go_simp
    refine (without_ref u p.ready[k] t _ (HU.out.below BD.out) HZL.out).mono ?_
    rintro r w1 ⟨v, rfl, ho, hb⟩
    obtain ⟨qv, cv, rfl⟩ := own_form ho
    have A1 := hid (btr BD.out hb)
    have HO := hid ho
    clear ho hb
    go_wp2_with fail
    refine hK.out _ _ (KS.out _ A1.out) (fun _ => KR.out _ A1.out) (fun _ _ => ?_)
    clear hK K
    try simp only [Act.put, jD, jE, jF]
    have S1 := hid (KS.out _ A1.out)
    have R1 := hid (KR.out _ A1.out)
    clear hS hR
    refine wpAnyF_take (i := 14) (v := .pointer (some ⟨gL, k, none⟩)) rfl (by kernel_rfl) (by kernel_rfl) (by kernel_rfl) (by kernel_rfl) (fun _ _ _ h => h) (Or.inl ⟨by rfl, fun W h => by clear h; go_simp⟩) S1.out (fun _ => R1.out) ?_
    simp only [jj]
    have cwb := S1.out
    have cgl := R1.out
    have fgl := FRZ.out _ A1.out
    obtain ⟨hb6, hk6⟩ := FIN.out w1 _ A1.out HO.out
    have B6 := hid hb6
    have K6 := hid hk6
    have S6 := hid (show (w1.setCell ⟨gL, k, none⟩ (.slice qv ((goneP fun x => x == (t : Int)) p.ready[k]).length cv)).cell? ⟨wb, 7, none⟩ = some (.slice (some ⟨gL, 0, none⟩) p.ready.length p.ready.length) by rw [range_cell hb6.r (k := 7) rfl, EL.out])
    clear hb6 hk6 FIN HO
    refine wpAnyF_ready (rs := [15]) (by kernel_rfl) (by simp) (AllReadyF.cons rfl (fun K hK => ?_) AllReadyF.nil)
    go_simp
    refine hK.out _ _ S6.out (notClean (by kernel_rfl)) (fun _ _ => ?_)
    clear hK K
    try simp only [Act.put]
    refine wpAnyF_done (by kernel_rfl) ?_ _
    generalize World.setCell _ _ _ = W6 at *
    clear KS KR BD FRZ HU A1 S1 R1 S6 cwb cgl fgl
    go_wp2_with fail
    exact ⟨⟨k + 1, _, by omega, by rw [HST.out], by go_num, B6, K6⟩, by simp [intOf]; omega⟩
   | false =>
    rw [Bool.false_or] at HST
    go_wp2_with fail
    refine HII.out.mono ?_
    rintro r0 w0 ⟨rfl, rfl⟩
    clear HII HIN
    go_wp2_with fail
    clear cl cux
    obtain ⟨u, cu, hu⟩ := HLR.out.at (j := k) hlt
    have HCI := hid (show ci (mapK (goneP fun x => x == (t : Int)) k p.ready) k = (p.ready[k].length, ints p.ready[k]) by
     have hkl : k < (mapK (goneP fun x => x == (t : Int)) k p.ready).length := by rw [mapK_len]; exact hlt
     unfold ci
     rw [List.getD_eq_getElem?_getD, List.getElem?_eq_getElem hkl, Option.getD_some, mapK_at _ _ _ hlt hkl])
    rw [HCI.out] at hu
    have HU := hid (own_ints hu.1)
    have HZL := hid (HLL.out _ (List.getElem_mem hlt))
    have FRZ := hid (fun X (h : Below wr.heap.size wr X) => show X.frozen? ⟨gL, k, none⟩ = false from (HLR.out.kp (T := fun _ => False) (.of_below h) (fun _ _ => rfl) (fun _ _ e => e)).fr k)
    have KS := hid (fun X (h : Below wr.heap.size wr X) => show X.cell? ⟨wb, 7, none⟩ = some (.slice (some ⟨gL, 0, none⟩) p.ready.length p.ready.length) by rw [range_cell (HT.out.below h).r (k := 7) rfl, EL.out])
    have KR := hid (fun X (h : Below wr.heap.size wr X) => show X.cell? ⟨gL, k, none⟩ = some u from (h.cell (World.block_lt_of_cell? _ _ cu)).trans cu)
    have BD : Hid (Below wr.heap.size wr wr.drew) := hid (below_drew wr 1)
    have FIN := hid (fun X v (h : Below wr.heap.size wr X) (ho : X.ownsRow wr.heap.size 3 1 v ((goneP fun x => x == (t : Int)) p.ready[k]).length (ints ((goneP fun x => x == (t : Int)) p.ready[k]))) => show BoxT (X.setCell ⟨gL, k, none⟩ v) wb (tagN tg wr.heap.size (13 + 3 * k)) V { p with ready := mapK (goneP fun x => x == (t : Int)) (k + 1) p.ready } ∧ Kt tag (tagN tg wr.heap.size (13 + 3 * k)) W (X.setCell ⟨gL, k, none⟩ v) from by
     obtain ⟨hp1, hp2⟩ := HLR.out.put (tag' := tagN tg wr.heap.size (13 + 3 * k)) (w1 := X) (u := v) (c := (((goneP fun x => x == (t : Int)) p.ready[k]).length, ints ((goneP fun x => x == (t : Int)) p.ready[k]))) (j := k) hlt (fun j => by omega) (.of_below h) (fun k hk => tagN_lt hk) ⟨ho.mono (Nat.zero_le _), fun j e => by
      unfold tagN
      rw [if_neg (by have := (ho.lt j e).1; omega)]⟩
     refine ⟨HT.out.ready hp2 (fun k hk => tagN_lt hk) ?_, HK.out.trans (Kt.of (tag' := tagN tg wr.heap.size (13 + 3 * k)) hp2 (fun k e => by rcases e with e | ⟨j, e⟩ <;> omega) (fun k hk => tagN_lt hk))⟩
     rw [mapK_len, EL.out, mapK_succ _ _ _ hlt, ci_set _ _ (by rw [mapK_len]; exact hlt)]
     exact hp1)
    clear hu cu HCI
    refine wp_region_F (S := fun X => X.cell? ⟨wb, 7, none⟩ = some (.slice (some ⟨gL, 0, none⟩) p.ready.length p.ready.length)) (R := fun X => X.cell? ⟨gL, k, none⟩ = some u) [15] (by kernel_rfl) (KS.out _ BD.out) (KR.out _ BD.out) (fun hS0 hR0 => ?_)
    have hS := hid hS0
    have hR := hid hR0
    clear hS0 hR0
    refine wpAnyF_take (i := 0) (v := .pointer (some ⟨wb, 0, none⟩)) rfl (by kernel_rfl) (by kernel_rfl) (by kernel_rfl) (by kernel_rfl) (fun _ _ _ h => h) (Or.inl ⟨by rfl, fun W h => by clear h; go_simp⟩) hS.out (fun _ => hR.out) ?_
    simp only [jj]
    refine wpAnyF_take (i := 1) (v := .pointer (some ⟨wb, 0, none⟩)) rfl (by kernel_rfl) (by kernel_rfl) (by kernel_rfl) (by kernel_rfl) (fun _ _ _ h => h) (Or.inl ⟨by rfl, fun W h => by clear h; go_simp⟩) hS.out (fun _ => hR.out) ?_
    simp only [jj]
    refine wpAnyF_take (i := 2) (v := .pointer (some ⟨wb, 7, none⟩)) rfl (by kernel_rfl) (by kernel_rfl) (by kernel_rfl) (by kernel_rfl) (fun _ _ _ h => h) (Or.inl ⟨by rfl, fun W h => by clear h; go_simp⟩) hS.out (fun _ => hR.out) ?_
    simp only [jj]
    refine wpAnyF_take (i := 3) (v := .slice (some ⟨gL, 0, none⟩) p.ready.length p.ready.length) rfl (by kernel_rfl) (by kernel_rfl) (by kernel_rfl) (by kernel_rfl) (fun _ _ _ h => h) (Or.inl ⟨by rfl, fun W h => by have h3 := h; clear h; go_simp⟩) hS.out (fun _ => hR.out) ?_
    simp only [jj]
    refine wpAnyF_take (i := 4) (v := .int .i64 k) rfl (by kernel_rfl) (by kernel_rfl) (by kernel_rfl) (by kernel_rfl) (fun _ _ _ h => h) (Or.inl ⟨by rfl, fun W h => by clear h; go_simp⟩) hS.out (fun _ => hR.out) ?_
    simp only [jj]
    refine wpAnyF_take (i := 5) (v := .pointer (some ⟨wb, 0, none⟩)) rfl (by kernel_rfl) (by kernel_rfl) (by kernel_rfl) (by kernel_rfl) (fun _ _ _ h => h) (Or.inl ⟨by rfl, fun W h => by clear h; go_simp⟩) hS.out (fun _ => hR.out) ?_
    simp only [jj]
    refine wpAnyF_take (i := 6) (v := .pointer (some ⟨wb, 0, none⟩)) rfl (by kernel_rfl) (by kernel_rfl) (by kernel_rfl) (by kernel_rfl) (fun _ _ _ h => h) (Or.inl ⟨by rfl, fun W h => by clear h; go_simp⟩) hS.out (fun _ => hR.out) ?_
    simp only [jj]
    refine wpAnyF_take (i := 7) (v := .pointer (some ⟨wb, 7, none⟩)) rfl (by kernel_rfl) (by kernel_rfl) (by kernel_rfl) (by kernel_rfl) (fun _ _ _ h => h) (Or.inl ⟨by rfl, fun W h => by clear h; go_simp⟩) hS.out (fun _ => hR.out) ?_
    simp only [jj]
    refine wpAnyF_take (i := 8) (v := .slice (some ⟨gL, 0, none⟩) p.ready.length p.ready.length) rfl (by kernel_rfl) (by kernel_rfl) (by kernel_rfl) (by kernel_rfl) (fun _ _ _ h => h) (Or.inl ⟨by rfl, fun W h => by have h3 := h; clear h; go_simp⟩) hS.out (fun _ => hR.out) ?_
    simp only [jj]
    refine wpAnyF_take (i := 9) (v := .int .i64 k) rfl (by kernel_rfl) (by kernel_rfl) (by kernel_rfl) (by kernel_rfl) (fun _ _ _ h => h) (Or.inl ⟨by rfl, fun W h => by clear h; go_simp⟩) hS.out (fun _ => hR.out) ?_
    simp only [jj]
    refine wpAnyF_take (i := 10) (v := .pointer (some ⟨gL, k, none⟩)) rfl (by kernel_rfl) (by kernel_rfl) (by kernel_rfl) (by kernel_rfl) (fun _ _ _ h => h) (Or.inl ⟨by rfl, fun W h => by clear h; go_simp⟩) hS.out (fun _ => hR.out) ?_
    simp only [jj]
    refine wpAnyF_takeR (i := 11) (v := u) rfl (by kernel_rfl) (by kernel_rfl) (by kernel_rfl) (by kernel_rfl) (by kernel_rfl) (by kernel_rfl) (fun _ _ _ h => h) (Or.inl ⟨by rfl, fun W h => by have h3 := h.2; clear h; go_simp⟩) hS.out (fun _ => hR.out) ?_
    simp only [jj]
    refine wpAnyF_take (i := 12) (v := .int .i64 t) rfl (by kernel_rfl) (by kernel_rfl) (by kernel_rfl) (by kernel_rfl) (fun _ _ _ h => h) (Or.inl ⟨by rfl, fun W h => by clear h; go_simp⟩) hS.out (fun _ => hR.out) ?_
    simp only [jj]
    refine wpAnyF_ready (rs := [13]) (by kernel_rfl) (by simp) (AllReadyF.cons rfl (fun K hK => ?_) AllReadyF.nil)
    go_simp
    refine (without_ref u p.ready[k] t _ (HU.out.below BD.out) HZL.out).mono ?_
    rintro r w1 ⟨v, rfl, ho, hb⟩
    obtain ⟨qv, cv, rfl⟩ := own_form ho
    have A1 := hid (btr BD.out hb)
    have HO := hid ho
    clear ho hb
    go_wp2_with fail
    refine hK.out _ _ (KS.out _ A1.out) (fun _ => KR.out _ A1.out) (fun _ _ => ?_)
    clear hK K
    try simp only [Act.put, jD, jE, jF]
    have S1 := hid (KS.out _ A1.out)
    have R1 := hid (KR.out _ A1.out)
    clear hS hR
    refine wpAnyF_take (i := 14) (v := .pointer (some ⟨gL, k, none⟩)) rfl (by kernel_rfl) (by kernel_rfl) (by kernel_rfl) (by kernel_rfl) (fun _ _ _ h => h) (Or.inl ⟨by rfl, fun W h => by clear h; go_simp⟩) S1.out (fun _ => R1.out) ?_
    simp only [jj]
    have cwb := S1.out
    have cgl := R1.out
    have fgl := FRZ.out _ A1.out
    obtain ⟨hb6, hk6⟩ := FIN.out w1 _ A1.out HO.out
    have B6 := hid hb6
    have K6 := hid hk6
    have S6 := hid (show (w1.setCell ⟨gL, k, none⟩ (.slice qv ((goneP fun x => x == (t : Int)) p.ready[k]).length cv)).cell? ⟨wb, 7, none⟩ = some (.slice (some ⟨gL, 0, none⟩) p.ready.length p.ready.length) by rw [range_cell hb6.r (k := 7) rfl, EL.out])
    clear hb6 hk6 FIN HO
    refine wpAnyF_ready (rs := [15]) (by kernel_rfl) (by simp) (AllReadyF.cons rfl (fun K hK => ?_) AllReadyF.nil)
    go_simp
    refine hK.out _ _ S6.out (notClean (by kernel_rfl)) (fun _ _ => ?_)
    clear hK K
    try simp only [Act.put]
    refine wpAnyF_done (by kernel_rfl) ?_ _
    generalize World.setCell _ _ _ = W6 at *
    clear KS KR BD FRZ HU A1 S1 R1 S6 cwb cgl fgl
    go_wp2_with fail
    exact ⟨⟨k + 1, _, by omega, by rw [HST.out], by go_num, B6, K6⟩, by simp [intOf]; omega⟩
  ·obtain rfl : k = p.ready.length := by omega
   have hge : ¬ ((p.ready.length : Int) < (p.ready.length : Int)) := by omega
   have BR := hid (show BoxT wr wb tg V { p with ready := lvs t p.ready } by
    have h1 := HT.out
    rw [show mapK (goneP fun x => x == (t : Int)) p.ready.length p.ready = lvs t p.ready from mapK_all _ _] at h1
    exact h1)
   rw [List.take_length]
   have e3 : V 3 = .slice (some ⟨g3, 0, none⟩) ({ p with ready := lvs t p.ready } : PW).tasks.length cap3 := E3.out
   have c3 : wr.cell? ⟨wb, 3, none⟩ = some (.slice (some ⟨g3, 0, none⟩) p.tasks.length cap3) := by rw [range_cell BR.out.r (k := 3) rfl, E3.out]
   have x10 := BR.out.taskAt e3 HTL.out (show 10 < 20 by omega)
   have f10 := BR.out.tasksFr e3 (t * 20 + 10)
   obtain ⟨b1, k1⟩ := BR.out.task e3 HTL.out (show 10 < 20 by omega) b
   have B1 := hid b1
   have K1 := hid (HK.out.trans k1)
   clear b1 k1 e3 HT HK HLR EL B0 BR
   by_cases h7 : 0 < cna t p.ready
   ·have HRR := hid (show rkP p t b = wnP (({ p with ready := lvs t p.ready } : PW).task t 10 b) t (rdN (p.task t 10 b) t) by rw [← HEQ.out]; exact if_pos h7)
    rw [decide_eq_true h7]
    clear h7
    go_upto_region 13 with fail
    generalize World.setCell _ _ _ = W1 at *
    clear cl c3 x10 f10
    have HWK := hid (HW.out W1 tg B1.out)
    go_wp2_with fail
    refine HWK.out.mono ?_
    rintro q w2 ⟨rfl, tag', h1, h2⟩
    have H1 := hid h1
    have H2 := hid h2
    clear h1 h2
    go_wp2_with fail
    go_ret
    exact ⟨rfl, tag', K1.out.trans H2.out, fun _ => ⟨V, by rw [HRR.out]; exact H1.out⟩⟩
   ·have HRR := hid (show rkP p t b = ({ p with ready := lvs t p.ready } : PW).task t 10 b by rw [← HEQ.out]; exact if_neg h7)
    rw [decide_eq_false h7]
    clear h7 HW
    go_upto_region 13 with fail
    generalize World.setCell _ _ _ = W1 at *
    clear cl c3 x10 f10
    go_wp2_with fail
    go_ret
    exact ⟨rfl, tg, K1.out, ⟨V, by rw [HRR.out]; exact B1.out⟩⟩
end Go.Proofs.YtjjhodfekmpelaaGreatDoor.Wd
