/- Lines of a text: keyholdref.equipLine, where nothing is wrong; walked. (Written by mk_rdq.py.) -/
import Derived.BigGuard
import Derived.BigQuiet
import Derived.Test.YtakmaeohhclngaaGreatDoorRay
import Derived.Test.YtakmaeohhclngaaGreatDoorRaz
namespace Go.Proofs.YtakmaeohhclngaaGreatDoor.Wd
open Go.RowKit Go.Proofs.YtakmaeohhclngaaGreatDoor.Mem Go.Proofs.YtakmaeohhclngaaGreatDoor.Bw Go.Proofs.YtakmaeohhclngaaGreatDoor.Nums Go.Proofs.YtakmaeohhclngaaGreatDoor.Mmu Go.Proofs.YtakmaeohhclngaaGreatDoor.Hex
/-- The kinds that equip asks for. -/
def eqK (k : Nat) : Int := [0, 5, 4, 7].getD k 0
/-- What a task is given. -/
def eqP (p : PW) (t : Nat) (N : Nat → Int) : PW := (((((p.task t 11 (N 1)).task t 12 (N 2)).task t 13 (N 3)).task t 18 (N 4)).task t 10 (N 5)).task t 19 (N 6)
theorem four_at {W : World} {k : Nat} (hk : k < 4) : (W.alloc (.cells #[.int .i64 0, .int .i64 5, .int .i64 4, .int .i64 7] 3)).cell? ⟨W.heap.size, k, none⟩ = some (.int .i64 (eqK k)) := by
 rw [cells_new]
 match k, hk with
 | 0, _ => rfl
 | 1, _ => rfl
 | 2, _ => rfl
 | 3, _ => rfl
 | _ + 4, h => omega
/-- One cell of a task. -/
theorem BoxT.taskPut {W : World} {wb : Nat} {tag : Nat → Nat} {V : Nat → Value} {p : PW} (h : BoxT W wb tag V p) {g cap n : Nat} (hn : p.tasks.length = n) (e : V 3 = .slice (some ⟨g, 0, none⟩) n cap) {i k : Nat} (hi : i < n) (hk : k < 20) (x : Int) :
  BoxT (W.setCell ⟨g, i * 20 + k, none⟩ (.int .i64 x)) wb tag V (p.task i k x) ∧ Kt tag tag W (W.setCell ⟨g, i * 20 + k, none⟩ (.int .i64 x)) ∧ (∃ v, W.cell? ⟨g, i * 20 + k, none⟩ = some v) ∧ W.frozen? ⟨g, i * 20 + k, none⟩ = false ∧ (p.task i k x).tasks.length = n := by
 subst hn
 have := h.tasksCell e hi hk x
 have e2 : p.tasks.getD i bl = p.tasks[i] := by rw [List.getD_eq_getElem?_getD, List.getElem?_eq_getElem hi]; rfl
 refine ⟨?_, this.2, ⟨_, h.tasksAt e hi hk⟩, h.tasksFr e _, PW.task_len p i k x⟩
 unfold PW.task
 rw [e2]
 exact this.1
set_option maxRecDepth 100000 in
set_option maxHeartbeats 16000000 in
theorem equipLine_ref (wb : Nat) (tag : Nat → Nat) (V : Nat → Value) (p : PW) (ga ca t : Nat) (N : Nat → Int) (w : World) (bt : BoxT w wb tag V p) (hp : p.Fits) (hl : ∀ l ∈ p.tlbs, l.length ≤ 100) (ha : IntsAt w ga 0 [(t : Int), N 1, N 2, N 3, N 4, N 5, N 6]) (htg : tag ga = 0)
  (h0 : fmE p t 6 = 0) (ht : t < p.tasks.length) (hk : ∀ k, 1 ≤ k → k < 4 → N k ≠ -1 → fmE p (N k) (eqK k) = 0) (h4 : 0 ≤ N 4) (h4b : N 4 < p.cores.length) (h5 : 0 ≤ N 5) (h5b : N 5 ≤ 3) (h6 : 0 ≤ N 6) (h6b : N 6 ≤ 3) (hst : p.tasks[t] 9 = 0) :
  Calls Tryz.prog 74 #[.pointer (some ⟨wb, 0, none⟩), .slice (some ⟨ga, 0, none⟩) 7 ca] w fun r w' => r = .returned (.int .i64 0) ∧ BoxT w' wb tag V (eqP p t N) ∧ Kt tag tag w w' := by
 have BT := hid bt
 have a0 := ha 0 (by simp)
 have a1 := ha 1 (by simp)
 have a2 := ha 2 (by simp)
 have a3 := ha 3 (by simp)
 have a4 := ha 4 (by simp)
 have a5 := ha 5 (by simp)
 have a6 := ha 6 (by simp)
 rw [Nat.zero_add] at a0 a1 a2 a3 a4 a5 a6
 simp only [List.getElem_cons_zero, List.getElem_cons_succ] at a0 a1 a2 a3 a4 a5 a6
 have KA := hid (fun W (h : Kt tag tag w W) => (⟨h.cell a0 htg, h.cell a1 htg, h.cell a2 htg, h.cell a3 htg, h.cell a4 htg, h.cell a5 htg, h.cell a6 htg⟩ : _ ∧ _ ∧ _ ∧ _ ∧ _ ∧ _ ∧ _))
 have KN := hid (fun W (h : Below w.heap.size w W) k (h1 : 1 ≤ k) (hk : k < 4) => show W.cell? ⟨ga, k, none⟩ = some (.int .i64 (N k)) from by
  have hkk : k = 1 ∨ k = 2 ∨ k = 3 := by omega
  rcases hkk with rfl | rfl | rfl
  ·exact cupx h a1
  ·exact cupx h a2
  ·exact cupx h a3)
 have c6 : w.cell? ⟨wb, 6, none⟩ = some (V 6) := range_cell bt.r rfl
 obtain ⟨q6, b6, o6, k6, e6, hq6, hz6⟩ := (bt.view hp hl).v.cores
 obtain ⟨g3, cap3, e3⟩ := bt.o.tasks.form (by show 0 < p.tasks.length; omega)
 rw [e6] at c6
 have hcl : (p.cores.length : Int) ≤ 1000 := by have := hp.cores; omega
 have htl : (p.tasks.length : Int) ≤ 1000 := by have := hp.tasks; omega
 have C6 := hid (fun W (h : Below w.heap.size w W) => cupx h c6)
 have HM0 := hid (fun W (h : Below w.heap.size w W) => show Calls Tryz.prog 111 #[.pointer (some ⟨wb, 0, none⟩), .int .i64 t, .int .i64 6] W fun r w' => r = .returned (.int .i64 0) ∧ W = w' from by have := frameMay_ref wb V p t 6 W ((BT.out.below h).view hp hl); rw [h0] at this; exact this)
 have HMK := hid (fun W (h : Below w.heap.size w W) k (h1 : 1 ≤ k) (hk4 : k < 4) (hne : N k ≠ -1) => show Calls Tryz.prog 111 #[.pointer (some ⟨wb, 0, none⟩), .int .i64 (N k), .int .i64 (eqK k)] W fun r w' => r = .returned (.int .i64 0) ∧ W = w' from by have := frameMay_ref wb V p (N k) (eqK k) W ((BT.out.below h).view hp hl); rw [hk k h1 hk4 hne] at this; exact this)
 have FA5 := hid (fun W : World => show Calls Tryz.prog 104 #[.int .i64 (N 5), .int .i64 3] W fun e w' => e = .returned (.bool false) ∧ w' = W from (Isa.far_any (N 5) 3 W).mono fun e w' ⟨h1, h2⟩ => ⟨by rw [h1, show decide (N 5 < 0 ∨ 3 < N 5) = false from decide_eq_false (by omega)], h2.symm⟩)
 have FA6 := hid (fun W : World => show Calls Tryz.prog 104 #[.int .i64 (N 6), .int .i64 3] W fun e w' => e = .returned (.bool false) ∧ w' = W from (Isa.far_any (N 6) 3 W).mono fun e w' ⟨h1, h2⟩ => ⟨by rw [h1, show decide (N 6 < 0 ∨ 3 < N 6) = false from decide_eq_false (by omega)], h2.symm⟩)
 have c9 : ∀ W, Below w.heap.size w W → W.cell? ⟨g3, t * 20 + 9, none⟩ = some (.int .i64 0) := fun W h => by have := (BT.out.below h).tasksAt e3 ht (k := 9) (by omega); rw [hst] at this; exact this
 have C9 := hid c9
 have E3 := hid e3
 have T3 := hid (fun W (h : BoxT W wb tag V p) => True.intro)
 have R3 := hid (fun W q (h : BoxT W wb tag V q) => show W.cell? ⟨wb, 3, none⟩ = some (.slice (some ⟨g3, 0, none⟩) p.tasks.length cap3) from by have := range_cell h.r (k := 3) rfl; rw [e3] at this; exact this)
 have HT4 := hid h4
 have g4 : decide (N 4 < 0) = false := decide_eq_false (by omega)
 have g4b : decide ((p.cores.length : Int) ≤ N 4) = false := decide_eq_false (by omega)
 have ht2 : (t : Int) < (p.tasks.length : Int) := by omega
 clear ha h0 hk h4 h4b h5 h5b h6 h6b hst c9 e3 e6 hq6 hz6 c6 bt T3
 have x0 := a0
 clear a0 a1 a2 a3 a4 a5 a6
 go_enter Tryz.func74, Tryz.ntmps74
 go_wp2_with fail
 refine (HM0.out w (Below.refl _ _)).mono ?_
 rintro r w1 ⟨rfl, rfl⟩
 go_wp2_with fail
 clear x0
 go_loopw [5, 6] (fun e i wr => ∃ (k : Nat), 1 ≤ k ∧ k ≤ 4 ∧ e = .int .i64 0 ∧ i = .int .i64 (k : Int) ∧ Hid (Below w.heap.size w wr)) (fun _ i _ => 4 - (intOf i).toNat)
 case atStart => exact ⟨1, by omega, by omega, rfl, rfl, hid (Below.refl _ _)⟩
 case round =>
  obtain ⟨k, hk1, hk4, rfl, rfl, BR⟩ := hrel
  by_cases hlt : k < 4
  ·have hlt2 : (k : Int) < 4 := by omega
   have hlt7 : (k : Int) < 7 := by omega
   have hkp : (0 : Int) ≤ (k : Int) := by omega
   have xk := KN.out _ BR.out k hk1 hlt
   by_cases hm : N k = -1
   ·rw [hm] at xk
    go_wp2_with fail
    exact ⟨⟨k + 1, by omega, by omega, rfl, by go_num, BR⟩, by simp [intOf]; omega⟩
   have hmb : (N k != -1) = true := by simpa using hm
   have HC := hid (fun W (h : Below w.heap.size w W) => HMK.out W h k hk1 hlt hm)
   have KX := hid (fun W (h : Below w.heap.size w W) => KN.out W h k hk1 hlt)
   have FA := hid (fun W : World => four_at (W := W) hlt)
   generalize N k = y at xk hmb HC KX
   generalize eqK k = kk at HC FA
   clear hm
   go_upto_region 6 with fail
   have BD : Hid (Below wr.heap.size wr wr.drew) := hid (below_drew wr 1)
   have B4 := hid (btr BR.out BD.out)
   clear xk hmb
   refine Rf.wp_region_H (R := fun W => Below w.heap.size w W) [10] [0, 1, 2, 3, 4] 6 (by kernel_rfl) B4.out (by kernel_rfl) (by kernel_rfl) (by kernel_rfl) (fun _ => ?_)
   repeat (refine Rf.rd_st rfl (by rfl) (fun _ _ _ _ h => h) ?_; apply Exists.intro; refine ⟨fun W h => ?_, ?_⟩; (focus (have h1 := KX.out _ h; clear h; go_simp; try rfl)); simp only [jj])
   refine Rf.rd_nil ?_
   generalize wr.drew = w5 at *
   refine Rf.wpAnyF_groupS (R := fun W => Below w.heap.size w W) (by kernel_rfl) _ B4.out [6] 5 _ _ (by kernel_rfl) ?_
   repeat (refine Rf.rd_st rfl (by rfl) (fun _ _ _ _ h => h) ?_; apply Exists.intro; refine ⟨fun W h => ?_, ?_⟩; (focus (clear h; go_simp; try rfl)); simp only [jj])
   refine Rf.rd_nil ?_
   have B5 := hid (bal B4.out (.cells #[.int .i64 0, .int .i64 5, .int .i64 4, .int .i64 7] 3))
   have X5 := FA.out w5
   refine Rf.wpAnyF_ready (rs := [5]) (by kernel_rfl) (by simp) (Rf.AllReadyF.cons rfl (fun K hK => ?_) Rf.AllReadyF.nil)
   refine wnt (by rfl) ?_
   go_simp
   refine hK.out _ (w5.alloc (.cells #[.int .i64 0, .int .i64 5, .int .i64 4, .int .i64 7] 3)) trivial (fun _ => B5.out) (fun _ _ => ?_)
   clear hK K
   try simp only [jj]
   generalize w5.alloc _ = w6 at B5 X5 ⊢
   generalize w5.heap.size = nb at X5 ⊢
   refine Rf.wpAnyF_groupS (R := fun W => Below w.heap.size w W) (by kernel_rfl) _ B5.out [7] 3 _ _ (by kernel_rfl) ?_
   repeat (refine Rf.rd_st rfl (by rfl) (fun _ _ _ _ h => h) ?_; apply Exists.intro; refine ⟨fun W h => ?_, ?_⟩; (focus (clear h; go_simp; try rfl)); simp only [jj])
   refine Rf.rd_nil ?_
   refine Rf.wpAnyF_ready (rs := [8]) (by kernel_rfl) (by simp) (Rf.AllReadyF.cons rfl (fun K hK => ?_) Rf.AllReadyF.nil)
   refine wnt (by rfl) ?_
   go_simp
   refine hK.out _ _ trivial (fun _ => B5.out) (fun _ _ => ?_)
   clear hK K X5
   try simp only [jj]
   refine Rf.wpAnyF_ready (rs := [9]) (by kernel_rfl) (by simp) (Rf.AllReadyF.cons rfl (fun K hK => ?_) Rf.AllReadyF.nil)
   refine wnt (by rfl) ?_
   go_simp
   refine (HC.out _ B5.out).mono ?_
   rintro r w7 ⟨rfl, rfl⟩
   go_wp2_with fail
   refine hK.out _ _ trivial (fun _ => B5.out) (fun _ _ => ?_)
   clear hK K
   try simp only [jj]
   refine Rf.wpAnyF_ready (rs := [10]) (by kernel_rfl) (by simp) (Rf.AllReadyF.cons rfl (fun K hK => ?_) Rf.AllReadyF.nil)
   refine wnt (by rfl) ?_
   go_simp
   refine hK.out _ _ trivial (Rf.notClean (by kernel_rfl)) (fun _ _ => ?_)
   clear hK K
   try simp only [jj]
   refine Rf.wpAnyF_done (by kernel_rfl) ?_ _
   clear HC KX FA B4 BD
   go_wp2_with fail
   exact ⟨⟨k + 1, by omega, by omega, rfl, by go_num, B5⟩, by simp [intOf]; omega⟩
  obtain rfl : k = 4 := by omega
  clear hlt hk1 hk4 KN HMK HM0
  have K0 := hid (Kt.below (tag := tag) BR.out)
  obtain ⟨x0, x1, x2, x3, x4, x5, x6⟩ := KA.out _ K0.out
  have c6 := C6.out _ BR.out
  go_upto_region 9 with fail
  refine wp_region_quiet_lit (by kernel_rfl) (by kernel_rfl) ?_
  repeat (first | go_big_quiet_skip | (go_big_quiet_want; go_big_quiet_op; first | go_big_quiet_on | go_big_quiet_call (first | ((with_reducible (show Calls _ 104 #[.int .i64 (N 5), _] _ _)); refine Calls.quiet_of_same (FA5.out _)) | ((with_reducible (show Calls _ 104 #[.int .i64 (N 6), _] _ _)); refine Calls.quiet_of_same (FA6.out _)))))
  refine wpQuiet_nil ?_
  intro _ hw'
  obtain ⟨nq, hw''⟩ := hw'
  subst hw''
  have B1 := hid (below_drewN BR.out nq)
  clear K0 x0 x1 x2 x3 x4 x5 x6 c6 BR FA5 FA6 g4 g4b
  generalize wr.drewN nq = w1 at *
  have K1 := hid (Kt.below (tag := tag) B1.out)
  obtain ⟨x0, x1, x2, x3, x4, x5, x6⟩ := KA.out _ K1.out
  have c9 := C9.out _ B1.out
  have c3 := R3.out _ _ (BT.out.below B1.out)
  go_upto_region 11 with fail
  refine wp_region_quiet_lit (by kernel_rfl) (by kernel_rfl) ?_
  repeat (first | go_big_quiet_skip | (go_big_quiet_want; go_big_quiet_op; first | go_big_quiet_on | go_big_quiet_call (fail)))
  refine wpQuiet_nil ?_
  intro _ hw'
  obtain ⟨nq, hw''⟩ := hw'
  subst hw''
  have B2 := hid (below_drewN B1.out nq)
  clear K1 x0 x1 x2 x3 x4 x5 x6 c9 c3 B1
  generalize w1.drewN nq = w2 at *
  have BX0 := hid (BT.out.below B2.out)
  have KT0 := hid (Kt.below (tag := tag) B2.out)
  have LN0 := hid (show p.tasks.length = p.tasks.length from rfl)
  have BD : Hid (Below w2.heap.size w2 w2.drew) := hid (below_drew w2 1)
  have BI := hid (BX0.out.below BD.out)
  have KI := hid (KT0.out.trans (Kt.below (tag := tag) BD.out))
  have TP := hid (BI.out.taskPut LN0.out E3.out ht (k := 11) (by omega) (N 1))
  go_upto_region 13 with fail
  refine Rf.wp_region_H (R := fun W => Kt tag tag w W ∧ W.cell? ⟨wb, 3, none⟩ = some (.slice (some ⟨g3, 0, none⟩) p.tasks.length cap3)) [12] [0, 1, 2, 3, 4, 5, 6, 7, 8, 9] 3 (by kernel_rfl) ⟨KI.out, R3.out _ _ BI.out⟩ (by kernel_rfl) (by kernel_rfl) (by kernel_rfl) (fun _ => ?_)
  repeat (refine Rf.rd_st rfl (by rfl) (fun _ _ _ _ h => h) ?_; apply Exists.intro; refine ⟨fun W h => ?_, ?_⟩; (focus (obtain ⟨x0, x1, x2, x3, x4, x5, x6⟩ := KA.out _ h.1; have c3 := h.2; clear h; go_simp; try rfl)); simp only [jj])
  refine Rf.rd_nil ?_
  refine Rf.wpAnyF_groupS (R := fun W => Kt tag tag w W ∧ W.cell? ⟨wb, 3, none⟩ = some (.slice (some ⟨g3, 0, none⟩) p.tasks.length cap3)) (by kernel_rfl) _ ⟨KI.out, R3.out _ _ BI.out⟩ [10, 11] 1 _ _ (by kernel_rfl) ?_
  repeat (refine Rf.rd_st rfl (by rfl) (fun _ _ _ _ h => h) ?_; apply Exists.intro; refine ⟨fun W h => ?_, ?_⟩; (focus (clear h; go_simp; try rfl)); simp only [jj])
  refine Rf.rd_nil ?_
  obtain ⟨u, hu⟩ := TP.out.2.2.1
  have fz := TP.out.2.2.2.1
  have BY := hid TP.out.1
  have KY := hid (KI.out.trans TP.out.2.1)
  have LY := hid TP.out.2.2.2.2
  clear TP BI KI BX0 KT0 LN0 BD
  generalize w2.drew = w5 at *
  refine Rf.wpAnyF_ready (rs := [12]) (by kernel_rfl) (by simp) (Rf.AllReadyF.cons rfl (fun K hK => ?_) Rf.AllReadyF.nil)
  refine wnt (by rfl) ?_
  go_simp
  refine hK.out _ _ trivial (Rf.notClean (by kernel_rfl)) (fun _ _ => ?_)
  clear hK K hu fz u
  try simp only [jj]
  refine Rf.wpAnyF_done (by kernel_rfl) ?_ _
  generalize w5.setCell ⟨g3, t * 20 + 11, none⟩ _ = y1 at BY KY ⊢
  have BX1 := BY
  have KT1 := KY
  have LN1 := LY
  clear BY KY LY
  have BD : Hid (Below y1.heap.size y1 y1.drew) := hid (below_drew y1 1)
  have BI := hid (BX1.out.below BD.out)
  have KI := hid (KT1.out.trans (Kt.below (tag := tag) BD.out))
  have TP := hid (BI.out.taskPut LN1.out E3.out ht (k := 12) (by omega) (N 2))
  go_upto_region 14 with fail
  refine Rf.wp_region_H (R := fun W => Kt tag tag w W ∧ W.cell? ⟨wb, 3, none⟩ = some (.slice (some ⟨g3, 0, none⟩) p.tasks.length cap3)) [12] [0, 1, 2, 3, 4, 5, 6, 7, 8, 9] 3 (by kernel_rfl) ⟨KI.out, R3.out _ _ BI.out⟩ (by kernel_rfl) (by kernel_rfl) (by kernel_rfl) (fun _ => ?_)
  repeat (refine Rf.rd_st rfl (by rfl) (fun _ _ _ _ h => h) ?_; apply Exists.intro; refine ⟨fun W h => ?_, ?_⟩; (focus (obtain ⟨x0, x1, x2, x3, x4, x5, x6⟩ := KA.out _ h.1; have c3 := h.2; clear h; go_simp; try rfl)); simp only [jj])
  refine Rf.rd_nil ?_
  refine Rf.wpAnyF_groupS (R := fun W => Kt tag tag w W ∧ W.cell? ⟨wb, 3, none⟩ = some (.slice (some ⟨g3, 0, none⟩) p.tasks.length cap3)) (by kernel_rfl) _ ⟨KI.out, R3.out _ _ BI.out⟩ [10, 11] 1 _ _ (by kernel_rfl) ?_
  repeat (refine Rf.rd_st rfl (by rfl) (fun _ _ _ _ h => h) ?_; apply Exists.intro; refine ⟨fun W h => ?_, ?_⟩; (focus (clear h; go_simp; try rfl)); simp only [jj])
  refine Rf.rd_nil ?_
  obtain ⟨u, hu⟩ := TP.out.2.2.1
  have fz := TP.out.2.2.2.1
  have BY := hid TP.out.1
  have KY := hid (KI.out.trans TP.out.2.1)
  have LY := hid TP.out.2.2.2.2
  clear TP BI KI BX1 KT1 LN1 BD
  generalize y1.drew = w5 at *
  refine Rf.wpAnyF_ready (rs := [12]) (by kernel_rfl) (by simp) (Rf.AllReadyF.cons rfl (fun K hK => ?_) Rf.AllReadyF.nil)
  refine wnt (by rfl) ?_
  go_simp
  refine hK.out _ _ trivial (Rf.notClean (by kernel_rfl)) (fun _ _ => ?_)
  clear hK K hu fz u
  try simp only [jj]
  refine Rf.wpAnyF_done (by kernel_rfl) ?_ _
  generalize w5.setCell ⟨g3, t * 20 + 12, none⟩ _ = y2 at BY KY ⊢
  have BX2 := BY
  have KT2 := KY
  have LN2 := LY
  clear BY KY LY
  have BD : Hid (Below y2.heap.size y2 y2.drew) := hid (below_drew y2 1)
  have BI := hid (BX2.out.below BD.out)
  have KI := hid (KT2.out.trans (Kt.below (tag := tag) BD.out))
  have TP := hid (BI.out.taskPut LN2.out E3.out ht (k := 13) (by omega) (N 3))
  go_upto_region 15 with fail
  refine Rf.wp_region_H (R := fun W => Kt tag tag w W ∧ W.cell? ⟨wb, 3, none⟩ = some (.slice (some ⟨g3, 0, none⟩) p.tasks.length cap3)) [12] [0, 1, 2, 3, 4, 5, 6, 7, 8, 9] 3 (by kernel_rfl) ⟨KI.out, R3.out _ _ BI.out⟩ (by kernel_rfl) (by kernel_rfl) (by kernel_rfl) (fun _ => ?_)
  repeat (refine Rf.rd_st rfl (by rfl) (fun _ _ _ _ h => h) ?_; apply Exists.intro; refine ⟨fun W h => ?_, ?_⟩; (focus (obtain ⟨x0, x1, x2, x3, x4, x5, x6⟩ := KA.out _ h.1; have c3 := h.2; clear h; go_simp; try rfl)); simp only [jj])
  refine Rf.rd_nil ?_
  refine Rf.wpAnyF_groupS (R := fun W => Kt tag tag w W ∧ W.cell? ⟨wb, 3, none⟩ = some (.slice (some ⟨g3, 0, none⟩) p.tasks.length cap3)) (by kernel_rfl) _ ⟨KI.out, R3.out _ _ BI.out⟩ [10, 11] 1 _ _ (by kernel_rfl) ?_
  repeat (refine Rf.rd_st rfl (by rfl) (fun _ _ _ _ h => h) ?_; apply Exists.intro; refine ⟨fun W h => ?_, ?_⟩; (focus (clear h; go_simp; try rfl)); simp only [jj])
  refine Rf.rd_nil ?_
  obtain ⟨u, hu⟩ := TP.out.2.2.1
  have fz := TP.out.2.2.2.1
  have BY := hid TP.out.1
  have KY := hid (KI.out.trans TP.out.2.1)
  have LY := hid TP.out.2.2.2.2
  clear TP BI KI BX2 KT2 LN2 BD
  generalize y2.drew = w5 at *
  refine Rf.wpAnyF_ready (rs := [12]) (by kernel_rfl) (by simp) (Rf.AllReadyF.cons rfl (fun K hK => ?_) Rf.AllReadyF.nil)
  refine wnt (by rfl) ?_
  go_simp
  refine hK.out _ _ trivial (Rf.notClean (by kernel_rfl)) (fun _ _ => ?_)
  clear hK K hu fz u
  try simp only [jj]
  refine Rf.wpAnyF_done (by kernel_rfl) ?_ _
  generalize w5.setCell ⟨g3, t * 20 + 13, none⟩ _ = y3 at BY KY ⊢
  have BX3 := BY
  have KT3 := KY
  have LN3 := LY
  clear BY KY LY
  have BD : Hid (Below y3.heap.size y3 y3.drew) := hid (below_drew y3 1)
  have BI := hid (BX3.out.below BD.out)
  have KI := hid (KT3.out.trans (Kt.below (tag := tag) BD.out))
  have TP := hid (BI.out.taskPut LN3.out E3.out ht (k := 18) (by omega) (N 4))
  go_upto_region 16 with fail
  refine Rf.wp_region_H (R := fun W => Kt tag tag w W ∧ W.cell? ⟨wb, 3, none⟩ = some (.slice (some ⟨g3, 0, none⟩) p.tasks.length cap3)) [12] [0, 1, 2, 3, 4, 5, 6, 7, 8, 9] 3 (by kernel_rfl) ⟨KI.out, R3.out _ _ BI.out⟩ (by kernel_rfl) (by kernel_rfl) (by kernel_rfl) (fun _ => ?_)
  repeat (refine Rf.rd_st rfl (by rfl) (fun _ _ _ _ h => h) ?_; apply Exists.intro; refine ⟨fun W h => ?_, ?_⟩; (focus (obtain ⟨x0, x1, x2, x3, x4, x5, x6⟩ := KA.out _ h.1; have c3 := h.2; clear h; go_simp; try rfl)); simp only [jj])
  refine Rf.rd_nil ?_
  refine Rf.wpAnyF_groupS (R := fun W => Kt tag tag w W ∧ W.cell? ⟨wb, 3, none⟩ = some (.slice (some ⟨g3, 0, none⟩) p.tasks.length cap3)) (by kernel_rfl) _ ⟨KI.out, R3.out _ _ BI.out⟩ [10, 11] 1 _ _ (by kernel_rfl) ?_
  repeat (refine Rf.rd_st rfl (by rfl) (fun _ _ _ _ h => h) ?_; apply Exists.intro; refine ⟨fun W h => ?_, ?_⟩; (focus (clear h; go_simp; try rfl)); simp only [jj])
  refine Rf.rd_nil ?_
  obtain ⟨u, hu⟩ := TP.out.2.2.1
  have fz := TP.out.2.2.2.1
  have BY := hid TP.out.1
  have KY := hid (KI.out.trans TP.out.2.1)
  have LY := hid TP.out.2.2.2.2
  clear TP BI KI BX3 KT3 LN3 BD
  generalize y3.drew = w5 at *
  refine Rf.wpAnyF_ready (rs := [12]) (by kernel_rfl) (by simp) (Rf.AllReadyF.cons rfl (fun K hK => ?_) Rf.AllReadyF.nil)
  refine wnt (by rfl) ?_
  go_simp
  refine hK.out _ _ trivial (Rf.notClean (by kernel_rfl)) (fun _ _ => ?_)
  clear hK K hu fz u
  try simp only [jj]
  refine Rf.wpAnyF_done (by kernel_rfl) ?_ _
  generalize w5.setCell ⟨g3, t * 20 + 18, none⟩ _ = y4 at BY KY ⊢
  have BX4 := BY
  have KT4 := KY
  have LN4 := LY
  clear BY KY LY
  have BD : Hid (Below y4.heap.size y4 y4.drew) := hid (below_drew y4 1)
  have BI := hid (BX4.out.below BD.out)
  have KI := hid (KT4.out.trans (Kt.below (tag := tag) BD.out))
  have TP := hid (BI.out.taskPut LN4.out E3.out ht (k := 10) (by omega) (N 5))
  go_upto_region 17 with fail
  refine Rf.wp_region_H (R := fun W => Kt tag tag w W ∧ W.cell? ⟨wb, 3, none⟩ = some (.slice (some ⟨g3, 0, none⟩) p.tasks.length cap3)) [12] [0, 1, 2, 3, 4, 5, 6, 7, 8, 9] 3 (by kernel_rfl) ⟨KI.out, R3.out _ _ BI.out⟩ (by kernel_rfl) (by kernel_rfl) (by kernel_rfl) (fun _ => ?_)
  repeat (refine Rf.rd_st rfl (by rfl) (fun _ _ _ _ h => h) ?_; apply Exists.intro; refine ⟨fun W h => ?_, ?_⟩; (focus (obtain ⟨x0, x1, x2, x3, x4, x5, x6⟩ := KA.out _ h.1; have c3 := h.2; clear h; go_simp; try rfl)); simp only [jj])
  refine Rf.rd_nil ?_
  refine Rf.wpAnyF_groupS (R := fun W => Kt tag tag w W ∧ W.cell? ⟨wb, 3, none⟩ = some (.slice (some ⟨g3, 0, none⟩) p.tasks.length cap3)) (by kernel_rfl) _ ⟨KI.out, R3.out _ _ BI.out⟩ [10, 11] 1 _ _ (by kernel_rfl) ?_
  repeat (refine Rf.rd_st rfl (by rfl) (fun _ _ _ _ h => h) ?_; apply Exists.intro; refine ⟨fun W h => ?_, ?_⟩; (focus (clear h; go_simp; try rfl)); simp only [jj])
  refine Rf.rd_nil ?_
  obtain ⟨u, hu⟩ := TP.out.2.2.1
  have fz := TP.out.2.2.2.1
  have BY := hid TP.out.1
  have KY := hid (KI.out.trans TP.out.2.1)
  have LY := hid TP.out.2.2.2.2
  clear TP BI KI BX4 KT4 LN4 BD
  generalize y4.drew = w5 at *
  refine Rf.wpAnyF_ready (rs := [12]) (by kernel_rfl) (by simp) (Rf.AllReadyF.cons rfl (fun K hK => ?_) Rf.AllReadyF.nil)
  refine wnt (by rfl) ?_
  go_simp
  refine hK.out _ _ trivial (Rf.notClean (by kernel_rfl)) (fun _ _ => ?_)
  clear hK K hu fz u
  try simp only [jj]
  refine Rf.wpAnyF_done (by kernel_rfl) ?_ _
  generalize w5.setCell ⟨g3, t * 20 + 10, none⟩ _ = y5 at BY KY ⊢
  have BX5 := BY
  have KT5 := KY
  have LN5 := LY
  clear BY KY LY
  have BD : Hid (Below y5.heap.size y5 y5.drew) := hid (below_drew y5 1)
  have BI := hid (BX5.out.below BD.out)
  have KI := hid (KT5.out.trans (Kt.below (tag := tag) BD.out))
  have TP := hid (BI.out.taskPut LN5.out E3.out ht (k := 19) (by omega) (N 6))
  go_upto_region 18 with fail
  refine Rf.wp_region_H (R := fun W => Kt tag tag w W ∧ W.cell? ⟨wb, 3, none⟩ = some (.slice (some ⟨g3, 0, none⟩) p.tasks.length cap3)) [12] [0, 1, 2, 3, 4, 5, 6, 7, 8, 9] 3 (by kernel_rfl) ⟨KI.out, R3.out _ _ BI.out⟩ (by kernel_rfl) (by kernel_rfl) (by kernel_rfl) (fun _ => ?_)
  repeat (refine Rf.rd_st rfl (by rfl) (fun _ _ _ _ h => h) ?_; apply Exists.intro; refine ⟨fun W h => ?_, ?_⟩; (focus (obtain ⟨x0, x1, x2, x3, x4, x5, x6⟩ := KA.out _ h.1; have c3 := h.2; clear h; go_simp; try rfl)); simp only [jj])
  refine Rf.rd_nil ?_
  refine Rf.wpAnyF_groupS (R := fun W => Kt tag tag w W ∧ W.cell? ⟨wb, 3, none⟩ = some (.slice (some ⟨g3, 0, none⟩) p.tasks.length cap3)) (by kernel_rfl) _ ⟨KI.out, R3.out _ _ BI.out⟩ [10, 11] 1 _ _ (by kernel_rfl) ?_
  repeat (refine Rf.rd_st rfl (by rfl) (fun _ _ _ _ h => h) ?_; apply Exists.intro; refine ⟨fun W h => ?_, ?_⟩; (focus (clear h; go_simp; try rfl)); simp only [jj])
  refine Rf.rd_nil ?_
  obtain ⟨u, hu⟩ := TP.out.2.2.1
  have fz := TP.out.2.2.2.1
  have BY := hid TP.out.1
  have KY := hid (KI.out.trans TP.out.2.1)
  have LY := hid TP.out.2.2.2.2
  clear TP BI KI BX5 KT5 LN5 BD
  generalize y5.drew = w5 at *
  refine Rf.wpAnyF_ready (rs := [12]) (by kernel_rfl) (by simp) (Rf.AllReadyF.cons rfl (fun K hK => ?_) Rf.AllReadyF.nil)
  refine wnt (by rfl) ?_
  go_simp
  refine hK.out _ _ trivial (Rf.notClean (by kernel_rfl)) (fun _ _ => ?_)
  clear hK K hu fz u
  try simp only [jj]
  refine Rf.wpAnyF_done (by kernel_rfl) ?_ _
  generalize w5.setCell ⟨g3, t * 20 + 19, none⟩ _ = y6 at BY KY ⊢
  have BX6 := BY
  have KT6 := KY
  have LN6 := LY
  clear BY KY LY
  go_wp2_with fail
  go_ret
  exact ⟨rfl, BX6.out, KT6.out⟩
end Go.Proofs.YtakmaeohhclngaaGreatDoor.Wd
