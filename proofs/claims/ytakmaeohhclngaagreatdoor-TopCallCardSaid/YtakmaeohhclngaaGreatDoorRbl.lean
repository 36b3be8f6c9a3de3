/- Words through doors, and bells: mail.hand, stand, onCore, meet, first; walked. (Written by mk_ml.py.) · Words through doors, and bells, by the document: keyholdref.handed, off, stands, front; walked. (Written by mk_mlref.py.) · Who may do something at a door or a bell, and who stands first: mail.onCore, meet, first; keyholdref.ActMay; walked. -/
import Derived.Test.YtakmaeohhclngaaGreatDoorRbg
import Derived.Test.YtakmaeohhclngaaGreatDoorRbh
import Derived.Test.YtakmaeohhclngaaGreatDoorRbi
import Derived.Test.YtakmaeohhclngaaGreatDoorRah
namespace Go.Proofs.YtakmaeohhclngaaGreatDoor.Wd
open Go.RowKit Go.Proofs.YtakmaeohhclngaaGreatDoor.Mem Go.Proofs.YtakmaeohhclngaaGreatDoor.Bw Go.Proofs.YtakmaeohhclngaaGreatDoor.Nums Go.Proofs.YtakmaeohhclngaaGreatDoor.Mmu
set_option maxRecDepth 100000 in
set_option maxHeartbeats 4000000 in
theorem handM_any (wb : Nat) (tag : Nat → Nat) (V : Nat → Value) (p : PW) (t : Nat) (x y : Int) (W : World) (bt : BoxT W wb tag V p) (hp : p.Fits) (ht : t < p.tasks.length) :
  Calls Tryz.prog 28 #[.pointer (some ⟨wb, 0, none⟩), .int .i64 t, .int .i64 x, .int .i64 y] W fun r W' => r = .returned (.tuple #[]) ∧ BoxT W' wb tag V ((p.task t 1 x).task t 2 y) ∧ Kt tag tag W W' := by
 have hl3 : (p.tasks.length : Int) ≤ 1000 := by have := hp.tasks; omega
 have ht2 : (t : Int) < (p.tasks.length : Int) := by omega
 obtain ⟨g3, cap3, e3⟩ := bt.o.tasks.form (by omega)
 have E3 := hid e3
 have HTT := hid ht
 have B0 := hid bt
 have K0 := hid (Kt.refl tag W)
 clear bt hp e3 ht
 go_enter Tryz.func28, Tryz.ntmps28
 go_wp2_with fail
 have c3 : W.cell? ⟨wb, 3, none⟩ = some (.slice (some ⟨g3, 0, none⟩) p.tasks.length cap3) := by rw [range_cell B0.out.r (k := 3) rfl, E3.out]
 have L1 := hid (PW.task_len p t 1 x)
 have BD : Hid (Below W.heap.size W W.drew) := hid (below_drew W 1)
 have xa := (B0.out.below BD.out).taskAt E3.out HTT.out (show 1 < 20 by omega)
 have fa := (B0.out.below BD.out).tasksFr E3.out (t * 20 + 1)
 obtain ⟨b1, q1⟩ := (B0.out.below BD.out).task E3.out HTT.out (show 1 < 20 by omega) x
 have B1 := hid (show BoxT (W.setCell ⟨g3, t * 20 + 1, none⟩ (.int .i64 x)).drew wb tag V (p.task t 1 x) from b1)
 have K1 := hid (show Kt tag tag W (W.setCell ⟨g3, t * 20 + 1, none⟩ (.int .i64 x)).drew from (K0.out.trans (.below BD.out)).trans q1)
 have e4 : V 3 = .slice (some ⟨g3, 0, none⟩) (p.task t 1 x).tasks.length cap3 := by rw [L1.out]; exact E3.out
 have xb := B1.out.taskAt e4 (i := t) (by rw [L1.out]; exact HTT.out) (show 2 < 20 by omega)
 have fb := B1.out.tasksFr e4 (t * 20 + 2)
 obtain ⟨b2, q2⟩ := B1.out.task e4 (i := t) (by rw [L1.out]; exact HTT.out) (show 2 < 20 by omega) y
 have B2 := hid b2
 have K2 := hid (K1.out.trans q2)
 have S1 := hid (show (W.setCell ⟨g3, t * 20 + 1, none⟩ (.int .i64 x)).drew.cell? ⟨wb, 3, none⟩ = some (.slice (some ⟨g3, 0, none⟩) p.tasks.length cap3) by rw [range_cell B1.out.r (k := 3) rfl, E3.out])
 have S2 := hid (show ((W.setCell ⟨g3, t * 20 + 1, none⟩ (.int .i64 x)).drew.setCell ⟨g3, t * 20 + 2, none⟩ (.int .i64 y)).cell? ⟨wb, 3, none⟩ = some (.slice (some ⟨g3, 0, none⟩) p.tasks.length cap3) by rw [range_cell b2.r (k := 3) rfl, E3.out])
 clear b1 q1 b2 q2 e4
 refine wp_region_held_drew (S := fun X => X.cell? ⟨wb, 3, none⟩ = some (.slice (some ⟨g3, 0, none⟩) p.tasks.length cap3)) (by kernel_rfl) c3 (fun hH0 => ?_)
 have hH := hid hH0
 clear hH0 c3
 refine tk 0 (.pointer (some ⟨wb, 0, none⟩)) rfl hH.out ?_
 simp only [jj]
 refine tk 1 (.pointer (some ⟨wb, 0, none⟩)) rfl hH.out ?_
 simp only [jj]
 refine tk 2 (.pointer (some ⟨wb, 3, none⟩)) rfl hH.out ?_
 simp only [jj]
 refine tg 3 (.slice (some ⟨g3, 0, none⟩) p.tasks.length cap3) rfl (Or.inl ⟨by rfl, fun W h => by have h3 := h; clear h; go_simp⟩) hH.out ?_
 simp only [jj]
 refine tk 4 (.int .i64 t) rfl hH.out ?_
 simp only [jj]
 refine tk 5 (.pointer (some ⟨wb, 0, none⟩)) rfl hH.out ?_
 simp only [jj]
 refine tk 6 (.pointer (some ⟨wb, 0, none⟩)) rfl hH.out ?_
 simp only [jj]
 refine tk 7 (.pointer (some ⟨wb, 3, none⟩)) rfl hH.out ?_
 simp only [jj]
 refine tg 8 (.slice (some ⟨g3, 0, none⟩) p.tasks.length cap3) rfl (Or.inl ⟨by rfl, fun W h => by have h3 := h; clear h; go_simp⟩) hH.out ?_
 simp only [jj]
 refine tk 9 (.int .i64 t) rfl hH.out ?_
 simp only [jj]
 refine tk 10 (.int .i64 x) rfl hH.out ?_
 simp only [jj]
 refine tk 11 (.int .i64 y) rfl hH.out ?_
 simp only [jj]
 refine tk 12 (.pointer (some ⟨g3, t * 20, none⟩)) rfl hH.out ?_
 simp only [jj]
 refine tk 13 (.pointer (some ⟨g3, t * 20, none⟩)) rfl hH.out ?_
 simp only [jj]
 refine tk 14 (.pointer (some ⟨g3, t * 20 + 1, none⟩)) rfl hH.out ?_
 simp only [jj]
 refine tk 16 (.pointer (some ⟨g3, t * 20, none⟩)) rfl hH.out ?_
 simp only [jj]
 refine tk 17 (.pointer (some ⟨g3, t * 20, none⟩)) rfl hH.out ?_
 simp only [jj]
 refine wpAnyH_ready (rs := [15]) (by kernel_rfl) (by simp) (AllReadyH.cons rfl (fun K hK => ?_) AllReadyH.nil)
 go_simp
 refine hK.out _ _ S1.out (fun _ => ?_)
 clear hK K hH xa fa
 try simp only [Act.put]
 generalize World.drew (World.setCell _ _ _) = W1 at *
 refine tk 18 (.pointer (some ⟨g3, t * 20 + 2, none⟩)) rfl S1.out ?_
 simp only [jj]
 refine wpAnyH_ready (rs := [19]) (by kernel_rfl) (by simp) (AllReadyH.cons rfl (fun K hK => ?_) AllReadyH.nil)
 go_simp
 refine hK.out _ _ S2.out (fun _ => ?_)
 clear hK K xb fb
 try simp only [Act.put]
 refine wpAnyH_done (by kernel_rfl) ?_ _
 generalize World.setCell _ _ _ = W2 at *
 clear S1 S2 B1 K1 BD
 go_wp2_with fail
 exact bodyPost_end (results_none rfl _ _ _) rfl ⟨rfl, B2.out, K2.out⟩
/-- A task leaves its core and comes to a line's end. -/
def sdP (p : PW) (t a : Nat) (s : Int) : PW := { ((lvP p t).task t 9 s).task t 14 a with lines := (lvs t p.lines).set a ((lvs t p.lines).getD a [] ++ [(t : Int)]) }
set_option maxRecDepth 100000 in
set_option maxHeartbeats 4000000 in
theorem standM_any (wb : Nat) (tag : Nat → Nat) (V : Nat → Value) (p0 : PW) (t a : Nat) (s : Int) (W : World) (bt : BoxT W wb tag V p0) (hp : p0.Fits) (ht : t < p0.tasks.length) (ha : a < p0.lines.length) :
  Calls Tryz.prog 27 #[.pointer (some ⟨wb, 0, none⟩), .int .i64 t, .int .i64 a, .int .i64 s] W fun r W' => r = .returned (.tuple #[]) ∧ ∃ tag', BoxT W' wb tag' V (sdP p0 t a s) ∧ Kt tag tag' W W' := by
 have HLV := hid (leaveW_any wb tag V p0 t W bt hp ht)
 have HN1 := hid hp.line
 have HNL2 := hid ha
 have hl4 : (p0.lines.length : Int) ≤ 1000 := by have := hp.lines; omega
 have ha2 : (a : Int) < (p0.lines.length : Int) := by omega
 have LT := hid (show (lvP p0 t).tasks.length = p0.tasks.length from PW.task_len p0 t 14 (-1))
 have hl3 : ((lvP p0 t).tasks.length : Int) ≤ 1000 := by rw [LT.out]; have := hp.tasks; omega
 have ht2 : (t : Int) < ((lvP p0 t).tasks.length : Int) := by rw [LT.out]; omega
 obtain ⟨g3, cap3, e3⟩ := bt.o.tasks.form (by omega)
 have E3 := hid (show V 3 = .slice (some ⟨g3, 0, none⟩) (lvP p0 t).tasks.length cap3 by rw [LT.out]; exact e3)
 have HTT := hid (show t < (lvP p0 t).tasks.length by rw [LT.out]; exact ht)
 obtain ⟨p, hpp⟩ : ∃ p, lvP p0 t = p := ⟨_, rfl⟩
 have HPP := hid hpp
 rw [hpp] at HLV E3 HTT hl3 ht2
 clear bt hp e3 ht LT ha hpp
 go_enter Tryz.func27, Tryz.ntmps27
 go_wp2_with fail
 refine HLV.out.mono ?_
 rintro r w0 ⟨rfl, h1, h2⟩
 have B0 := hid h1
 have K0 := hid h2
 clear h1 h2 HLV
 go_upto_region 1 with fail
 have c3 : w0.cell? ⟨wb, 3, none⟩ = some (.slice (some ⟨g3, 0, none⟩) p.tasks.length cap3) := by rw [range_cell B0.out.r (k := 3) rfl, E3.out]
 have L1 := hid (PW.task_len p t 9 s)
 have BD : Hid (Below w0.heap.size w0 w0.drew) := hid (below_drew w0 1)
 have xa := (B0.out.below BD.out).taskAt E3.out HTT.out (show 9 < 20 by omega)
 have fa := (B0.out.below BD.out).tasksFr E3.out (t * 20 + 9)
 obtain ⟨b1, q1⟩ := (B0.out.below BD.out).task E3.out HTT.out (show 9 < 20 by omega) s
 have B1 := hid (show BoxT (w0.setCell ⟨g3, t * 20 + 9, none⟩ (.int .i64 s)).drew wb tag V (p.task t 9 s) from b1)
 have K1 := hid (show Kt tag tag W (w0.setCell ⟨g3, t * 20 + 9, none⟩ (.int .i64 s)).drew from (K0.out.trans (.below BD.out)).trans q1)
 have e4 : V 3 = .slice (some ⟨g3, 0, none⟩) (p.task t 9 s).tasks.length cap3 := by rw [L1.out]; exact E3.out
 have xb := B1.out.taskAt e4 (i := t) (by rw [L1.out]; exact HTT.out) (show 14 < 20 by omega)
 have fb := B1.out.tasksFr e4 (t * 20 + 14)
 obtain ⟨b2, q2⟩ := B1.out.task e4 (i := t) (by rw [L1.out]; exact HTT.out) (show 14 < 20 by omega) (a : Int)
 have B2 := hid b2
 have K2 := hid (K1.out.trans q2)
 have S1 := hid (show (w0.setCell ⟨g3, t * 20 + 9, none⟩ (.int .i64 s)).drew.cell? ⟨wb, 3, none⟩ = some (.slice (some ⟨g3, 0, none⟩) p.tasks.length cap3) by rw [range_cell B1.out.r (k := 3) rfl, E3.out])
 have S2 := hid (show ((w0.setCell ⟨g3, t * 20 + 9, none⟩ (.int .i64 s)).drew.setCell ⟨g3, t * 20 + 14, none⟩ (.int .i64 (a : Int))).cell? ⟨wb, 3, none⟩ = some (.slice (some ⟨g3, 0, none⟩) p.tasks.length cap3) by rw [range_cell b2.r (k := 3) rfl, E3.out])
 clear b1 q1 b2 q2 e4
 refine wp_region_held_drew (S := fun X => X.cell? ⟨wb, 3, none⟩ = some (.slice (some ⟨g3, 0, none⟩) p.tasks.length cap3)) (by kernel_rfl) c3 (fun hH0 => ?_)
 have hH := hid hH0
 clear hH0 c3
 refine tk 0 (.pointer (some ⟨wb, 0, none⟩)) rfl hH.out ?_
 simp only [jj]
 refine tk 1 (.pointer (some ⟨wb, 0, none⟩)) rfl hH.out ?_
 simp only [jj]
 refine tk 2 (.pointer (some ⟨wb, 3, none⟩)) rfl hH.out ?_
 simp only [jj]
 refine tg 3 (.slice (some ⟨g3, 0, none⟩) p.tasks.length cap3) rfl (Or.inl ⟨by rfl, fun W h => by have h3 := h; clear h; go_simp⟩) hH.out ?_
 simp only [jj]
 refine tk 4 (.int .i64 t) rfl hH.out ?_
 simp only [jj]
 refine tk 5 (.pointer (some ⟨wb, 0, none⟩)) rfl hH.out ?_
 simp only [jj]
 refine tk 6 (.pointer (some ⟨wb, 0, none⟩)) rfl hH.out ?_
 simp only [jj]
 refine tk 7 (.pointer (some ⟨wb, 3, none⟩)) rfl hH.out ?_
 simp only [jj]
 refine tg 8 (.slice (some ⟨g3, 0, none⟩) p.tasks.length cap3) rfl (Or.inl ⟨by rfl, fun W h => by have h3 := h; clear h; go_simp⟩) hH.out ?_
 simp only [jj]
 refine tk 9 (.int .i64 t) rfl hH.out ?_
 simp only [jj]
 refine tk 10 (.int .i64 s) rfl hH.out ?_
 simp only [jj]
 refine tk 11 (.int .i64 a) rfl hH.out ?_
 simp only [jj]
 refine tk 12 (.pointer (some ⟨g3, t * 20, none⟩)) rfl hH.out ?_
 simp only [jj]
 refine tk 13 (.pointer (some ⟨g3, t * 20 + 9, none⟩)) rfl hH.out ?_
 simp only [jj]
 refine wpAnyH_ready (rs := [14]) (by kernel_rfl) (by simp) (AllReadyH.cons rfl (fun K hK => ?_) AllReadyH.nil)
 go_simp
 refine hK.out _ _ S1.out (fun _ => ?_)
 clear hK K hH xa fa
 try simp only [Act.put]
 generalize World.drew (World.setCell _ _ _) = W1 at *
 refine tk 15 (.pointer (some ⟨g3, t * 20, none⟩)) rfl S1.out ?_
 simp only [jj]
 refine tk 16 (.pointer (some ⟨g3, t * 20 + 14, none⟩)) rfl S1.out ?_
 simp only [jj]
 refine wpAnyH_ready (rs := [17]) (by kernel_rfl) (by simp) (AllReadyH.cons rfl (fun K hK => ?_) AllReadyH.nil)
 go_simp
 refine hK.out _ _ S2.out (fun _ => ?_)
 clear hK K xb fb
 try simp only [Act.put]
 refine wpAnyH_done (by kernel_rfl) ?_ _
 generalize World.setCell _ _ _ = W2 at *
 clear S1 S2 B1 K1 BD
 go_upto_region 2 with fail
 have B3 := hid (show BoxT W2 wb tag V (((lvP p0 t).task t 9 s).task t 14 a) by rw [HPP.out]; exact B2.out)
 have K3 := K2
 clear B2 K2 B0 K0 E3 HPP hl3 ht2 HTT
 generalize W2 = W3 at *
 have HNS2 := hid (lvs_len (t : Int) p0.lines)
 have HNL := hid (show a < (lvs (t : Int) p0.lines).length by rw [HNS2.out]; exact HNL2.out)
 have HZZ := hid (show ((lvs (t : Int) p0.lines).getD a []).length ≤ 1000 by
  rw [List.getD_eq_getElem?_getD, List.getElem?_eq_getElem HNL.out, Option.getD_some]
  unfold lvs
  rw [List.getElem_map]
  exact Nat.le_trans (List.length_filter_le _ _) (HN1.out _ (List.getElem_mem HNL2.out)))
 obtain ⟨gL, eL⟩ := B3.out.o.lines.form
 have hLR := B3.out.o.lines
 rw [eL] at hLR
 obtain ⟨u, cu, hu⟩ := hLR.at (j := a) HNL.out
 obtain ⟨zs, hzs⟩ : ∃ zs, (lvs (t : Int) p0.lines).getD a [] = zs := ⟨_, rfl⟩
 have hu2 : InT W3 tag (12 + 3 * a) 3 1 u (zs.length, ints zs) := by
  have h1 : InT W3 tag (12 + 3 * a) 3 1 u (ci (lvs (t : Int) p0.lines) a) := hu
  unfold ci at h1
  rw [hzs] at h1
  exact h1
 have HZL := hid (show zs.length ≤ 1000 from by rw [← hzs]; exact HZZ.out)
 have HZS := hid hzs
 have HU := hid hu2
 have HLR := hid hLR
 have EL := hid (show V 4 = .slice (some ⟨gL, 0, none⟩) p0.lines.length p0.lines.length by rw [eL]; exact congrArg (fun m => Value.slice (some ⟨gL, 0, none⟩) m m) HNS2.out)
 have FRZ := hid (fun X (h : Below W3.heap.size W3 X) => show X.frozen? ⟨gL, a, none⟩ = false from (hLR.kp (T := fun _ => False) (.of_below h) (fun _ _ => rfl) (fun _ _ e => e)).fr a)
 have KS := hid (fun X (h : Below W3.heap.size W3 X) => show X.cell? ⟨wb, 4, none⟩ = some (.slice (some ⟨gL, 0, none⟩) p0.lines.length p0.lines.length) by rw [range_cell (B3.out.below h).r (k := 4) rfl, EL.out])
 have KR := hid (fun X (h : Below W3.heap.size W3 X) => show X.cell? ⟨gL, a, none⟩ = some u from (h.cell (World.block_lt_of_cell? _ _ cu)).trans cu)
 have BD : Hid (Below W3.heap.size W3 W3.drew) := hid (below_drew W3 1)
 clear hu hu2 hzs hLR eL cu
 refine wp_region_F (S := fun X => X.cell? ⟨wb, 4, none⟩ = some (.slice (some ⟨gL, 0, none⟩) p0.lines.length p0.lines.length)) (R := fun X => X.cell? ⟨gL, a, none⟩ = some u) [16] (by kernel_rfl) (KS.out _ BD.out) (KR.out _ BD.out) (fun hS0 hR0 => ?_)
 have hS := hid hS0
 have hR := hid hR0
 clear hS0 hR0
 refine wpAnyF_take (i := 0) (v := .pointer (some ⟨wb, 0, none⟩)) rfl (by kernel_rfl) (by kernel_rfl) (by kernel_rfl) (by kernel_rfl) (fun _ _ _ h => h) (Or.inl ⟨by rfl, fun W h => by clear h; go_simp⟩) hS.out (fun _ => hR.out) ?_
 simp only [jj]
 refine wpAnyF_take (i := 1) (v := .pointer (some ⟨wb, 0, none⟩)) rfl (by kernel_rfl) (by kernel_rfl) (by kernel_rfl) (by kernel_rfl) (fun _ _ _ h => h) (Or.inl ⟨by rfl, fun W h => by clear h; go_simp⟩) hS.out (fun _ => hR.out) ?_
 simp only [jj]
 refine wpAnyF_take (i := 2) (v := .pointer (some ⟨wb, 4, none⟩)) rfl (by kernel_rfl) (by kernel_rfl) (by kernel_rfl) (by kernel_rfl) (fun _ _ _ h => h) (Or.inl ⟨by rfl, fun W h => by clear h; go_simp⟩) hS.out (fun _ => hR.out) ?_
 simp only [jj]
 refine wpAnyF_take (i := 3) (v := .slice (some ⟨gL, 0, none⟩) p0.lines.length p0.lines.length) rfl (by kernel_rfl) (by kernel_rfl) (by kernel_rfl) (by kernel_rfl) (fun _ _ _ h => h) (Or.inl ⟨by rfl, fun W h => by have h3 := h; clear h; go_simp⟩) hS.out (fun _ => hR.out) ?_
 simp only [jj]
 refine wpAnyF_take (i := 4) (v := .int .i64 a) rfl (by kernel_rfl) (by kernel_rfl) (by kernel_rfl) (by kernel_rfl) (fun _ _ _ h => h) (Or.inl ⟨by rfl, fun W h => by clear h; go_simp⟩) hS.out (fun _ => hR.out) ?_
 simp only [jj]
 refine wpAnyF_take (i := 5) (v := .pointer (some ⟨wb, 0, none⟩)) rfl (by kernel_rfl) (by kernel_rfl) (by kernel_rfl) (by kernel_rfl) (fun _ _ _ h => h) (Or.inl ⟨by rfl, fun W h => by clear h; go_simp⟩) hS.out (fun _ => hR.out) ?_
 simp only [jj]
 refine wpAnyF_take (i := 6) (v := .pointer (some ⟨wb, 0, none⟩)) rfl (by kernel_rfl) (by kernel_rfl) (by kernel_rfl) (by kernel_rfl) (fun _ _ _ h => h) (Or.inl ⟨by rfl, fun W h => by clear h; go_simp⟩) hS.out (fun _ => hR.out) ?_
 simp only [jj]
 refine wpAnyF_take (i := 7) (v := .pointer (some ⟨wb, 4, none⟩)) rfl (by kernel_rfl) (by kernel_rfl) (by kernel_rfl) (by kernel_rfl) (fun _ _ _ h => h) (Or.inl ⟨by rfl, fun W h => by clear h; go_simp⟩) hS.out (fun _ => hR.out) ?_
 simp only [jj]
 refine wpAnyF_take (i := 8) (v := .slice (some ⟨gL, 0, none⟩) p0.lines.length p0.lines.length) rfl (by kernel_rfl) (by kernel_rfl) (by kernel_rfl) (by kernel_rfl) (fun _ _ _ h => h) (Or.inl ⟨by rfl, fun W h => by have h3 := h; clear h; go_simp⟩) hS.out (fun _ => hR.out) ?_
 simp only [jj]
 refine wpAnyF_take (i := 9) (v := .int .i64 a) rfl (by kernel_rfl) (by kernel_rfl) (by kernel_rfl) (by kernel_rfl) (fun _ _ _ h => h) (Or.inl ⟨by rfl, fun W h => by clear h; go_simp⟩) hS.out (fun _ => hR.out) ?_
 simp only [jj]
 refine wpAnyF_take (i := 10) (v := .pointer (some ⟨gL, a, none⟩)) rfl (by kernel_rfl) (by kernel_rfl) (by kernel_rfl) (by kernel_rfl) (fun _ _ _ h => h) (Or.inl ⟨by rfl, fun W h => by clear h; go_simp⟩) hS.out (fun _ => hR.out) ?_
 simp only [jj]
 refine wpAnyF_takeR (i := 11) (v := u) rfl (by kernel_rfl) (by kernel_rfl) (by kernel_rfl) (by kernel_rfl) (by kernel_rfl) (by kernel_rfl) (fun _ _ _ h => h) (Or.inl ⟨by rfl, fun W h => by have h3 := h.2; clear h; go_simp⟩) hS.out (fun _ => hR.out) ?_
 simp only [jj]
 refine wpAnyF_take (i := 12) (v := .int .i64 t) rfl (by kernel_rfl) (by kernel_rfl) (by kernel_rfl) (by kernel_rfl) (fun _ _ _ h => h) (Or.inl ⟨by rfl, fun W h => by clear h; go_simp⟩) hS.out (fun _ => hR.out) ?_
 simp only [jj]
 have BN := hid (show Below W3.heap.size W3 (W3.alloc (.cells #[.int .i64 t] 3)).drew from (bal (Below.refl _ W3) (.cells #[.int .i64 t] 3)).drew)
 have CN := hid (show (W3.alloc (.cells #[.int .i64 t] 3)).drew.cell? ⟨W3.heap.size, 0, none⟩ = some (.int .i64 t) from cells_new W3 #[.int .i64 t] 3 0)
 refine wpAnyF_ready (rs := [13]) (by kernel_rfl) (by simp) (AllReadyF.cons rfl (fun K hK => ?_) AllReadyF.nil)
 go_simp
 refine hK.out _ _ (KS.out _ BN.out) (fun _ => KR.out _ BN.out) (fun _ _ => ?_)
 clear hK K
 try simp only [Act.put, jD, jE, jF]
 generalize World.drew (World.alloc _ _) = W4 at *
 have hS1 := hid (KS.out _ BN.out)
 have hR1 := hid (KR.out _ BN.out)
 obtain ⟨q, cap, w5, hrun, hin, hkp⟩ := InT.push (HU.out.kp (T := fun _ => False) (.of_below BN.out) (fun _ _ => rfl) (fun _ _ e => e)) HZL.out CN.out 1 22
 have HRUN := hid hrun
 have HIN := hid hin
 have HKP := hid hkp
 have B4 := hid (B3.out.below BN.out)
 have K4 := hid (K3.out.trans (.below BN.out))
 have cwb : w5.cell? ⟨wb, 4, none⟩ = some (.slice (some ⟨gL, 0, none⟩) p0.lines.length p0.lines.length) := (hkp.cell (p := ⟨wb, 4, none⟩) B4.out.lt (by show ¬ tag wb = _; rw [B4.out.g]; omega)).trans hS1.out
 have hgL : tag gL = 6 ∧ gL < W4.heap.size := (HLR.out.kp (T := fun _ => False) (.of_below BN.out) (fun _ _ => rfl) (fun _ _ e => e)).tag0
 have cgl : w5.cell? ⟨gL, a, none⟩ = some u := (hkp.cell (p := ⟨gL, a, none⟩) hgL.2 (by show ¬ tag gL = _; rw [hgL.1]; omega)).trans hR1.out
 have fgl : w5.frozen? ⟨gL, a, none⟩ = false := (hkp.frozen (p := ⟨gL, a, none⟩) hgL.2 (by show ¬ tag gL = _; rw [hgL.1]; omega)).trans (FRZ.out _ BN.out)
 have S5 := hid cwb
 have R5 := hid cgl
 clear hrun hin hkp hS hR
 refine wpAnyF_ready (rs := [14]) (by kernel_rfl) (by simp) (AllReadyF.cons rfl (fun K hK => ?_) AllReadyF.nil)
 refine wp_app1 _ _ 22 rfl u (.slice (some ⟨W3.heap.size, 0, none⟩) 1 1) (.slice q (zs.length + 1) cap) rfl rfl HRUN.out ?_
 refine hK.out _ _ S5.out (fun _ => R5.out) (fun _ _ => ?_)
 clear hK K
 simp only [jj]
 refine wpAnyF_take (i := 15) (v := .pointer (some ⟨gL, a, none⟩)) rfl (by kernel_rfl) (by kernel_rfl) (by kernel_rfl) (by kernel_rfl) (fun _ _ _ h => h) (Or.inl ⟨by rfl, fun W h => by clear h; go_simp⟩) S5.out (fun _ => R5.out) ?_
 simp only [jj]
 obtain ⟨hp1, hp2⟩ := (HLR.out.kp (T := fun _ => False) (.of_below BN.out) (fun _ _ => rfl) (fun _ _ e => e)).put (tag' := tagN tag W4.heap.size (12 + 3 * a)) (j := a) HNL.out (fun j => by omega) HKP.out (fun k hk => tagN_lt hk) HIN.out
 have B5 := hid (B4.out.lines hp2 (fun k hk => tagN_lt hk) (x := (lvs (t : Int) p0.lines).set a ((lvs (t : Int) p0.lines).getD a [] ++ [(t : Int)])) (by
  rw [List.length_set, HNS2.out, EL.out, ci_set _ _ (by rw [HNS2.out]; exact HNL2.out), HZS.out]
  rw [show PW.lines _ = lvs (t : Int) p0.lines from rfl, HNS2.out] at hp1
  exact hp1))
 have K5 := hid (K4.out.trans (Kt.of (tag' := tagN tag W4.heap.size (12 + 3 * a)) hp2 (fun k e => by rcases e with e | ⟨j, e⟩ <;> omega) (fun k hk => tagN_lt hk)))
 have S6 := hid (show (w5.setCell ⟨gL, a, none⟩ (.slice q (zs.length + 1) cap)).cell? ⟨wb, 4, none⟩ = some (.slice (some ⟨gL, 0, none⟩) p0.lines.length p0.lines.length) by rw [range_cell B5.out.r (k := 4) rfl, EL.out])
 clear hp1 hp2
 refine wpAnyF_ready (rs := [16]) (by kernel_rfl) (by simp) (AllReadyF.cons rfl (fun K hK => ?_) AllReadyF.nil)
 go_simp
 refine hK.out _ _ S6.out (notClean (by kernel_rfl)) (fun _ _ => ?_)
 clear hK K
 try simp only [Act.put]
 refine wpAnyF_done (by kernel_rfl) ?_ _
 generalize World.setCell _ _ _ = W6 at *
 clear KS KR BD BN CN FRZ HLR HU hS1 hR1 S5 R5 S6 HRUN HIN HKP B4 K4 cwb cgl fgl
 go_wp2_with fail
 exact bodyPost_end (results_none rfl _ _ _) rfl ⟨rfl, _, by unfold sdP; exact B5.out, K5.out⟩
/-- A task stands in a line, by the document. -/
def ssP (p : PW) (t a : Nat) (s : Int) : PW := { (({ p with cores := p.cores.map (noT t) } : PW).task t 9 s).task t 14 a with lines := p.lines.set a (p.lines.getD a [] ++ [(t : Int)]) }
/-- Who stood first is gone. -/
def frP (p : PW) (a t : Nat) (l : List Int) : PW := ({ p with lines := p.lines.set a l } : PW).task t 14 (-1)
/-- Can a task do something at a frame of a kind? -/
def mtE (p : PW) (t a k : Int) : Int := if (frB p t && frB p a) = true then (if (isB p t 6 && isB p a k) = true then (if inB t p.cores = true then 0 else 7) else 3) else 2
theorem cn_mem {x : Int} : ∀ {zs : List Int}, x ∈ zs → 0 < cn x zs
 | [], h => by cases h
 | y :: l, h => by
  unfold cn sumOf
  simp only [List.map_cons, List.sum_cons]
  rcases List.mem_cons.1 h with rfl | h
  ·unfold one
   rw [if_pos rfl]
   omega
  ·have := cn_mem h
   unfold cn sumOf at this
   omega
theorem mem_cn {x : Int} {zs : List Int} (h : 0 < cn x zs) : x ∈ zs := by
 apply Classical.byContradiction
 intro hn
 have h0 : cn x zs = 0 := by
  clear h
  induction zs with
  | nil => rfl
  | cons y l ih =>
   unfold cn sumOf
   simp only [List.map_cons, List.sum_cons]
   have h1 := ih (fun e => hn (List.mem_cons_of_mem _ e))
   unfold cn sumOf at h1
   have h2 : one x y = 0 := if_neg (fun e => hn (by rw [e]; exact List.mem_cons_self ..))
   omega
 omega
/-- In a sound world who is on a core is on its own. -/
theorem oncore_eq {p : PW} (h : Snd p) {t : Nat} (ht : t < p.kinds.length) (c : Nat) (hc : c < p.cores.length) (hcc : p.tasks.getD t bl 18 = c) : (p.cores[c] = (t : Int)) ↔ inB t p.cores = true := by
 unfold inB
 rw [decide_eq_true_eq]
 constructor
 ·intro e
  exact cn_mem (by rw [← e]; exact List.getElem_mem hc)
 ·intro h1
  obtain ⟨c2, hc2, e2⟩ := List.mem_iff_getElem.1 (mem_cn h1)
  have h7 : bcB p c2 p.cores[c2] = false := h.b7 c2 hc2
  rw [e2] at h7
  unfold bcB at h7
  have hn : ((t : Int) == -1) = false := by
   rw [beq_eq_false_iff_ne]
   omega
  rw [hn, Bool.not_false, Bool.true_and, Bool.not_eq_false'] at h7
  unfold rdB at h7
  rw [Bool.and_eq_true] at h7
  have hl : t < p.tasks.length := by rw [h.lf.tasks]; exact ht
  have h8 := h7.2
  rw [Int.toNat_natCast, List.getElem?_eq_getElem hl] at h8
  simp only [Bool.and_eq_true, beq_iff_eq] at h8
  have h9 : p.tasks.getD t bl 18 = p.tasks[t] 18 := by rw [List.getD_eq_getElem?_getD, List.getElem?_eq_getElem hl]; rfl
  have h10 : c = c2 := by
   rw [h9, h8.2] at hcc
   omega
  subst h10
  exact e2
set_option maxRecDepth 100000 in
set_option maxHeartbeats 2000000 in
theorem onCore_any (wb : Nat) (tag : Nat → Nat) (V : Nat → Value) (p : PW) (t : Nat) (W : World) (bt : BoxT W wb tag V p) (hp : p.Fits) (hs : Snd p) (ht : t < p.kinds.length) (hk : p.kinds[t] = 6) :
  Calls Tryz.prog 37 #[.pointer (some ⟨wb, 0, none⟩), .int .i64 t] W fun r W' => r = .returned (eV (if inB t p.cores = true then 0 else 7)) ∧ Below W.heap.size W W' := by
 have htl : t < p.tasks.length := by rw [hs.lf.tasks]; exact ht
 obtain ⟨_, _, h18, _⟩ := nf_bounds (snd_task hs ht hk).1
 obtain ⟨c, hcc⟩ : ∃ c : Nat, p.tasks.getD t bl 18 = c := ⟨(p.tasks.getD t bl 18).toNat, by omega⟩
 have hc : c < p.cores.length := by omega
 have HEQ := hid (oncore_eq hs ht c hc hcc)
 obtain ⟨g3, cap3, e3⟩ := bt.o.tasks.form (by omega)
 obtain ⟨g6, cap6, e6⟩ := bt.o.cores.form (by omega)
 have c3 : W.cell? ⟨wb, 3, none⟩ = some (.slice (some ⟨g3, 0, none⟩) p.tasks.length cap3) := by rw [range_cell bt.r (k := 3) rfl, e3]
 have c6 : W.cell? ⟨wb, 6, none⟩ = some (.slice (some ⟨g6, 0, none⟩) p.cores.length cap6) := by rw [range_cell bt.r (k := 6) rfl, e6]
 have x18 := bt.taskAt e3 htl (show 18 < 20 by omega)
 rw [hcc] at x18
 have h6 := bt.o.cores
 rw [e6] at h6
 have xc := h6.int hc
 have hc2 : (c : Int) < (p.cores.length : Int) := by omega
 have ht2 : (t : Int) < (p.tasks.length : Int) := by omega
 have hl3 : (p.tasks.length : Int) ≤ 1000 := by have := hp.tasks; omega
 have hl6 : (p.cores.length : Int) ≤ 1000 := by have := hp.cores; omega
 generalize p.cores[c] = y at xc HEQ
 clear bt hp hs hk h18 hcc e3 e6 h6 htl
 by_cases hy : y = (t : Int)
 ·have HI := hid (HEQ.out.1 hy)
  subst hy
  rw [HI.out, if_pos rfl]
  go_enter Tryz.func37, Tryz.ntmps37
  go_upto_region 1 with fail
  go_quiet (fail)
  have BS := hid (below_drewN (Below.refl W.heap.size W) nq)
  generalize World.drewN _ _ = W1 at BS ⊢
  go_wp2_with fail
  go_ret
  exact ⟨rfl, BS.out⟩
 ·have HI := hid (show inB t p.cores = false by
   cases hb : inB t p.cores with
   | false => rfl
   | true => exact absurd (HEQ.out.2 hb) hy)
  have hyb : (y != (t : Int)) = true := by simpa using hy
  rw [HI.out, if_neg (by decide)]
  clear hy HEQ
  go_enter Tryz.func37, Tryz.ntmps37
  go_upto_region 1 with fail
  go_quiet (fail)
  have BS := hid (below_drewN (Below.refl W.heap.size W) nq)
  generalize World.drewN _ _ = W1 at BS ⊢
  go_wp2_with fail
  go_ret
  exact ⟨rfl, BS.out⟩
set_option maxRecDepth 100000 in
set_option maxHeartbeats 2000000 in
theorem meet_any (wb : Nat) (tag : Nat → Nat) (V : Nat → Value) (p : PW) (t a k : Int) (W : World) (bt : BoxT W wb tag V p) (hp : p.Fits) (hl : ∀ l ∈ p.tlbs, l.length ≤ 100) (hs : Snd p) :
  Calls Tryz.prog 25 #[.pointer (some ⟨wb, 0, none⟩), .int .i64 t, .int .i64 a, .int .i64 k] W fun r W' => r = .returned (eV (mtE p t a k)) ∧ Below W.heap.size W W' := by
 have F1 := hid (pisFrame_any wb V p t W (bt.view hp hl))
 have F2 := hid (pisFrame_any wb V p a W (bt.view hp hl))
 have I1 := hid (pis_any wb V p t 6 W (bt.view hp hl))
 have I2 := hid (pis_any wb V p a k W (bt.view hp hl))
 cases h1 : frB p t with
 | false =>
  have HE := hid (show mtE p t a k = 2 by unfold mtE; rw [h1]; rfl)
  rw [h1] at F1
  rw [HE.out]
  clear bt hp hl hs h1 F2 I1 I2
  go_enter Tryz.func25, Tryz.ntmps25
  go_wp2_with fail
  refine F1.out.mono ?_
  rintro r w1 ⟨rfl, rfl⟩
  go_wp2_with fail
  go_ret
  exact ⟨rfl, Below.refl _ _⟩
 | true =>
 rw [h1] at F1
 cases h2 : frB p a with
 | false =>
  have HE := hid (show mtE p t a k = 2 by unfold mtE; rw [h1, h2]; rfl)
  rw [h2] at F2
  rw [HE.out]
  clear bt hp hl hs h1 h2 I1 I2
  go_enter Tryz.func25, Tryz.ntmps25
  go_wp2_with fail
  refine F1.out.mono ?_
  rintro r w1 ⟨rfl, rfl⟩
  go_wp2_with fail
  refine F2.out.mono ?_
  rintro r w1 ⟨rfl, rfl⟩
  go_wp2_with fail
  go_ret
  exact ⟨rfl, Below.refl _ _⟩
 | true =>
 rw [h2] at F2
 cases h3 : isB p t 6 with
 | false =>
  have HE := hid (show mtE p t a k = 3 by unfold mtE; rw [h1, h2, h3]; rfl)
  rw [h3] at I1
  rw [HE.out]
  clear bt hp hl hs h1 h2 h3 I2
  go_enter Tryz.func25, Tryz.ntmps25
  go_wp2_with fail
  refine F1.out.mono ?_
  rintro r w1 ⟨rfl, rfl⟩
  go_wp2_with fail
  refine F2.out.mono ?_
  rintro r w1 ⟨rfl, rfl⟩
  go_wp2_with fail
  refine I1.out.mono ?_
  rintro r w1 ⟨rfl, rfl⟩
  go_wp2_with fail
  go_ret
  exact ⟨rfl, Below.refl _ _⟩
 | true =>
 rw [h3] at I1
 cases h4 : isB p a k with
 | false =>
  have HE := hid (show mtE p t a k = 3 by unfold mtE; rw [h1, h2, h3, h4]; rfl)
  rw [h4] at I2
  rw [HE.out]
  clear bt hp hl hs h1 h2 h3 h4
  go_enter Tryz.func25, Tryz.ntmps25
  go_wp2_with fail
  refine F1.out.mono ?_
  rintro r w1 ⟨rfl, rfl⟩
  go_wp2_with fail
  refine F2.out.mono ?_
  rintro r w1 ⟨rfl, rfl⟩
  go_wp2_with fail
  refine I1.out.mono ?_
  rintro r w1 ⟨rfl, rfl⟩
  go_wp2_with fail
  refine I2.out.mono ?_
  rintro r w1 ⟨rfl, rfl⟩
  go_wp2_with fail
  go_ret
  exact ⟨rfl, Below.refl _ _⟩
 | true =>
  rw [h4] at I2
  have HE := hid (show mtE p t a k = if inB t p.cores = true then 0 else 7 by unfold mtE; rw [h1, h2, h3, h4]; rfl)
  obtain ⟨n, hn, rfl, hk⟩ := thE_in (show thE p t 6 = 0 by unfold thE; rw [h1, h3]; rfl)
  have HO := hid (onCore_any wb tag V p n W bt hp hs hn hk)
  rw [HE.out]
  generalize eV (if inB n p.cores = true then 0 else 7) = ev at HO ⊢
  clear bt hp hl hs h1 h2 h3 h4 hk HE
  go_enter Tryz.func25, Tryz.ntmps25
  go_wp2_with fail
  refine F1.out.mono ?_
  rintro r w1 ⟨rfl, rfl⟩
  go_wp2_with fail
  refine F2.out.mono ?_
  rintro r w1 ⟨rfl, rfl⟩
  go_wp2_with fail
  refine I1.out.mono ?_
  rintro r w1 ⟨rfl, rfl⟩
  go_wp2_with fail
  refine I2.out.mono ?_
  rintro r w1 ⟨rfl, rfl⟩
  go_wp2_with fail
  refine HO.out.mono ?_
  rintro r w1 ⟨rfl, hb⟩
  have BB := hid hb
  clear hb
  go_wp2_with fail
  go_ret
  exact ⟨rfl, BB.out⟩
end Go.Proofs.YtakmaeohhclngaaGreatDoor.Wd
