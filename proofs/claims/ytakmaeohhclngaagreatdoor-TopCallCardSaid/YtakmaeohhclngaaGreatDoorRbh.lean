/- Numbers without one: keyholdref.without, walked. · A task is still, by the document: keyholdref.Stopped, walked. (Written by mk_stop.py.) · A task is still: deed.Stop, walked. (Written by mk_lvstop.py.) · A task may run, by the document: keyholdref.Woken, walked. (Written by mk_woken.py.) · The rest of GRf: what few laws reach. · The rest of GRf: what few laws reach. -/
import Derived.Test.YtakmaeohhclngaaGreatDoorRaz
namespace Go.Proofs.YtakmaeohhclngaaGreatDoor.Wd
open Go.RowKit Go.Proofs.YtakmaeohhclngaaGreatDoor.Mem Go.Proofs.YtakmaeohhclngaaGreatDoor.Bw Go.Proofs.YtakmaeohhclngaaGreatDoor.Nums Go.Proofs.YtakmaeohhclngaaGreatDoor.Mmu
theorem set_getD {α : Type} (l : List α) (t : Nat) (d x : α) (ht : t < l.length) : (l.set t x).getD t d = x := by
 rw [List.getD_eq_getElem?_getD, List.getElem?_set_self ht]
 rfl
theorem upd_comm (f : Nat → Int) (i j : Nat) (x y : Int) (h : i ≠ j) : upd (upd f i x) j y = upd (upd f j y) i x := by
 funext k
 unfold upd
 by_cases h1 : k = j
 ·rw [if_pos h1, if_neg (fun e => h (e.symm.trans h1)), if_pos h1]
 ·rw [if_neg h1]
  by_cases h2 : k = i
  ·rw [if_pos h2, if_pos h2]
  ·rw [if_neg h2, if_neg h2, if_neg h1]
end Go.Proofs.YtakmaeohhclngaaGreatDoor.Wd
namespace Go.Proofs.YtakmaeohhclngaaGreatDoor.Wd
open Go.RowKit Go.Proofs.YtakmaeohhclngaaGreatDoor.Mem Go.Proofs.YtakmaeohhclngaaGreatDoor.Bw Go.Proofs.YtakmaeohhclngaaGreatDoor.Nums Go.Proofs.YtakmaeohhclngaaGreatDoor.Mmu
/-- 'append' of a row onto an empty one of one's own. -/
theorem app_copy {w : World} {base : Nat} {v : Value} (hown : w.ownsRow base 3 1 v 0 []) (hbase : base ≤ w.heap.size) {u : Value} {zs : List Int} (hu : IntsIn w u zs) (hl : zs.length ≤ 1000) :
  ∃ q c w', (Builtin.append_ #[22, 22] 22 #[v, u]).run Tryz.prog w = .ok (.slice q zs.length c) w' ∧ w'.ownsRow base 3 1 (.slice q zs.length c) zs.length (ints zs) ∧ Below base w w' ∧ w.grownBy w' v.ownBlock := by
 obtain ⟨i, hi, hz, hs, hy⟩ := info_get infoI
 obtain ⟨q, b, off, cap, rfl, hq, hzz⟩ := hu
 obtain ⟨h1, h2⟩ := ints_src hq hzz (Below.refl w.heap.size w)
 obtain ⟨v', w', hr, h3, h4⟩ := run_app (P := Tryz.prog) 22 22 3 i (.int .i64 0) 1 8 Tryz.underlying22 hi hz hs hy rfl (by decide) base v hown q zs.length cap (ints zs) h1 (by unfold ints; simp) h2 (fun x hx => by
  unfold ints at hx
  obtain ⟨y, _, rfl⟩ := List.mem_map.1 hx
  rfl) (by unfold maxLen; omega) (by omega) hbase
 obtain ⟨q', c', rfl⟩ := own_form h3
 exact ⟨q', c', w', hr, h3, (Below.refl base w).grown h4 hbase (fun k hk => (hown.lt k hk).1), h4⟩
/-- .. and of one number onto a row of one's own. -/
theorem app_one {w : World} {base : Nat} {v : Value} {zs : List Int} (hown : w.ownsRow base 3 1 v zs.length (ints zs)) (hbase : base ≤ w.heap.size) (hl : zs.length ≤ 1000) {b : Nat} {x : Int} (hb : w.cell? ⟨b, 0, none⟩ = some (.int .i64 x)) :
  ∃ q c w', (Builtin.append_ #[22, 22] 22 #[v, .slice (some ⟨b, 0, none⟩) 1 1]).run Tryz.prog w = .ok (.slice q (zs.length + 1) c) w' ∧ w'.ownsRow base 3 1 (.slice q (zs.length + 1) c) (zs ++ [x]).length (ints (zs ++ [x])) ∧ Below base w w' := by
 obtain ⟨i, hi, hz, hs, hy⟩ := info_get infoI
 obtain ⟨v', w', hr, h2, h3, _⟩ := run_append_own (P := Tryz.prog) w base 22 22 3 i (.int .i64 0) 1 8 Tryz.underlying22 hi hz hs hy rfl (by decide) v zs.length (ints zs) hown ⟨b, 0, none⟩ 1 1 [.int .i64 x] rfl (fun j v hj => by
  match j, hj with
  | 0, hj => cases hj; exact hb
  | j + 1, hj => simp at hj) (int1 x) (by unfold maxLen; omega) (by omega) hbase
 obtain ⟨q, cap, rfl⟩ := own_form h2
 have e : ints zs ++ [Value.int .i64 x] = ints (zs ++ [x]) := by unfold ints; simp
 exact ⟨q, cap, w', hr, by rw [← e, List.length_append]; exact h2, (Below.refl base w).grown h3 hbase (fun k hk => (hown.lt k hk).1)⟩
/-- A task may run, by the document. -/
def wnP (p : PW) (t n : Nat) : PW := { (p.task t 9 1).task t 14 (-1) with ready := p.ready.set n (p.ready.getD n [] ++ [(t : Int)]) }
set_option maxRecDepth 100000 in
set_option maxHeartbeats 8000000 in
theorem woken_ref (wb : Nat) (tag : Nat → Nat) (V : Nat → Value) (p : PW) (t n : Nat) (W : World) (bt : BoxT W wb tag V p) (hp : p.Fits) (ht : t < p.tasks.length) (hn : n < p.ready.length) (h18 : 0 ≤ p.tasks.getD t bl 18 ∧ p.tasks.getD t bl 18 ≤ 1000) (h10 : 0 ≤ p.tasks.getD t bl 10 ∧ p.tasks.getD t bl 10 ≤ 1000) (hcp : p.tasks.getD t bl 18 * 4 + p.tasks.getD t bl 10 = (n : Int)) :
  Calls Tryz.prog 50 #[.pointer (some ⟨wb, 0, none⟩), .int .i64 t] W fun r W' => r = .returned (.tuple #[]) ∧ ∃ tag', BoxT W' wb tag' V (wnP p t n) ∧ Kt tag tag' W W' := by
 have HZZ := hid (show (p.ready.getD n []).length ≤ 1000 by rw [List.getD_eq_getElem?_getD, List.getElem?_eq_getElem hn]; exact hp.next _ (List.getElem_mem hn))
 have HNL := hid hn
 have hl7 : (p.ready.length : Int) ≤ 1000 := by have := hp.ready; omega
 have hl3 : (p.tasks.length : Int) ≤ 1000 := by have := hp.tasks; omega
 have ht2 : (t : Int) < (p.tasks.length : Int) := by omega
 have hn2 : (n : Int) < (p.ready.length : Int) := by omega
 have HTT := hid ht
 have L1 := hid (PW.task_len p t 9 1)
 have L2 := hid ((PW.task_len (p.task t 9 1) t 14 (-1)).trans L1.out)
 have G18 := hid (show (((p.task t 9 1).task t 14 (-1)).tasks.getD t bl) 18 = p.tasks.getD t bl 18 by rw [task_getD _ t 14 18 (-1) (by rw [L1.out]; exact ht)]; exact task_getD p t 9 18 1 ht)
 have G10 := hid (show (((p.task t 9 1).task t 14 (-1)).tasks.getD t bl) 10 = p.tasks.getD t bl 10 by rw [task_getD _ t 14 10 (-1) (by rw [L1.out]; exact ht)]; exact task_getD p t 9 10 1 ht)
 generalize p.tasks.getD t bl 18 = cc at G18 h18 hcp
 generalize p.tasks.getD t bl 10 = pp at G10 h10 hcp
 obtain ⟨ha1, ha2⟩ := h18
 obtain ⟨hb1, hb2⟩ := h10
 obtain ⟨g3, cap3, e3⟩ := bt.o.tasks.form (by omega)
 have E3 := hid e3
 have c3 : W.cell? ⟨wb, 3, none⟩ = some (.slice (some ⟨g3, 0, none⟩) p.tasks.length cap3) := by rw [range_cell bt.r (k := 3) rfl, e3]
 have x9 := bt.taskAt e3 ht (show 9 < 20 by omega)
 have f9 := bt.tasksFr e3 (t * 20 + 9)
 obtain ⟨b1, k1⟩ := bt.task e3 ht (show 9 < 20 by omega) 1
 have B1 := hid b1
 have K1 := hid k1
 clear bt hp b1 k1 e3 ht hn
 go_enter Tryz.func50, Tryz.ntmps50
 go_upto_region 1 with fail
 generalize World.setCell _ _ _ = W1 at *
 clear c3 x9 f9
 have e4 : V 3 = .slice (some ⟨g3, 0, none⟩) (p.task t 9 1).tasks.length cap3 := by rw [L1.out]; exact E3.out
 have c3 : W1.cell? ⟨wb, 3, none⟩ = some (.slice (some ⟨g3, 0, none⟩) p.tasks.length cap3) := by rw [range_cell B1.out.r (k := 3) rfl, E3.out]
 have x14 := B1.out.taskAt e4 (i := t) (by rw [L1.out]; exact HTT.out) (show 14 < 20 by omega)
 have f14 := B1.out.tasksFr e4 (t * 20 + 14)
 obtain ⟨b2, k2⟩ := B1.out.task e4 (i := t) (by rw [L1.out]; exact HTT.out) (show 14 < 20 by omega) (-1)
 have B2 := hid b2
 have K2 := hid (K1.out.trans k2)
 clear b2 k2 e4 B1 K1
 go_upto_region 2 with fail
 generalize World.setCell _ _ _ = W2 at *
 clear c3 x14 f14
 have e5 : V 3 = .slice (some ⟨g3, 0, none⟩) ((p.task t 9 1).task t 14 (-1)).tasks.length cap3 := by rw [L2.out]; exact E3.out
 have c3 : W2.cell? ⟨wb, 3, none⟩ = some (.slice (some ⟨g3, 0, none⟩) p.tasks.length cap3) := by rw [range_cell B2.out.r (k := 3) rfl, E3.out]
 have y18 := B2.out.taskAt e5 (i := t) (by rw [L2.out]; exact HTT.out) (show 18 < 20 by omega)
 have y10 := B2.out.taskAt e5 (i := t) (by rw [L2.out]; exact HTT.out) (show 10 < 20 by omega)
 rw [G18.out] at y18
 rw [G10.out] at y10
 clear e5
 go_quiet (fail)
 have BS := hid (below_drewN (Below.refl W2.heap.size W2) nq)
 generalize World.drewN _ _ = W3 at BS ⊢
 have B3 := hid (B2.out.below BS.out)
 have K3 := hid (K2.out.trans (.below BS.out))
 clear c3 y18 y10 B2 K2 BS
 go_wp2_with fail
 obtain ⟨gL, eL⟩ := B3.out.o.ready.form
 have hLR := B3.out.o.ready
 rw [eL] at hLR
 obtain ⟨u, cu, hu⟩ := hLR.at (j := n) HNL.out
 obtain ⟨zs, hzs⟩ : ∃ zs, (p.ready).getD n [] = zs := ⟨_, rfl⟩
 have hu2 : InT W3 tag (13 + 3 * n) 3 1 u (zs.length, ints zs) := by
  have h1 : InT W3 tag (13 + 3 * n) 3 1 u (ci (p.ready) n) := hu
  unfold ci at h1
  rw [hzs] at h1
  exact h1
 have HZL := hid (show zs.length ≤ 1000 from by rw [← hzs]; exact HZZ.out)
 have HZS := hid hzs
 have HU := hid (own_ints hu2.1)
 have HLR := hid hLR
 have EL := hid (show V 7 = .slice (some ⟨gL, 0, none⟩) p.ready.length p.ready.length from eL)
 have FRZ := hid (fun X (h : Below W3.heap.size W3 X) => show X.frozen? ⟨gL, n, none⟩ = false from (hLR.kp (T := fun _ => False) (.of_below h) (fun _ _ => rfl) (fun _ _ e => e)).fr n)
 have KS := hid (fun X (h : Below W3.heap.size W3 X) => show X.cell? ⟨wb, 7, none⟩ = some (.slice (some ⟨gL, 0, none⟩) p.ready.length p.ready.length) by rw [range_cell (B3.out.below h).r (k := 7) rfl, EL.out])
 have KR := hid (fun X (h : Below W3.heap.size W3 X) => show X.cell? ⟨gL, n, none⟩ = some u from (h.cell (World.block_lt_of_cell? _ _ cu)).trans cu)
 have BD : Hid (Below W3.heap.size W3 W3.drew) := hid (below_drew W3 1)
 have FIN := hid (fun X v (zz : List Int) (hz : zz = zs ++ [(t : Int)]) (h : Below W3.heap.size W3 X) (ho : X.ownsRow W3.heap.size 3 1 v zz.length (ints zz)) => show BoxT (X.setCell ⟨gL, n, none⟩ v) wb (tagN tag W3.heap.size (13 + 3 * n)) V { (p.task t 9 1).task t 14 (-1) with ready := (p.ready).set n ((p.ready).getD n [] ++ [(t : Int)]) } ∧ Kt tag (tagN tag W3.heap.size (13 + 3 * n)) W (X.setCell ⟨gL, n, none⟩ v) from by
  obtain ⟨hp1, hp2⟩ := hLR.put (tag' := tagN tag W3.heap.size (13 + 3 * n)) (w1 := X) (u := v) (c := (zz.length, ints zz)) (j := n) HNL.out (fun j => by omega) (.of_below h) (fun k hk => tagN_lt hk) ⟨ho.mono (Nat.zero_le _), fun k e => by
   unfold tagN
   rw [if_neg (by have := (ho.lt k e).1; omega)]⟩
  refine ⟨B3.out.ready hp2 (fun k hk => tagN_lt hk) ?_, K3.out.trans (Kt.of (tag' := tagN tag W3.heap.size (13 + 3 * n)) hp2 (fun k e => by rcases e with e | ⟨j, e⟩ <;> omega) (fun k hk => tagN_lt hk))⟩
  rw [List.length_set, EL.out, ci_set _ _ HNL.out, hzs, ← hz]
  exact hp1)
 clear hu hu2 hzs hLR eL cu
 refine wp_region_F (S := fun X => X.cell? ⟨wb, 7, none⟩ = some (.slice (some ⟨gL, 0, none⟩) p.ready.length p.ready.length)) (R := fun X => X.cell? ⟨gL, n, none⟩ = some u) [18] (by kernel_rfl) (KS.out _ BD.out) (KR.out _ BD.out) (fun hS0 hR0 => ?_)
 have hS := hid hS0
 have hR := hid hR0
 clear hS0 hR0
 refine wpAnyF_take (i := 0) (v := .pointer (some ⟨wb, 0, none⟩)) rfl (by kernel_rfl) (by kernel_rfl) (by kernel_rfl) (by kernel_rfl) (fun _ _ _ h => h) (Or.inl ⟨by rfl, fun W h => by clear h; go_simp⟩) hS.out (fun _ => hR.out) ?_
 simp only [jj]
 refine wpAnyF_take (i := 1) (v := .pointer (some ⟨wb, 0, none⟩)) rfl (by kernel_rfl) (by kernel_rfl) (by kernel_rfl) (by kernel_rfl) (fun _ _ _ h => h) (Or.inl ⟨by rfl, fun W h => by clear h; go_simp⟩) hS.out (fun _ => hR.out) ?_
 simp only [jj]
 refine wpAnyF_take (i := 2) (v := .pointer (some ⟨wb, 7, none⟩)) rfl (by kernel_rfl) (by kernel_rfl) (by kernel_rfl) (by kernel_rfl) (fun _ _ _ h => h) (Or.inl ⟨by rfl, fun W h => by clear h; go_simp⟩) hS.out (fun _ => hR.out) ?_
 simp only [jj]
 refine wpAnyF_take (i := 3) (v := .slice (some ⟨gL, 0, none⟩) p.ready.length p.ready.length) rfl (by kernel_rfl) (by kernel_rfl) (by kernel_rfl) (by kernel_rfl) (fun _ _ _ h => h) (Or.inl ⟨by rfl, fun W h => by have h3 := h; clear h; go_simp⟩) hS.out (fun _ => hR.out) ?_
 simp only [jj]
 refine wpAnyF_take (i := 4) (v := .int .i64 n) rfl (by kernel_rfl) (by kernel_rfl) (by kernel_rfl) (by kernel_rfl) (fun _ _ _ h => h) (Or.inl ⟨by rfl, fun W h => by clear h; go_simp⟩) hS.out (fun _ => hR.out) ?_
 simp only [jj]
 refine wpAnyF_take (i := 6) (v := .pointer (some ⟨wb, 0, none⟩)) rfl (by kernel_rfl) (by kernel_rfl) (by kernel_rfl) (by kernel_rfl) (fun _ _ _ h => h) (Or.inl ⟨by rfl, fun W h => by clear h; go_simp⟩) hS.out (fun _ => hR.out) ?_
 simp only [jj]
 refine wpAnyF_take (i := 7) (v := .pointer (some ⟨wb, 0, none⟩)) rfl (by kernel_rfl) (by kernel_rfl) (by kernel_rfl) (by kernel_rfl) (fun _ _ _ h => h) (Or.inl ⟨by rfl, fun W h => by clear h; go_simp⟩) hS.out (fun _ => hR.out) ?_
 simp only [jj]
 refine wpAnyF_take (i := 8) (v := .pointer (some ⟨wb, 7, none⟩)) rfl (by kernel_rfl) (by kernel_rfl) (by kernel_rfl) (by kernel_rfl) (fun _ _ _ h => h) (Or.inl ⟨by rfl, fun W h => by clear h; go_simp⟩) hS.out (fun _ => hR.out) ?_
 simp only [jj]
 refine wpAnyF_take (i := 9) (v := .slice (some ⟨gL, 0, none⟩) p.ready.length p.ready.length) rfl (by kernel_rfl) (by kernel_rfl) (by kernel_rfl) (by kernel_rfl) (fun _ _ _ h => h) (Or.inl ⟨by rfl, fun W h => by have h3 := h; clear h; go_simp⟩) hS.out (fun _ => hR.out) ?_
 simp only [jj]
 refine wpAnyF_take (i := 10) (v := .int .i64 n) rfl (by kernel_rfl) (by kernel_rfl) (by kernel_rfl) (by kernel_rfl) (fun _ _ _ h => h) (Or.inl ⟨by rfl, fun W h => by clear h; go_simp⟩) hS.out (fun _ => hR.out) ?_
 simp only [jj]
 refine wpAnyF_take (i := 11) (v := .pointer (some ⟨gL, n, none⟩)) rfl (by kernel_rfl) (by kernel_rfl) (by kernel_rfl) (by kernel_rfl) (fun _ _ _ h => h) (Or.inl ⟨by rfl, fun W h => by clear h; go_simp⟩) hS.out (fun _ => hR.out) ?_
 simp only [jj]
 refine wpAnyF_takeR (i := 12) (v := u) rfl (by kernel_rfl) (by kernel_rfl) (by kernel_rfl) (by kernel_rfl) (by kernel_rfl) (by kernel_rfl) (fun _ _ _ h => h) (Or.inl ⟨by rfl, fun W h => by have h3 := h.2; clear h; go_simp⟩) hS.out (fun _ => hR.out) ?_
 simp only [jj]
 refine wpAnyF_take (i := 14) (v := .int .i64 t) rfl (by kernel_rfl) (by kernel_rfl) (by kernel_rfl) (by kernel_rfl) (fun _ _ _ h => h) (Or.inl ⟨by rfl, fun W h => by clear h; go_simp⟩) hS.out (fun _ => hR.out) ?_
 simp only [jj]
 refine wpAnyF_ready (rs := [5, 15]) (by kernel_rfl) (by simp) (AllReadyF.cons rfl (fun K hK => ?_) (AllReadyF.cons rfl (fun K hK => ?_) AllReadyF.nil))
 ·have Ea := hid (show (W3.alloc (.cells #[] 3)).drew.ownsRow W3.heap.size 3 1 (.slice (some ⟨W3.heap.size, 0, none⟩) 0 0) 0 [] from (World.ownsRow_made W3 #[] 0 (Nat.le_refl _) (Nat.zero_le _) (by simp)))
  have BLa := hid (show Below W3.heap.size W3 (W3.alloc (.cells #[] 3)).drew from (bal (Below.refl _ W3) (.cells #[] 3)).drew)
  go_simp
  refine hK.out _ _ (KS.out _ BLa.out) (fun _ => KR.out _ BLa.out) (fun _ _ => ?_)
  clear hK K
  try simp only [Act.put, jD, jE, jF]
  generalize World.drew (World.alloc _ _) = Xa at *
  refine wpAnyF_ready (rs := [13, 15]) (by kernel_rfl) (by simp) (AllReadyF.cons rfl (fun K hK => ?_) (AllReadyF.cons rfl (fun K hK => ?_) AllReadyF.nil))
  ·obtain ⟨qab, cab, Yab, hr, ho, hb, hg⟩ := app_copy Ea.out BLa.out.size (show IntsIn Xa u zs from HU.out.below BLa.out) HZL.out
   have HRab := hid hr
   have OVab := hid ho
   have BLab := hid (show Below W3.heap.size W3 Yab from BLa.out.trans hb)
   clear hr ho hb hg
   refine wp_app1 _ _ 22 rfl (.slice (some ⟨W3.heap.size, 0, none⟩) 0 0) u (.slice qab zs.length cab) rfl rfl HRab.out ?_
   refine hK.out _ _ (KS.out _ BLab.out) (fun _ => KR.out _ BLab.out) (fun _ _ => ?_)
   clear hK K
   simp only [jj]
   refine wpAnyF_ready (rs := [15]) (by kernel_rfl) (by simp) (AllReadyF.cons rfl (fun K hK => ?_)  AllReadyF.nil)
   have TTabc := hid (show (Yab.alloc (.cells #[.int .i64 t] 3)).cell? ⟨Yab.heap.size, 0, none⟩ = some (.int .i64 t) from cells_new Yab #[.int .i64 t] 3 0)
   have BLabc := hid (show Below W3.heap.size W3 (Yab.alloc (.cells #[.int .i64 t] 3)) from bal BLab.out (.cells #[.int .i64 t] 3))
   have OVabc := hid (show (Yab.alloc (.cells #[.int .i64 t] 3)).ownsRow W3.heap.size 3 1 (.slice qab zs.length cab) zs.length (ints zs) from OVab.out.alloc _)
   go_simp
   refine hK.out _ _ (KS.out _ BLabc.out) (fun _ => KR.out _ BLabc.out) (fun _ _ => ?_)
   clear hK K
   try simp only [Act.put, jD, jE, jF]
   generalize World.alloc _ _ = Xabc at *
   generalize Yab.heap.size = tbabc at *
   refine wpAnyF_ready (rs := [16]) (by kernel_rfl) (by simp) (AllReadyF.cons rfl (fun K hK => ?_)  AllReadyF.nil)
   obtain ⟨qabcd, cabcd, Yabcd, hr, ho, hb⟩ := app_one OVabc.out BLabc.out.size HZL.out TTabc.out
   have HRabcd := hid hr
   have OWabcd := hid ho
   have BLabcd := hid (show Below W3.heap.size W3 Yabcd from BLabc.out.trans hb)
   have Sabcd := hid (KS.out _ BLabcd.out)
   have Rabcd := hid (KR.out _ BLabcd.out)
   clear hr ho hb
   refine wp_app1 _ _ 22 rfl (.slice qab zs.length cab) (.slice (some ⟨tbabc, 0, none⟩) 1 1) (.slice qabcd (zs.length + 1) cabcd) rfl rfl HRabcd.out ?_
   refine hK.out _ _ (KS.out _ BLabcd.out) (fun _ => KR.out _ BLabcd.out) (fun _ _ => ?_)
   clear hK K
   simp only [jj]
   refine wpAnyF_take (i := 17) (v := .pointer (some ⟨gL, n, none⟩)) rfl (by kernel_rfl) (by kernel_rfl) (by kernel_rfl) (by kernel_rfl) (fun _ _ _ h => h) (Or.inl ⟨by rfl, fun W h => by clear h; go_simp⟩) Sabcd.out (fun _ => Rabcd.out) ?_
   simp only [jj]
   have cwb := KS.out _ BLabcd.out
   have cgl := KR.out _ BLabcd.out
   have fgl := FRZ.out _ BLabcd.out
   obtain ⟨hb6, hk6⟩ := FIN.out Yabcd (.slice qabcd (zs.length + 1) cabcd) (zs ++ [(t : Int)]) rfl BLabcd.out OWabcd.out
   have B6 := hid hb6
   have K6 := hid hk6
   have S6 := hid (show (Yabcd.setCell ⟨gL, n, none⟩ (.slice qabcd (zs.length + 1) cabcd)).cell? ⟨wb, 7, none⟩ = some (.slice (some ⟨gL, 0, none⟩) p.ready.length p.ready.length) by rw [range_cell hb6.r (k := 7) rfl, EL.out])
   clear hb6 hk6
   refine wpAnyF_ready (rs := [18]) (by kernel_rfl) (by simp) (AllReadyF.cons rfl (fun K hK => ?_) AllReadyF.nil)
   go_simp
   refine hK.out _ _ S6.out (notClean (by kernel_rfl)) (fun _ _ => ?_)
   clear hK K
   try simp only [Act.put]
   refine wpAnyF_done (by kernel_rfl) ?_ _
   generalize World.setCell _ _ _ = W6 at *
   go_wp2_with fail
   exact bodyPost_end (results_none rfl _ _ _) rfl ⟨rfl, _, by unfold wnP; exact B6.out, K6.out⟩
  ·have TTac := hid (show (Xa.alloc (.cells #[.int .i64 t] 3)).cell? ⟨Xa.heap.size, 0, none⟩ = some (.int .i64 t) from cells_new Xa #[.int .i64 t] 3 0)
   have BLac := hid (show Below W3.heap.size W3 (Xa.alloc (.cells #[.int .i64 t] 3)) from bal BLa.out (.cells #[.int .i64 t] 3))
   have Eac := hid (show (Xa.alloc (.cells #[.int .i64 t] 3)).ownsRow W3.heap.size 3 1 (.slice (some ⟨W3.heap.size, 0, none⟩) 0 0) 0 [] from Ea.out.alloc _)
   have NEac := hid (show W3.heap.size ≠ Xa.heap.size from fun e => by have h1 : W3.heap.size < Xa.heap.size := (Ea.out.lt _ rfl).2; omega)
   go_simp
   refine hK.out _ _ (KS.out _ BLac.out) (fun _ => KR.out _ BLac.out) (fun _ _ => ?_)
   clear hK K
   try simp only [Act.put, jD, jE, jF]
   generalize World.alloc _ _ = Xac at *
   generalize Xa.heap.size = tbac at *
   refine wpAnyF_ready (rs := [13]) (by kernel_rfl) (by simp) (AllReadyF.cons rfl (fun K hK => ?_)  AllReadyF.nil)
   obtain ⟨qacb, cacb, Yacb, hr, ho, hb, hg⟩ := app_copy Eac.out BLac.out.size (show IntsIn Xac u zs from HU.out.below BLac.out) HZL.out
   have HRacb := hid hr
   have OVacb := hid ho
   have BLacb := hid (show Below W3.heap.size W3 Yacb from BLac.out.trans hb)
   have TTacb := hid (show Yacb.cell? ⟨tbac, 0, none⟩ = some (.int .i64 t) from hg.cell TTac.out (fun e => NEac.out (Option.some.inj e).symm))
   clear hr ho hb hg
   refine wp_app1 _ _ 22 rfl (.slice (some ⟨W3.heap.size, 0, none⟩) 0 0) u (.slice qacb zs.length cacb) rfl rfl HRacb.out ?_
   refine hK.out _ _ (KS.out _ BLacb.out) (fun _ => KR.out _ BLacb.out) (fun _ _ => ?_)
   clear hK K
   simp only [jj]
   refine wpAnyF_ready (rs := [16]) (by kernel_rfl) (by simp) (AllReadyF.cons rfl (fun K hK => ?_)  AllReadyF.nil)
   obtain ⟨qacbd, cacbd, Yacbd, hr, ho, hb⟩ := app_one OVacb.out BLacb.out.size HZL.out TTacb.out
   have HRacbd := hid hr
   have OWacbd := hid ho
   have BLacbd := hid (show Below W3.heap.size W3 Yacbd from BLacb.out.trans hb)
   have Sacbd := hid (KS.out _ BLacbd.out)
   have Racbd := hid (KR.out _ BLacbd.out)
   clear hr ho hb
   refine wp_app1 _ _ 22 rfl (.slice qacb zs.length cacb) (.slice (some ⟨tbac, 0, none⟩) 1 1) (.slice qacbd (zs.length + 1) cacbd) rfl rfl HRacbd.out ?_
   refine hK.out _ _ (KS.out _ BLacbd.out) (fun _ => KR.out _ BLacbd.out) (fun _ _ => ?_)
   clear hK K
   simp only [jj]
   refine wpAnyF_take (i := 17) (v := .pointer (some ⟨gL, n, none⟩)) rfl (by kernel_rfl) (by kernel_rfl) (by kernel_rfl) (by kernel_rfl) (fun _ _ _ h => h) (Or.inl ⟨by rfl, fun W h => by clear h; go_simp⟩) Sacbd.out (fun _ => Racbd.out) ?_
   simp only [jj]
   have cwb := KS.out _ BLacbd.out
   have cgl := KR.out _ BLacbd.out
   have fgl := FRZ.out _ BLacbd.out
   obtain ⟨hb6, hk6⟩ := FIN.out Yacbd (.slice qacbd (zs.length + 1) cacbd) (zs ++ [(t : Int)]) rfl BLacbd.out OWacbd.out
   have B6 := hid hb6
   have K6 := hid hk6
   have S6 := hid (show (Yacbd.setCell ⟨gL, n, none⟩ (.slice qacbd (zs.length + 1) cacbd)).cell? ⟨wb, 7, none⟩ = some (.slice (some ⟨gL, 0, none⟩) p.ready.length p.ready.length) by rw [range_cell hb6.r (k := 7) rfl, EL.out])
   clear hb6 hk6
   refine wpAnyF_ready (rs := [18]) (by kernel_rfl) (by simp) (AllReadyF.cons rfl (fun K hK => ?_) AllReadyF.nil)
   go_simp
   refine hK.out _ _ S6.out (notClean (by kernel_rfl)) (fun _ _ => ?_)
   clear hK K
   try simp only [Act.put]
   refine wpAnyF_done (by kernel_rfl) ?_ _
   generalize World.setCell _ _ _ = W6 at *
   go_wp2_with fail
   exact bodyPost_end (results_none rfl _ _ _) rfl ⟨rfl, _, by unfold wnP; exact B6.out, K6.out⟩
 ·have TTc := hid (show (W3.alloc (.cells #[.int .i64 t] 3)).drew.cell? ⟨W3.heap.size, 0, none⟩ = some (.int .i64 t) from cells_new W3 #[.int .i64 t] 3 0)
  have BLc := hid (show Below W3.heap.size W3 (W3.alloc (.cells #[.int .i64 t] 3)).drew from (bal (Below.refl _ W3) (.cells #[.int .i64 t] 3)).drew)
  go_simp
  refine hK.out _ _ (KS.out _ BLc.out) (fun _ => KR.out _ BLc.out) (fun _ _ => ?_)
  clear hK K
  try simp only [Act.put, jD, jE, jF]
  generalize World.drew (World.alloc _ _) = Xc at *
  refine wpAnyF_ready (rs := [5]) (by kernel_rfl) (by simp) (AllReadyF.cons rfl (fun K hK => ?_)  AllReadyF.nil)
  have Eca := hid (show (Xc.alloc (.cells #[] 3)).ownsRow W3.heap.size 3 1 (.slice (some ⟨Xc.heap.size, 0, none⟩) 0 0) 0 [] from (World.ownsRow_made Xc #[] 0 BLc.out.size (Nat.zero_le _) (by simp)))
  have BLca := hid (show Below W3.heap.size W3 (Xc.alloc (.cells #[] 3)) from bal BLc.out (.cells #[] 3))
  have TTca := hid (show (Xc.alloc (.cells #[] 3)).cell? ⟨W3.heap.size, 0, none⟩ = some (.int .i64 t) from (World.cell?_alloc_lt _ _ _ (World.block_lt_of_cell? _ _ TTc.out)).trans TTc.out)
  have NEca := hid (show (Xc.heap.size) ≠ W3.heap.size from fun e => by have := World.block_lt_of_cell? _ _ TTc.out; simp only at this; omega)
  go_simp
  refine hK.out _ _ (KS.out _ BLca.out) (fun _ => KR.out _ BLca.out) (fun _ _ => ?_)
  clear hK K
  try simp only [Act.put, jD, jE, jF]
  generalize World.alloc _ _ = Xca at *
  generalize Xc.heap.size = ebca at *
  refine wpAnyF_ready (rs := [13]) (by kernel_rfl) (by simp) (AllReadyF.cons rfl (fun K hK => ?_)  AllReadyF.nil)
  obtain ⟨qcab, ccab, Ycab, hr, ho, hb, hg⟩ := app_copy Eca.out BLca.out.size (show IntsIn Xca u zs from HU.out.below BLca.out) HZL.out
  have HRcab := hid hr
  have OVcab := hid ho
  have BLcab := hid (show Below W3.heap.size W3 Ycab from BLca.out.trans hb)
  have TTcab := hid (show Ycab.cell? ⟨W3.heap.size, 0, none⟩ = some (.int .i64 t) from hg.cell TTca.out (fun e => NEca.out (Option.some.inj e).symm))
  clear hr ho hb hg
  refine wp_app1 _ _ 22 rfl (.slice (some ⟨ebca, 0, none⟩) 0 0) u (.slice qcab zs.length ccab) rfl rfl HRcab.out ?_
  refine hK.out _ _ (KS.out _ BLcab.out) (fun _ => KR.out _ BLcab.out) (fun _ _ => ?_)
  clear hK K
  simp only [jj]
  refine wpAnyF_ready (rs := [16]) (by kernel_rfl) (by simp) (AllReadyF.cons rfl (fun K hK => ?_)  AllReadyF.nil)
  obtain ⟨qcabd, ccabd, Ycabd, hr, ho, hb⟩ := app_one OVcab.out BLcab.out.size HZL.out TTcab.out
  have HRcabd := hid hr
  have OWcabd := hid ho
  have BLcabd := hid (show Below W3.heap.size W3 Ycabd from BLcab.out.trans hb)
  have Scabd := hid (KS.out _ BLcabd.out)
  have Rcabd := hid (KR.out _ BLcabd.out)
  clear hr ho hb
  refine wp_app1 _ _ 22 rfl (.slice qcab zs.length ccab) (.slice (some ⟨W3.heap.size, 0, none⟩) 1 1) (.slice qcabd (zs.length + 1) ccabd) rfl rfl HRcabd.out ?_
  refine hK.out _ _ (KS.out _ BLcabd.out) (fun _ => KR.out _ BLcabd.out) (fun _ _ => ?_)
  clear hK K
  simp only [jj]
  refine wpAnyF_take (i := 17) (v := .pointer (some ⟨gL, n, none⟩)) rfl (by kernel_rfl) (by kernel_rfl) (by kernel_rfl) (by kernel_rfl) (fun _ _ _ h => h) (Or.inl ⟨by rfl, fun W h => by clear h; go_simp⟩) Scabd.out (fun _ => Rcabd.out) ?_
  simp only [jj]
  have cwb := KS.out _ BLcabd.out
  have cgl := KR.out _ BLcabd.out
  have fgl := FRZ.out _ BLcabd.out
  obtain ⟨hb6, hk6⟩ := FIN.out Ycabd (.slice qcabd (zs.length + 1) ccabd) (zs ++ [(t : Int)]) rfl BLcabd.out OWcabd.out
  have B6 := hid hb6
  have K6 := hid hk6
  have S6 := hid (show (Ycabd.setCell ⟨gL, n, none⟩ (.slice qcabd (zs.length + 1) ccabd)).cell? ⟨wb, 7, none⟩ = some (.slice (some ⟨gL, 0, none⟩) p.ready.length p.ready.length) by rw [range_cell hb6.r (k := 7) rfl, EL.out])
  clear hb6 hk6
  refine wpAnyF_ready (rs := [18]) (by kernel_rfl) (by simp) (AllReadyF.cons rfl (fun K hK => ?_) AllReadyF.nil)
  go_simp
  refine hK.out _ _ S6.out (notClean (by kernel_rfl)) (fun _ _ => ?_)
  clear hK K
  try simp only [Act.put]
  refine wpAnyF_done (by kernel_rfl) ?_ _
  generalize World.setCell _ _ _ = W6 at *
  go_wp2_with fail
  exact bodyPost_end (results_none rfl _ _ _) rfl ⟨rfl, _, by unfold wnP; exact B6.out, K6.out⟩
end Go.Proofs.YtakmaeohhclngaaGreatDoor.Wd
namespace Go.Proofs.YtakmaeohhclngaaGreatDoor.Wd
open Go.RowKit Go.Proofs.YtakmaeohhclngaaGreatDoor.Mem Go.Proofs.YtakmaeohhclngaaGreatDoor.Bw Go.Proofs.YtakmaeohhclngaaGreatDoor.Nums Go.Proofs.YtakmaeohhclngaaGreatDoor.Mmu
end Go.Proofs.YtakmaeohhclngaaGreatDoor.Wd
