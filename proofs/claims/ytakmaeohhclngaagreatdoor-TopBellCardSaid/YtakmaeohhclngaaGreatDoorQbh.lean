/- The rest of GLv: what few laws reach. · Numbers without one: keyholdref.without, walked. · A task is still, by the document: keyholdref.Stopped, walked. (Written by mk_stop.py.) · A task is still: deed.Stop, walked. (Written by mk_lvstop.py.) · A task may run, by the document: keyholdref.Woken, walked. (Written by mk_woken.py.) -/
import Derived.Test.YtakmaeohhclngaaGreatDoorQay
namespace Go.Proofs.YtakmaeohhclngaaGreatDoor.Wd
open Go.RowKit Go.Proofs.YtakmaeohhclngaaGreatDoor.Mem Go.Proofs.YtakmaeohhclngaaGreatDoor.Bw Go.Proofs.YtakmaeohhclngaaGreatDoor.Nums Go.Proofs.YtakmaeohhclngaaGreatDoor.Mmu
section
variable {α : Type} {p : α → Bool} {l m : List α} {i j : Nat}
end
section
variable {α : Type} (f : α → α) (k : Nat) (l : List α)
end
/-- 'append' of one number onto a row of one's own. -/
theorem InT.push {w : World} {tag : Nat → Nat} {t : Nat} {u : Value} {zs : List Int} (h : InT w tag t 3 1 u (zs.length, ints zs)) (hl : zs.length ≤ 1000) {b : Nat} {x : Int} (hb : w.cell? ⟨b, 0, none⟩ = some (.int .i64 x)) (c : Nat) (ty : TypeId) :
  ∃ q cap w', (Builtin.append_ #[22, 22] ty #[u, .slice (some ⟨b, 0, none⟩) 1 c]).run Tryz.prog w = .ok (.slice q (zs.length + 1) cap) w' ∧ InT w' (tagN tag w.heap.size t) t 3 1 (.slice q (zs.length + 1) cap) ((zs ++ [x]).length, ints (zs ++ [x])) ∧ Kp (fun k => tag k = t) w w' := by
 obtain ⟨i, hi, hz, hs, hy⟩ := info_get infoI
 obtain ⟨v', w', hr, h2, h3, _, h5⟩ := run_append_own_at (P := Tryz.prog) w 0 22 ty 3 i (.int .i64 0) 1 8 Tryz.underlying22 hi hz hs hy rfl (by decide) u zs.length (ints zs) h.1 ⟨b, 0, none⟩ 1 c [.int .i64 x] rfl (fun j v hj => by
  match j, hj with
  | 0, hj => cases hj; exact hb
  | j + 1, hj => simp at hj) (int1 x) (by unfold maxLen; omega) (by omega) (Nat.zero_le _)
 obtain ⟨q, cap, rfl⟩ := own_form h2
 have e : ints zs ++ [Value.int .i64 x] = ints (zs ++ [x]) := by unfold ints; simp
 refine ⟨q, cap, w', hr, ⟨by rw [← e, List.length_append]; exact h2, fun k hk => ?_⟩, ⟨h3.os, h3.tape, h3.output, h3.size, fun k hk hn => h3.block k hk (fun e => hn (h.2 k e.symm))⟩⟩
 rcases h5 with h5 | h5
 ·rw [h5] at hk
  rw [tagN_lt (h.1.lt k hk).2]
  exact h.2 k hk
 ·rw [h5] at hk
  cases hk
  unfold tagN
  rw [if_neg (Nat.lt_irrefl _)]
/-- A task may run, behind all others of its core and priority (n). -/
def wkP (p : PW) (t n : Nat) : PW := { (lvP p t).task t 9 1 with ready := (lvs t p.ready).set n ((lvs t p.ready).getD n [] ++ [(t : Int)]) }
set_option maxRecDepth 100000 in
set_option maxHeartbeats 4000000 in
theorem wake_any (wb : Nat) (tag : Nat → Nat) (V : Nat → Value) (p : PW) (t n : Nat) (W : World) (bt : BoxT W wb tag V p) (hp : p.Fits) (ht : t < p.tasks.length) (hn : n < p.ready.length) (h18 : 0 ≤ p.tasks.getD t bl 18 ∧ p.tasks.getD t bl 18 ≤ 1000) (h10 : 0 ≤ p.tasks.getD t bl 10 ∧ p.tasks.getD t bl 10 ≤ 1000) (hcp : p.tasks.getD t bl 18 * 4 + p.tasks.getD t bl 10 = (n : Int)) :
  Calls Tryz.prog 30 #[.pointer (some ⟨wb, 0, none⟩), .int .i64 t] W fun r W' => r = .returned (.tuple #[]) ∧ ∃ tag', BoxT W' wb tag' V (wkP p t n) ∧ Kt tag tag' W W' := by
 have HLV := hid (leaveW_any wb tag V p t W bt hp ht)
 have HN1 := hid (hp.next)
 have hl7 : (p.ready.length : Int) ≤ 1000 := by have := hp.ready; omega
 have hl3 : (p.tasks.length : Int) ≤ 1000 := by have := hp.tasks; omega
 have ht2 : (t : Int) < (p.tasks.length : Int) := by omega
 have hn2 : (n : Int) < (p.ready.length : Int) := by omega
 have LT : (lvP p t).tasks.length = p.tasks.length := PW.task_len p t 14 (-1)
 have G18 := hid (show (((lvP p t).task t 9 1).tasks.getD t bl) 18 = p.tasks.getD t bl 18 by rw [task_getD _ t 9 18 1 (by rw [LT]; exact ht)]; exact task_getD p t 14 18 (-1) ht)
 have G10 := hid (show (((lvP p t).task t 9 1).tasks.getD t bl) 10 = p.tasks.getD t bl 10 by rw [task_getD _ t 9 10 1 (by rw [LT]; exact ht)]; exact task_getD p t 14 10 (-1) ht)
 generalize p.tasks.getD t bl 18 = cc at G18 h18 hcp
 generalize p.tasks.getD t bl 10 = pp at G10 h10 hcp
 obtain ⟨ha1, ha2⟩ := h18
 obtain ⟨hb1, hb2⟩ := h10
 have HLT := hid LT
 have HTT := hid ht
 clear bt hp LT
 go_enter Tryz.func30, Tryz.ntmps30
 go_wp2_with fail
 refine HLV.out.mono ?_
 rintro r w1 ⟨rfl, h1, h2⟩
 obtain ⟨g3, cap3, e3⟩ := h1.o.tasks.form (by rw [HLT.out]; omega)
 have c3 : w1.cell? ⟨wb, 3, none⟩ = some (.slice (some ⟨g3, 0, none⟩) p.tasks.length cap3) := by rw [range_cell h1.r (k := 3) rfl, e3, HLT.out]
 have x9 := h1.taskAt e3 (i := t) (by rw [HLT.out]; exact ht) (show 9 < 20 by omega)
 have f9 := h1.tasksFr e3 (t * 20 + 9)
 obtain ⟨b2, k2⟩ := h1.task e3 (i := t) (by rw [HLT.out]; exact ht) (show 9 < 20 by omega) 1
 have e4 : V 3 = .slice (some ⟨g3, 0, none⟩) ((lvP p t).task t 9 1).tasks.length cap3 := by rw [PW.task_len]; exact e3
 have y18 := b2.taskAt e4 (i := t) (by rw [PW.task_len, HLT.out]; exact ht) (show 18 < 20 by omega)
 have y10 := b2.taskAt e4 (i := t) (by rw [PW.task_len, HLT.out]; exact ht) (show 10 < 20 by omega)
 rw [G18.out] at y18
 rw [G10.out] at y10
 have B2 := hid b2
 have K2 := hid (h2.trans k2)
 clear h1 h2 b2 k2 e3 e4 HLV
 go_upto_region 3 with fail
 generalize World.setCell _ _ _ = W2 at *
 clear x9 f9 c3
 go_quiet (fail)
 have BS := hid (below_drewN (Below.refl W2.heap.size W2) nq)
 generalize World.drewN _ _ = W3 at BS ⊢
 have B3 := hid (B2.out.below BS.out)
 have K3 := hid (K2.out.trans (.below BS.out))
 clear y18 y10 B2 K2 BS
 go_wp2_with fail
 have HNS2 := hid (lvs_len (t : Int) p.ready)
 have HNL := hid (show n < (lvs (t : Int) p.ready).length by rw [HNS2.out]; exact hn)
 have HNL2 := hid hn
 have HZZ := hid (show ((lvs (t : Int) p.ready).getD n []).length ≤ 1000 by
  rw [List.getD_eq_getElem?_getD, List.getElem?_eq_getElem HNL.out, Option.getD_some]
  unfold lvs
  rw [List.getElem_map]
  exact Nat.le_trans (List.length_filter_le _ _) (HN1.out _ (List.getElem_mem hn)))
 obtain ⟨gL, eL⟩ := B3.out.o.ready.form
 have hLR := B3.out.o.ready
 rw [eL] at hLR
 obtain ⟨u, cu, hu⟩ := hLR.at (j := n) HNL.out
 obtain ⟨zs, hzs⟩ : ∃ zs, (lvs (t : Int) p.ready).getD n [] = zs := ⟨_, rfl⟩
 have hu2 : InT W3 tag (13 + 3 * n) 3 1 u (zs.length, ints zs) := by
  have h1 := hu
  unfold ci at h1
  rw [show PW.ready _ = lvs (t : Int) p.ready from rfl, hzs] at h1
  exact h1
 have HZL := hid (show zs.length ≤ 1000 from by rw [← hzs]; exact HZZ.out)
 have HZS := hid hzs
 have HU := hid hu2
 have HLR := hid hLR
 have EL := hid (show V 7 = .slice (some ⟨gL, 0, none⟩) p.ready.length p.ready.length by rw [eL]; exact congrArg (fun m => Value.slice (some ⟨gL, 0, none⟩) m m) HNS2.out)
 have FRZ := hid (fun X (h : Below W3.heap.size W3 X) => show X.frozen? ⟨gL, n, none⟩ = false from (hLR.kp (T := fun _ => False) (.of_below h) (fun _ _ => rfl) (fun _ _ e => e)).fr n)
 have KS := hid (fun X (h : Below W3.heap.size W3 X) => show X.cell? ⟨wb, 7, none⟩ = some (.slice (some ⟨gL, 0, none⟩) p.ready.length p.ready.length) by rw [range_cell (B3.out.below h).r (k := 7) rfl, EL.out])
 have KR := hid (fun X (h : Below W3.heap.size W3 X) => show X.cell? ⟨gL, n, none⟩ = some u from (h.cell (World.block_lt_of_cell? _ _ cu)).trans cu)
 have BD : Hid (Below W3.heap.size W3 W3.drew) := hid (below_drew W3 1)
 clear hu hu2 hzs hLR eL cu
 refine wp_region_F (S := fun X => X.cell? ⟨wb, 7, none⟩ = some (.slice (some ⟨gL, 0, none⟩) p.ready.length p.ready.length)) (R := fun X => X.cell? ⟨gL, n, none⟩ = some u) [16] (by kernel_rfl) (KS.out _ BD.out) (KR.out _ BD.out) (fun hS0 hR0 => ?_)
 have hS := hid hS0
 have hR := hid hR0
 clear hS0 hR0
 refine wpAnyF_take (i := 0) (v := .pointer (some ⟨wb, 0, none⟩)) rfl (by kernel_rfl) (by kernel_rfl) (by kernel_rfl) (by kernel_rfl) (fun _ _ _ h => h) (Or.inl ⟨by rfl, fun W h => by clear h; go_simp⟩) hS.out (fun _ => hR.out) ?_
 simp only [jj]
 refine wpAnyF_take (i := 1) (v := .pointer (some ⟨wb, 0, none⟩)) rfl (by kernel_rfl) (by kernel_rfl) (by kernel_rfl) (by kernel_rfl) (fun _ _ _ h => h) (Or.inl ⟨by rfl, fun W h => by clear h; go_simp⟩) hS.out (fun _ => hR.out) ?_
 simp only [jj]
 refine wpAnyF_take (i := 2) (v := .pointer (some ⟨wb, 7, none⟩)) rfl (by kernel_rfl) (by kernel_rfl) (by kernel_rfl) (by kernel_rfl) (fun _ _ _ h => h) (Or.inl ⟨by rfl, fun W h => by clear h; go_simp⟩) hS.out (fun _ => hR.out) ?_
 simp only [jj]
 refine wpAnyF_take (i := 3) (v := .slice (some ⟨gL, 0, none⟩) p.ready.length p.ready.length) rfl (by kernel_rfl) (by kernel_rfl) (by kernel_rfl) (by kernel_rfl) (fun _ _ _ h => h) (Or.inl ⟨by rfl, fun W h => by have h3 := h; clear h; go_simp⟩) hS.out (fun _ => hR.out) ?_
 simp only [jj]
 refine wpAnyF_take (i := 4) (v := .int .i64 n) rfl (by kernel_rfl) (by kernel_rfl) (by kernel_rfl) (by kernel_rfl) (fun _ _ _ h => h) (Or.inl ⟨by rfl, fun W h => by clear h; go_simp⟩) hS.out (fun _ => hR.out) ?_
 simp only [jj]
 refine wpAnyF_take (i := 5) (v := .pointer (some ⟨wb, 0, none⟩)) rfl (by kernel_rfl) (by kernel_rfl) (by kernel_rfl) (by kernel_rfl) (fun _ _ _ h => h) (Or.inl ⟨by rfl, fun W h => by clear h; go_simp⟩) hS.out (fun _ => hR.out) ?_
 simp only [jj]
 refine wpAnyF_take (i := 6) (v := .pointer (some ⟨wb, 0, none⟩)) rfl (by kernel_rfl) (by kernel_rfl) (by kernel_rfl) (by kernel_rfl) (fun _ _ _ h => h) (Or.inl ⟨by rfl, fun W h => by clear h; go_simp⟩) hS.out (fun _ => hR.out) ?_
 simp only [jj]
 refine wpAnyF_take (i := 7) (v := .pointer (some ⟨wb, 7, none⟩)) rfl (by kernel_rfl) (by kernel_rfl) (by kernel_rfl) (by kernel_rfl) (fun _ _ _ h => h) (Or.inl ⟨by rfl, fun W h => by clear h; go_simp⟩) hS.out (fun _ => hR.out) ?_
 simp only [jj]
 refine wpAnyF_take (i := 8) (v := .slice (some ⟨gL, 0, none⟩) p.ready.length p.ready.length) rfl (by kernel_rfl) (by kernel_rfl) (by kernel_rfl) (by kernel_rfl) (fun _ _ _ h => h) (Or.inl ⟨by rfl, fun W h => by have h3 := h; clear h; go_simp⟩) hS.out (fun _ => hR.out) ?_
 simp only [jj]
 refine wpAnyF_take (i := 9) (v := .int .i64 n) rfl (by kernel_rfl) (by kernel_rfl) (by kernel_rfl) (by kernel_rfl) (fun _ _ _ h => h) (Or.inl ⟨by rfl, fun W h => by clear h; go_simp⟩) hS.out (fun _ => hR.out) ?_
 simp only [jj]
 refine wpAnyF_take (i := 10) (v := .pointer (some ⟨gL, n, none⟩)) rfl (by kernel_rfl) (by kernel_rfl) (by kernel_rfl) (by kernel_rfl) (fun _ _ _ h => h) (Or.inl ⟨by rfl, fun W h => by clear h; go_simp⟩) hS.out (fun _ => hR.out) ?_
 simp only [jj]
 refine wpAnyF_takeR (i := 11) (v := u) rfl (by kernel_rfl) (by kernel_rfl) (by kernel_rfl) (by kernel_rfl) (by kernel_rfl) (by kernel_rfl) (fun _ _ _ h => h) (Or.inl ⟨by rfl, fun W h => by have h3 := h.2; clear h; go_simp⟩) hS.out (fun _ => hR.out) ?_
 simp only [jj]
 refine wpAnyF_take (i := 12) (v := .int .i64 t) rfl (by kernel_rfl) (by kernel_rfl) (by kernel_rfl) (by kernel_rfl) (fun _ _ _ h => h) (Or.inl ⟨by rfl, fun W h => by clear h; go_simp⟩) hS.out (fun _ => hR.out) ?_
 simp only [jj]
 have BN := hid (show Below W3.heap.size W3 (W3.alloc (.cells #[.int .i64 t] 3)).drew from (bal (Below.refl _ W3) (.cells #[.int .i64 t] 3)).drew)
 have CN := hid (show (W3.alloc (.cells #[.int .i64 t] 3)).drew.cell? ⟨W3.heap.size, 0, none⟩ = some (.int .i64 t) from cells_new W3 #[.int .i64 t] 3 0)
 refine wpAnyF_ready (rs := [13]) (by kernel_rfl) (by simp) (AllReadyF.cons rfl (fun K hK => ?_) AllReadyF.nil)
 go_simp
 refine hK.out _ _ (KS.out _ BN.out) (fun _ => KR.out _ BN.out) (fun _ _ => ?_)
 clear hK K
 try simp only [Act.put, jD, jE, jF]
 generalize World.drew (World.alloc _ _) = W4 at *
 have hS1 := hid (KS.out _ BN.out)
 have hR1 := hid (KR.out _ BN.out)
 obtain ⟨q, cap, w5, hrun, hin, hkp⟩ := InT.push (HU.out.kp (T := fun _ => False) (.of_below BN.out) (fun _ _ => rfl) (fun _ _ e => e)) HZL.out CN.out 1 22
 have HRUN := hid hrun
 have HIN := hid hin
 have HKP := hid hkp
 have B4 := hid (B3.out.below BN.out)
 have K4 := hid (K3.out.trans (.below BN.out))
 have cwb : w5.cell? ⟨wb, 7, none⟩ = some (.slice (some ⟨gL, 0, none⟩) p.ready.length p.ready.length) := (hkp.cell (p := ⟨wb, 7, none⟩) B4.out.lt (by show ¬ tag wb = _; rw [B4.out.g]; omega)).trans hS1.out
 have hgL : tag gL = 9 ∧ gL < W4.heap.size := (HLR.out.kp (T := fun _ => False) (.of_below BN.out) (fun _ _ => rfl) (fun _ _ e => e)).tag0
 have cgl : w5.cell? ⟨gL, n, none⟩ = some u := (hkp.cell (p := ⟨gL, n, none⟩) hgL.2 (by show ¬ tag gL = _; rw [hgL.1]; omega)).trans hR1.out
 have fgl : w5.frozen? ⟨gL, n, none⟩ = false := (hkp.frozen (p := ⟨gL, n, none⟩) hgL.2 (by show ¬ tag gL = _; rw [hgL.1]; omega)).trans (FRZ.out _ BN.out)
 have S5 := hid cwb
 have R5 := hid cgl
 clear hrun hin hkp hS hR
 refine wpAnyF_ready (rs := [14]) (by kernel_rfl) (by simp) (AllReadyF.cons rfl (fun K hK => ?_) AllReadyF.nil)
 refine wp_app1 _ _ 22 rfl u (.slice (some ⟨W3.heap.size, 0, none⟩) 1 1) (.slice q (zs.length + 1) cap) rfl rfl HRUN.out ?_
 refine hK.out _ _ S5.out (fun _ => R5.out) (fun _ _ => ?_)
 clear hK K
 simp only [jj]
 refine wpAnyF_take (i := 15) (v := .pointer (some ⟨gL, n, none⟩)) rfl (by kernel_rfl) (by kernel_rfl) (by kernel_rfl) (by kernel_rfl) (fun _ _ _ h => h) (Or.inl ⟨by rfl, fun W h => by clear h; go_simp⟩) S5.out (fun _ => R5.out) ?_
 simp only [jj]
 obtain ⟨hp1, hp2⟩ := (HLR.out.kp (T := fun _ => False) (.of_below BN.out) (fun _ _ => rfl) (fun _ _ e => e)).put (tag' := tagN tag W4.heap.size (13 + 3 * n)) (j := n) HNL.out (fun j => by omega) HKP.out (fun k hk => tagN_lt hk) HIN.out
 have B5 := hid (B4.out.ready hp2 (fun k hk => tagN_lt hk) (x := (lvs (t : Int) p.ready).set n ((lvs (t : Int) p.ready).getD n [] ++ [(t : Int)])) (by
  rw [List.length_set, HNS2.out, EL.out, ci_set _ _ (by rw [HNS2.out]; exact HNL2.out), HZS.out]
  rw [show PW.ready _ = lvs (t : Int) p.ready from rfl, HNS2.out] at hp1
  exact hp1))
 have K5 := hid (K4.out.trans (Kt.of (tag' := tagN tag W4.heap.size (13 + 3 * n)) hp2 (fun k e => by rcases e with e | ⟨j, e⟩ <;> omega) (fun k hk => tagN_lt hk)))
 have S6 := hid (show (w5.setCell ⟨gL, n, none⟩ (.slice q (zs.length + 1) cap)).cell? ⟨wb, 7, none⟩ = some (.slice (some ⟨gL, 0, none⟩) p.ready.length p.ready.length) by rw [range_cell B5.out.r (k := 7) rfl, EL.out])
 clear hp1 hp2
 refine wpAnyF_ready (rs := [16]) (by kernel_rfl) (by simp) (AllReadyF.cons rfl (fun K hK => ?_) AllReadyF.nil)
 go_simp
 refine hK.out _ _ S6.out (notClean (by kernel_rfl)) (fun _ _ => ?_)
 clear hK K
 try simp only [Act.put]
 refine wpAnyF_done (by kernel_rfl) ?_ _
 generalize World.setCell _ _ _ = W6 at *
 clear KS KR BD BN CN FRZ HLR HU hS1 hR1 S5 R5 S6 HRUN HIN HKP B4 K4 cwb cgl fgl
 go_wp2_with fail
 exact bodyPost_end (results_none rfl _ _ _) rfl ⟨rfl, _, by unfold wkP; exact B5.out, K5.out⟩
end Go.Proofs.YtakmaeohhclngaaGreatDoor.Wd
namespace Go.Proofs.YtakmaeohhclngaaGreatDoor.Wd
open Go.RowKit Go.Proofs.YtakmaeohhclngaaGreatDoor.Mem Go.Proofs.YtakmaeohhclngaaGreatDoor.Bw Go.Proofs.YtakmaeohhclngaaGreatDoor.Nums Go.Proofs.YtakmaeohhclngaaGreatDoor.Mmu
theorem set_getD {α : Type} (l : List α) (t : Nat) (d x : α) (ht : t < l.length) : (l.set t x).getD t d = x := by
 rw [List.getD_eq_getElem?_getD, List.getElem?_set_self ht]
 rfl
theorem upd_comm (f : Nat → Int) (i j : Nat) (x y : Int) (h : i ≠ j) : upd (upd f i x) j y = upd (upd f j y) i x := by
 funext k
 unfold upd
 by_cases h1 : k = j
 ·rw [if_pos h1, if_neg (fun e => h (e.symm.trans h1)), if_pos h1]
 ·rw [if_neg h1]
  by_cases h2 : k = i
  ·rw [if_pos h2, if_pos h2]
  ·rw [if_neg h2, if_neg h2, if_neg h1]
end Go.Proofs.YtakmaeohhclngaaGreatDoor.Wd
