/- The rest of GLv: what few laws reach. · The rest of GRf: what few laws reach. · The rest of ScA: what few laws reach. · Worlds in the making stay such: a copy of a key, clay, words of pages, entries, what a task has, a start. -/
import Derived.Test.YtkocmkaeaagbaaaGreatDoorQar
import Derived.Test.YtkocmkaeaagbaaaGreatDoorQas
import Derived.Test.YtkocmkaeaagbaaaGreatDoorQat
import Derived.Test.YtkocmkaeaagbaaaGreatDoorQau
namespace Go.Proofs.YtkocmkaeaagbaaaGreatDoor.Wd
open Go.RowKit Go.Proofs.YtkocmkaeaagbaaaGreatDoor.Mem Go.Proofs.YtkocmkaeaagbaaaGreatDoor.Bw Go.Proofs.YtkocmkaeaagbaaaGreatDoor.Nums Go.Proofs.YtkocmkaeaagbaaaGreatDoor.Mmu
section
variable {α : Type} {p : α → Bool} {l m : List α} {i j : Nat}
end
section
variable {α : Type} (f : α → α) (k : Nat) (l : List α)
end
/-- 'append' of one number onto a row of one's own. -/
theorem InT.push {w : World} {tag : Nat → Nat} {t : Nat} {u : Value} {zs : List Int} (h : InT w tag t 3 1 u (zs.length, ints zs)) (hl : zs.length ≤ 1000) {b : Nat} {x : Int} (hb : w.cell? ⟨b, 0, none⟩ = some (.int .i64 x)) (c : Nat) (ty : TypeId) :
  ∃ q cap w', (Builtin.append_ #[22, 22] ty #[u, .slice (some ⟨b, 0, none⟩) 1 c]).run Tryz.prog w = .ok (.slice q (zs.length + 1) cap) w' ∧ InT w' (tagN tag w.heap.size t) t 3 1 (.slice q (zs.length + 1) cap) ((zs ++ [x]).length, ints (zs ++ [x])) ∧ Kp (fun k => tag k = t) w w' := by
 obtain ⟨i, hi, hz, hs, hy⟩ := info_get infoI
 obtain ⟨v', w', hr, h2, h3, _, h5⟩ := run_append_own_at (P := Tryz.prog) w 0 22 ty 3 i (.int .i64 0) 1 8 Tryz.underlying22 hi hz hs hy rfl (by decide) u zs.length (ints zs) h.1 ⟨b, 0, none⟩ 1 c [.int .i64 x] rfl (fun j v hj => by
  match j, hj with
  | 0, hj => cases hj; exact hb
  | j + 1, hj => simp at hj) (int1 x) (by unfold maxLen; omega) (by omega) (Nat.zero_le _)
 obtain ⟨q, cap, rfl⟩ := own_form h2
 have e : ints zs ++ [Value.int .i64 x] = ints (zs ++ [x]) := by unfold ints; simp
 refine ⟨q, cap, w', hr, ⟨by rw [← e, List.length_append]; exact h2, fun k hk => ?_⟩, ⟨h3.os, h3.tape, h3.output, h3.size, fun k hk hn => h3.block k hk (fun e => hn (h.2 k e.symm))⟩⟩
 rcases h5 with h5 | h5
 ·rw [h5] at hk
  rw [tagN_lt (h.1.lt k hk).2]
  exact h.2 k hk
 ·rw [h5] at hk
  cases hk
  unfold tagN
  rw [if_neg (Nat.lt_irrefl _)]
/-- A task may run, behind all others of its core and priority (n). -/
def wkP (p : PW) (t n : Nat) : PW := { (lvP p t).task t 9 1 with ready := (lvs t p.ready).set n ((lvs t p.ready).getD n [] ++ [(t : Int)]) }
set_option maxRecDepth 100000 in
set_option maxHeartbeats 4000000 in
theorem wake_any (wb : Nat) (tag : Nat → Nat) (V : Nat → Value) (p : PW) (t n : Nat) (W : World) (bt : BoxT W wb tag V p) (hp : p.Fits) (ht : t < p.tasks.length) (hn : n < p.ready.length) (h18 : 0 ≤ p.tasks.getD t bl 18 ∧ p.tasks.getD t bl 18 ≤ 1000) (h10 : 0 ≤ p.tasks.getD t bl 10 ∧ p.tasks.getD t bl 10 ≤ 1000) (hcp : p.tasks.getD t bl 18 * 4 + p.tasks.getD t bl 10 = (n : Int)) :
  Calls Tryz.prog 181 #[.pointer (some ⟨wb, 0, none⟩), .int .i64 t] W fun r W' => r = .returned (.tuple #[]) ∧ ∃ tag', BoxT W' wb tag' V (wkP p t n) ∧ Kt tag tag' W W' := by
 have HLV := hid (leaveW_any wb tag V p t W bt hp ht)
 have HN1 := hid (hp.next)
 have hl7 : (p.ready.length : Int) ≤ 1000 := by have := hp.ready; omega
 have hl3 : (p.tasks.length : Int) ≤ 1000 := by have := hp.tasks; omega
 have ht2 : (t : Int) < (p.tasks.length : Int) := by omega
 have hn2 : (n : Int) < (p.ready.length : Int) := by omega
 have LT : (lvP p t).tasks.length = p.tasks.length := PW.task_len p t 14 (-1)
 have G18 := hid (show (((lvP p t).task t 9 1).tasks.getD t bl) 18 = p.tasks.getD t bl 18 by rw [task_getD _ t 9 18 1 (by rw [LT]; exact ht)]; exact task_getD p t 14 18 (-1) ht)
 have G10 := hid (show (((lvP p t).task t 9 1).tasks.getD t bl) 10 = p.tasks.getD t bl 10 by rw [task_getD _ t 9 10 1 (by rw [LT]; exact ht)]; exact task_getD p t 14 10 (-1) ht)
 generalize p.tasks.getD t bl 18 = cc at G18 h18 hcp
 generalize p.tasks.getD t bl 10 = pp at G10 h10 hcp
 obtain ⟨ha1, ha2⟩ := h18
 obtain ⟨hb1, hb2⟩ := h10
 have HLT := hid LT
 have HTT := hid ht
 clear bt hp LT
 go_enter Tryz.func181, Tryz.ntmps181
 go_wp2_with fail
 refine HLV.out.mono ?_
 rintro r w1 ⟨rfl, h1, h2⟩
 obtain ⟨g3, cap3, e3⟩ := h1.o.tasks.form (by rw [HLT.out]; omega)
 have c3 : w1.cell? ⟨wb, 3, none⟩ = some (.slice (some ⟨g3, 0, none⟩) p.tasks.length cap3) := by rw [range_cell h1.r (k := 3) rfl, e3, HLT.out]
 have x9 := h1.taskAt e3 (i := t) (by rw [HLT.out]; exact ht) (show 9 < 20 by omega)
 have f9 := h1.tasksFr e3 (t * 20 + 9)
 obtain ⟨b2, k2⟩ := h1.task e3 (i := t) (by rw [HLT.out]; exact ht) (show 9 < 20 by omega) 1
 have e4 : V 3 = .slice (some ⟨g3, 0, none⟩) ((lvP p t).task t 9 1).tasks.length cap3 := by rw [PW.task_len]; exact e3
 have y18 := b2.taskAt e4 (i := t) (by rw [PW.task_len, HLT.out]; exact ht) (show 18 < 20 by omega)
 have y10 := b2.taskAt e4 (i := t) (by rw [PW.task_len, HLT.out]; exact ht) (show 10 < 20 by omega)
 rw [G18.out] at y18
 rw [G10.out] at y10
 have B2 := hid b2
 have K2 := hid (h2.trans k2)
 clear h1 h2 b2 k2 e3 e4 HLV
 go_upto_region 3 with fail
 generalize World.setCell _ _ _ = W2 at *
 clear x9 f9 c3
 go_quiet (fail)
 have BS := hid (below_drewN (Below.refl W2.heap.size W2) nq)
 generalize World.drewN _ _ = W3 at BS ⊢
 have B3 := hid (B2.out.below BS.out)
 have K3 := hid (K2.out.trans (.below BS.out))
 clear y18 y10 B2 K2 BS
 go_wp2_with fail
 have HNS2 := hid (lvs_len (t : Int) p.ready)
 have HNL := hid (show n < (lvs (t : Int) p.ready).length by rw [HNS2.out]; exact hn)
 have HNL2 := hid hn
 have HZZ := hid (show ((lvs (t : Int) p.ready).getD n []).length ≤ 1000 by
  rw [List.getD_eq_getElem?_getD, List.getElem?_eq_getElem HNL.out, Option.getD_some]
  unfold lvs
  rw [List.getElem_map]
  exact Nat.le_trans (List.length_filter_le _ _) (HN1.out _ (List.getElem_mem hn)))
 obtain ⟨gL, eL⟩ := B3.out.o.ready.form
 have hLR := B3.out.o.ready
 rw [eL] at hLR
 obtain ⟨u, cu, hu⟩ := hLR.at (j := n) HNL.out
 obtain ⟨zs, hzs⟩ : ∃ zs, (lvs (t : Int) p.ready).getD n [] = zs := ⟨_, rfl⟩
 have hu2 : InT W3 tag (13 + 3 * n) 3 1 u (zs.length, ints zs) := by
  have h1 := hu
  unfold ci at h1
  rw [show PW.ready _ = lvs (t : Int) p.ready from rfl, hzs] at h1
  exact h1
 have HZL := hid (show zs.length ≤ 1000 from by rw [← hzs]; exact HZZ.out)
 have HZS := hid hzs
 have HU := hid hu2
 have HLR := hid hLR
 have EL := hid (show V 7 = .slice (some ⟨gL, 0, none⟩) p.ready.length p.ready.length by rw [eL]; exact congrArg (fun m => Value.slice (some ⟨gL, 0, none⟩) m m) HNS2.out)
 have FRZ := hid (fun X (h : Below W3.heap.size W3 X) => show X.frozen? ⟨gL, n, none⟩ = false from (hLR.kp (T := fun _ => False) (.of_below h) (fun _ _ => rfl) (fun _ _ e => e)).fr n)
 have KS := hid (fun X (h : Below W3.heap.size W3 X) => show X.cell? ⟨wb, 7, none⟩ = some (.slice (some ⟨gL, 0, none⟩) p.ready.length p.ready.length) by rw [range_cell (B3.out.below h).r (k := 7) rfl, EL.out])
 have KR := hid (fun X (h : Below W3.heap.size W3 X) => show X.cell? ⟨gL, n, none⟩ = some u from (h.cell (World.block_lt_of_cell? _ _ cu)).trans cu)
 have BD : Hid (Below W3.heap.size W3 W3.drew) := hid (below_drew W3 1)
 clear hu hu2 hzs hLR eL cu
 refine wp_region_F (S := fun X => X.cell? ⟨wb, 7, none⟩ = some (.slice (some ⟨gL, 0, none⟩) p.ready.length p.ready.length)) (R := fun X => X.cell? ⟨gL, n, none⟩ = some u) [16] (by kernel_rfl) (KS.out _ BD.out) (KR.out _ BD.out) (fun hS0 hR0 => ?_)
 have hS := hid hS0
 have hR := hid hR0
 clear hS0 hR0
 refine wpAnyF_take (i := 0) (v := .pointer (some ⟨wb, 0, none⟩)) rfl (by kernel_rfl) (by kernel_rfl) (by kernel_rfl) (by kernel_rfl) (fun _ _ _ h => h) (Or.inl ⟨by rfl, fun W h => by clear h; go_simp⟩) hS.out (fun _ => hR.out) ?_
 simp only [jj]
 refine wpAnyF_take (i := 1) (v := .pointer (some ⟨wb, 0, none⟩)) rfl (by kernel_rfl) (by kernel_rfl) (by kernel_rfl) (by kernel_rfl) (fun _ _ _ h => h) (Or.inl ⟨by rfl, fun W h => by clear h; go_simp⟩) hS.out (fun _ => hR.out) ?_
 simp only [jj]
 refine wpAnyF_take (i := 2) (v := .pointer (some ⟨wb, 7, none⟩)) rfl (by kernel_rfl) (by kernel_rfl) (by kernel_rfl) (by kernel_rfl) (fun _ _ _ h => h) (Or.inl ⟨by rfl, fun W h => by clear h; go_simp⟩) hS.out (fun _ => hR.out) ?_
 simp only [jj]
 refine wpAnyF_take (i := 3) (v := .slice (some ⟨gL, 0, none⟩) p.ready.length p.ready.length) rfl (by kernel_rfl) (by kernel_rfl) (by kernel_rfl) (by kernel_rfl) (fun _ _ _ h => h) (Or.inl ⟨by rfl, fun W h => by have h3 := h; clear h; go_simp⟩) hS.out (fun _ => hR.out) ?_
 simp only [jj]
 refine wpAnyF_take (i := 4) (v := .int .i64 n) rfl (by kernel_rfl) (by kernel_rfl) (by kernel_rfl) (by kernel_rfl) (fun _ _ _ h => h) (Or.inl ⟨by rfl, fun W h => by clear h; go_simp⟩) hS.out (fun _ => hR.out) ?_
 simp only [jj]
 refine wpAnyF_take (i := 5) (v := .pointer (some ⟨wb, 0, none⟩)) rfl (by kernel_rfl) (by kernel_rfl) (by kernel_rfl) (by kernel_rfl) (fun _ _ _ h => h) (Or.inl ⟨by rfl, fun W h => by clear h; go_simp⟩) hS.out (fun _ => hR.out) ?_
 simp only [jj]
 refine wpAnyF_take (i := 6) (v := .pointer (some ⟨wb, 0, none⟩)) rfl (by kernel_rfl) (by kernel_rfl) (by kernel_rfl) (by kernel_rfl) (fun _ _ _ h => h) (Or.inl ⟨by rfl, fun W h => by clear h; go_simp⟩) hS.out (fun _ => hR.out) ?_
 simp only [jj]
 refine wpAnyF_take (i := 7) (v := .pointer (some ⟨wb, 7, none⟩)) rfl (by kernel_rfl) (by kernel_rfl) (by kernel_rfl) (by kernel_rfl) (fun _ _ _ h => h) (Or.inl ⟨by rfl, fun W h => by clear h; go_simp⟩) hS.out (fun _ => hR.out) ?_
 simp only [jj]
 refine wpAnyF_take (i := 8) (v := .slice (some ⟨gL, 0, none⟩) p.ready.length p.ready.length) rfl (by kernel_rfl) (by kernel_rfl) (by kernel_rfl) (by kernel_rfl) (fun _ _ _ h => h) (Or.inl ⟨by rfl, fun W h => by have h3 := h; clear h; go_simp⟩) hS.out (fun _ => hR.out) ?_
 simp only [jj]
 refine wpAnyF_take (i := 9) (v := .int .i64 n) rfl (by kernel_rfl) (by kernel_rfl) (by kernel_rfl) (by kernel_rfl) (fun _ _ _ h => h) (Or.inl ⟨by rfl, fun W h => by clear h; go_simp⟩) hS.out (fun _ => hR.out) ?_
 simp only [jj]
 refine wpAnyF_take (i := 10) (v := .pointer (some ⟨gL, n, none⟩)) rfl (by kernel_rfl) (by kernel_rfl) (by kernel_rfl) (by kernel_rfl) (fun _ _ _ h => h) (Or.inl ⟨by rfl, fun W h => by clear h; go_simp⟩) hS.out (fun _ => hR.out) ?_
 simp only [jj]
 refine wpAnyF_takeR (i := 11) (v := u) rfl (by kernel_rfl) (by kernel_rfl) (by kernel_rfl) (by kernel_rfl) (by kernel_rfl) (by kernel_rfl) (fun _ _ _ h => h) (Or.inl ⟨by rfl, fun W h => by have h3 := h.2; clear h; go_simp⟩) hS.out (fun _ => hR.out) ?_
 simp only [jj]
 refine wpAnyF_take (i := 12) (v := .int .i64 t) rfl (by kernel_rfl) (by kernel_rfl) (by kernel_rfl) (by kernel_rfl) (fun _ _ _ h => h) (Or.inl ⟨by rfl, fun W h => by clear h; go_simp⟩) hS.out (fun _ => hR.out) ?_
 simp only [jj]
 have BN := hid (show Below W3.heap.size W3 (W3.alloc (.cells #[.int .i64 t] 3)).drew from (bal (Below.refl _ W3) (.cells #[.int .i64 t] 3)).drew)
 have CN := hid (show (W3.alloc (.cells #[.int .i64 t] 3)).drew.cell? ⟨W3.heap.size, 0, none⟩ = some (.int .i64 t) from cells_new W3 #[.int .i64 t] 3 0)
 refine wpAnyF_ready (rs := [13]) (by kernel_rfl) (by simp) (AllReadyF.cons rfl (fun K hK => ?_) AllReadyF.nil)
 go_simp
 refine hK.out _ _ (KS.out _ BN.out) (fun _ => KR.out _ BN.out) (fun _ _ => ?_)
 clear hK K
 try simp only [Act.put, jD, jE, jF]
 generalize World.drew (World.alloc _ _) = W4 at *
 have hS1 := hid (KS.out _ BN.out)
 have hR1 := hid (KR.out _ BN.out)
 obtain ⟨q, cap, w5, hrun, hin, hkp⟩ := InT.push (HU.out.kp (T := fun _ => False) (.of_below BN.out) (fun _ _ => rfl) (fun _ _ e => e)) HZL.out CN.out 1 22
 have HRUN := hid hrun
 have HIN := hid hin
 have HKP := hid hkp
 have B4 := hid (B3.out.below BN.out)
 have K4 := hid (K3.out.trans (.below BN.out))
 have cwb : w5.cell? ⟨wb, 7, none⟩ = some (.slice (some ⟨gL, 0, none⟩) p.ready.length p.ready.length) := (hkp.cell (p := ⟨wb, 7, none⟩) B4.out.lt (by show ¬ tag wb = _; rw [B4.out.g]; omega)).trans hS1.out
 have hgL : tag gL = 9 ∧ gL < W4.heap.size := (HLR.out.kp (T := fun _ => False) (.of_below BN.out) (fun _ _ => rfl) (fun _ _ e => e)).tag0
 have cgl : w5.cell? ⟨gL, n, none⟩ = some u := (hkp.cell (p := ⟨gL, n, none⟩) hgL.2 (by show ¬ tag gL = _; rw [hgL.1]; omega)).trans hR1.out
 have fgl : w5.frozen? ⟨gL, n, none⟩ = false := (hkp.frozen (p := ⟨gL, n, none⟩) hgL.2 (by show ¬ tag gL = _; rw [hgL.1]; omega)).trans (FRZ.out _ BN.out)
 have S5 := hid cwb
 have R5 := hid cgl
 clear hrun hin hkp hS hR
 refine wpAnyF_ready (rs := [14]) (by kernel_rfl) (by simp) (AllReadyF.cons rfl (fun K hK => ?_) AllReadyF.nil)
 refine wp_app1 _ _ 22 rfl u (.slice (some ⟨W3.heap.size, 0, none⟩) 1 1) (.slice q (zs.length + 1) cap) rfl rfl HRUN.out ?_
 refine hK.out _ _ S5.out (fun _ => R5.out) (fun _ _ => ?_)
 clear hK K
 simp only [jj]
 refine wpAnyF_take (i := 15) (v := .pointer (some ⟨gL, n, none⟩)) rfl (by kernel_rfl) (by kernel_rfl) (by kernel_rfl) (by kernel_rfl) (fun _ _ _ h => h) (Or.inl ⟨by rfl, fun W h => by clear h; go_simp⟩) S5.out (fun _ => R5.out) ?_
 simp only [jj]
 obtain ⟨hp1, hp2⟩ := (HLR.out.kp (T := fun _ => False) (.of_below BN.out) (fun _ _ => rfl) (fun _ _ e => e)).put (tag' := tagN tag W4.heap.size (13 + 3 * n)) (j := n) HNL.out (fun j => by omega) HKP.out (fun k hk => tagN_lt hk) HIN.out
 have B5 := hid (B4.out.ready hp2 (fun k hk => tagN_lt hk) (x := (lvs (t : Int) p.ready).set n ((lvs (t : Int) p.ready).getD n [] ++ [(t : Int)])) (by
  rw [List.length_set, HNS2.out, EL.out, ci_set _ _ (by rw [HNS2.out]; exact HNL2.out), HZS.out]
  rw [show PW.ready _ = lvs (t : Int) p.ready from rfl, HNS2.out] at hp1
  exact hp1))
 have K5 := hid (K4.out.trans (Kt.of (tag' := tagN tag W4.heap.size (13 + 3 * n)) hp2 (fun k e => by rcases e with e | ⟨j, e⟩ <;> omega) (fun k hk => tagN_lt hk)))
 have S6 := hid (show (w5.setCell ⟨gL, n, none⟩ (.slice q (zs.length + 1) cap)).cell? ⟨wb, 7, none⟩ = some (.slice (some ⟨gL, 0, none⟩) p.ready.length p.ready.length) by rw [range_cell B5.out.r (k := 7) rfl, EL.out])
 clear hp1 hp2
 refine wpAnyF_ready (rs := [16]) (by kernel_rfl) (by simp) (AllReadyF.cons rfl (fun K hK => ?_) AllReadyF.nil)
 go_simp
 refine hK.out _ _ S6.out (notClean (by kernel_rfl)) (fun _ _ => ?_)
 clear hK K
 try simp only [Act.put]
 refine wpAnyF_done (by kernel_rfl) ?_ _
 generalize World.setCell _ _ _ = W6 at *
 clear KS KR BD BN CN FRZ HLR HU hS1 hR1 S5 R5 S6 HRUN HIN HKP B4 K4 cwb cgl fgl
 go_wp2_with fail
 exact bodyPost_end (results_none rfl _ _ _) rfl ⟨rfl, _, by unfold wkP; exact B5.out, K5.out⟩
end Go.Proofs.YtkocmkaeaagbaaaGreatDoor.Wd
namespace Go.Proofs.YtkocmkaeaagbaaaGreatDoor.Wd
open Go.RowKit Go.Proofs.YtkocmkaeaagbaaaGreatDoor.Mem Go.Proofs.YtkocmkaeaagbaaaGreatDoor.Bw Go.Proofs.YtkocmkaeaagbaaaGreatDoor.Nums Go.Proofs.YtkocmkaeaagbaaaGreatDoor.Mmu
/-- A task may run, by the document. -/
def wnP (p : PW) (t n : Nat) : PW := { (p.task t 9 1).task t 14 (-1) with ready := p.ready.set n (p.ready.getD n [] ++ [(t : Int)]) }
end Go.Proofs.YtkocmkaeaagbaaaGreatDoor.Wd
namespace Go.Proofs.YtkocmkaeaagbaaaGreatDoor.Wd
open Go.RowKit Go.Proofs.YtkocmkaeaagbaaaGreatDoor.Mem Go.Proofs.YtkocmkaeaagbaaaGreatDoor.Bw Go.Proofs.YtkocmkaeaagbaaaGreatDoor.Nums Go.Proofs.YtkocmkaeaagbaaaGreatDoor.Mmu
theorem wk_wn (p : PW) (t n : Nat) (ht : t < p.tasks.length) (h4 : lvs t p.lines = p.lines) (h6 : p.cores.map (noT t) = p.cores) : wkP p t n = wnP { p with ready := lvs t p.ready } t n := by
 unfold wkP wnP lvP PW.task
 simp only
 rw [set_getD _ t _ _ ht, set_getD _ t _ _ ht, List.set_set, List.set_set, upd_comm _ 14 9 _ _ (by decide), h4, h6]
/-- Starting. -/
def srE (p : PW) (a : Int) : Int := if thE p a 6 = 0 then (if p.tasks.getD a.toNat bl 9 = 0 then 0 else 7) else thE p a 6
def srP (p : PW) (a : Int) : PW := wnP p a.toNat (rdN p a.toNat)
/-- A task that is still is nowhere. -/
theorem still_none {p : PW} (h : Snd p) {t : Nat} (ht : t < p.kinds.length) (hk : p.kinds[t] = 6) (h9 : p.tasks.getD t bl 9 = 0) : lvs t p.lines = p.lines ∧ lvs t p.ready = p.ready ∧ p.cores.map (noT t) = p.cores := by
 obtain ⟨_, _, _, hs, hr⟩ := snd_task h ht hk
 unfold srB at hs
 rw [h9, if_pos (by decide), Bool.and_eq_true] at hs
 unfold rrB at hr
 rw [h9, if_neg (by decide)] at hr
 have h1 : cna t p.lines = 0 := by have := hs.2; simpa using this
 have h2 : cn t p.cores + cna t p.ready = 0 := by
  have h3 := eq_of_beq hr
  omega
 exact ⟨lvs_self h1, lvs_self (by omega), noT_self (by omega)⟩
theorem start_eq {p : PW} (h : Snd p) {t : Nat} (ht : t < p.kinds.length) (hk : p.kinds[t] = 6) (h9 : p.tasks.getD t bl 9 = 0) (n : Nat) : wkP p t n = wnP p t n := by
 obtain ⟨h4, h7, h6⟩ := still_none h ht hk h9
 rw [wk_wn p t n (by rw [h.lf.tasks]; exact ht) h4 h6, h7]
end Go.Proofs.YtkocmkaeaagbaaaGreatDoor.Wd
namespace Go.Proofs.YtkocmkaeaagbaaaGreatDoor.Wd
open Go.RowKit Go.Proofs.YtkocmkaeaagbaaaGreatDoor.Mem Go.Proofs.YtkocmkaeaagbaaaGreatDoor.Bw Go.Proofs.YtkocmkaeaagbaaaGreatDoor.Nums Go.Proofs.YtkocmkaeaagbaaaGreatDoor.Mmu
theorem NewT.to {p q : PW} {f : Nat → Int} (h : NewT p f) (e1 : ∀ a k, isB p a k = true → k ≠ 0 → isB q a k = true) (e2 : q.cores.length = p.cores.length) : NewT q f := by
 have g : ∀ a k, isOrB p a k = true → k ≠ 0 → isOrB q a k = true := fun a k h hk => by
  unfold isOrB at h ⊢
  rw [Bool.or_eq_true] at h ⊢
  rcases h with h | h
  ·exact .inl h
  ·exact .inr (e1 a k h hk)
 exact ⟨h.z, h.s, h.pr, ⟨g _ _ h.fr.1 (by decide), g _ _ h.fr.2.1 (by decide), g _ _ h.fr.2.2 (by decide)⟩, h.v, by rw [e2]; exact h.c, h.d⟩
theorem isB_eq {p q : PW} (e : q.kinds = p.kinds) (a k : Int) : isB q a k = isB p a k := by unfold isB kindAt; rw [e]
theorem beB_eq {p q : PW} (e : q.kinds = p.kinds) (k x : Int) : beB q k x = beB p k x := by unfold beB; rw [isB_eq e, isB_eq e, isB_eq e]
theorem TasksOk.to {p q : PW} (h : TasksOk p) (e1 : q.kinds = p.kinds) (e2 : q.tasks = p.tasks) (e3 : q.lines = p.lines) (e4 : q.bits = p.bits) (e5 : q.cores = p.cores) (e6 : q.ready = p.ready) (e7 : q.tlbs = p.tlbs) : TasksOk q := by
 have k : ∀ n, q.k n = p.k n := fun n => by show q.kinds.getD n 0 = _; rw [e1]
 have t : ∀ n, q.t n = p.t n := fun n => by show q.tasks.getD n bl = _; rw [e2]
 refine ⟨fun n hn => ?_, fun n hn => ?_, by rw [e3]; exact h.ln, by rw [e4]; exact h.bt, by rw [e5]; exact h.co, by rw [e7]; exact h.tl, fun i z hz => ?_, fun n hn => ?_⟩
 ·rw [t]; rw [k] at hn; exact h.no n hn
 ·rw [t]; rw [k] at hn
  exact (h.yes n hn).to (fun a k h _ => by rw [isB_eq e1]; exact h) (by rw [e5])
 ·rw [e6] at hz
  obtain ⟨m, h1, h2, h3, h4⟩ := h.rd i z hz
  exact ⟨m, h1, by rw [k]; exact h2, by rw [t]; exact h3, by unfold rdN at h4 ⊢; rw [e2]; exact h4⟩
 ·rw [e6, t]; rw [k] at hn; exact h.rn n hn
theorem RamOk.to {p q : PW} (h : RamOk p) (e1 : q.kinds = p.kinds) (e2 : q.ram = p.ram) : RamOk q := by
 refine ⟨by rw [e2]; exact h.w, fun i hi => ?_⟩
 rw [e2] at hi
 have := h.e i hi
 rw [beB_eq e1, show q.k (i / 16) = p.k (i / 16) from by show q.kinds.getD _ 0 = _; rw [e1], e2]
 exact this
/-- Slots alone are others. -/
theorem Bt.keyed {p : PW} (h : Bt p) {S : List (Nat → Int)} (hl : S.length = p.slots.length) (hk : ∃ r, Keys { p with slots := S } r) (hr : (S.getD 0 eS) 0 ≠ 0) : Bt { p with slots := S } :=
 ⟨⟨h.lf.k1, h.lf.k2, h.lf.c1, h.lf.c2, h.lf.d1, h.lf.d2, h.lf.ram, hl.trans h.lf.slots, h.lf.tasks, h.lf.lines, h.lf.bits, h.lf.ready, h.lf.tlbs⟩, h.tm, h.ks, h.ds, hk, h.ram.to rfl rfl, h.tsk.to rfl rfl rfl rfl rfl rfl rfl, h.root.1, hr⟩
theorem nk_eS {p : PW} {i : Nat} (h : i < p.slots.length) : p.slots.getD i nkey = p.s i := by
 show _ = p.slots.getD i eS
 rw [List.getD_eq_getElem?_getD, List.getD_eq_getElem?_getD, List.getElem?_eq_getElem h]; rfl
theorem slotB_nat {p : PW} {a : Int} (h : slotB p a = true) : ∃ n : Nat, a = n ∧ n < p.slots.length := by
 have := of_decide_eq_true h
 exact ⟨a.toNat, by omega, by omega⟩
theorem has_s {p : PW} {a : Int} (h : hasE p a = 0) : ∃ n : Nat, a = n ∧ n < p.slots.length ∧ p.s n 0 ≠ 0 := by
 unfold hasE at h
 split at h
 ·rename_i h1
  obtain ⟨n, rfl, h2⟩ := slotB_nat h1
  rw [Int.toNat_natCast, nk_eS h2] at h
  split at h
  ·cases h
  ·exact ⟨n, rfl, h2, by assumption⟩
 ·cases h
theorem op_s {p : PW} {a : Int} (h : opE p a = 0) : ∃ n : Nat, a = n ∧ n < p.slots.length ∧ p.s n 0 = 0 ∧ p.k (n / 16) = 5 := by
 unfold opE at h
 split at h
 ·rename_i h1
  obtain ⟨n, rfl, h2⟩ := slotB_nat h1
  rw [Int.toNat_natCast, nk_eS h2] at h
  split at h
  ·split at h
   ·exact ⟨n, rfl, h2, by assumption, by assumption⟩
   ·cases h
  ·cases h
 ·cases h
/-- A copy of a key. -/
theorem Bt.copy {p : PW} {a b r g : Int} (h : Bt p) (he : cpE p a b r g = 0) : Bt (cpP p a b r g) := by
 by_cases ha : hasE p a = 0
 ·by_cases hb : opE p b = 0
  ·unfold cpE boE at he
   rw [if_pos ha, if_pos hb] at he
   obtain ⟨n, rfl, hn, hs⟩ := has_s ha
   obtain ⟨m, rfl, hm, hm0, hm5⟩ := op_s hb
   rw [Int.toNat_natCast, nk_eS hn] at he
   unfold cpP PW.slot
   rw [Int.toNat_natCast, Int.toNat_natCast, nk_eS hn]
   obtain ⟨rk, hk⟩ := h.keys
   have ks := hk.key n hs
   have ki := kc_in ks.c hs
   unfold lsE at he
   split at he
   ·cases he
   rename_i h1
   split at he
   ·cases he
   rename_i h2
   have h3 : (0 ≤ r ∧ r ≤ 7) ∧ (0 ≤ g ∧ g ≤ 65535) := by
    cases hx : (within 0 7 r && wB g) with
    | false => exact absurd hx h2
    | true =>
     rw [Bool.and_eq_true] at hx
     exact ⟨of_decide_eq_true hx.1, of_decide_eq_true hx.2⟩
   have an := and_in ki.r h3.1
   have h5 : (g = 0 ∨ (p.s n 0 = 7 ∨ p.s n 0 = 8) ∧ p.s n 5 = 0) := by
    split at he
    ·left; assumption
    ·split at he
     ·cases he
     ·right; omega
   generalize hf : cpS (lsK (p.s n) r g) n = f
   have f0 : f 0 = p.s n 0 := by rw [← hf]; rfl
   have f1 : f 1 = p.s n 1 := by rw [← hf]; rfl
   have f2 : f 2 = p.s n 2 := by rw [← hf]; rfl
   have f3 : f 3 = p.s n 3 := by rw [← hf]; rfl
   have f4 : f 4 = bits .and .i64 (p.s n 4) r := by rw [← hf]; rfl
   have f5 : f 5 = if g = 0 then p.s n 5 else g := by rw [← hf]; rfl
   have f6 : f 6 = n := by rw [← hf]; rfl
   have k1 : KIn f := ⟨by rw [f0]; exact ki.k, by rw [f1]; exact ki.b, by rw [f2]; exact ki.l, by rw [f1, f2]; exact ki.bl, by rw [f0, f2, f3]; exact ki.m, by rw [f0, f2, f3]; exact ki.o, by rw [f4]; exact an.2, by
    rw [f0, f5]
    have := ki.g
    split <;> omega⟩
   refine h.keyed (by rw [List.length_set]) (hk.add hm hm0 hm5 (by rw [f0]; exact hs) ⟨kc_of k1, by rw [f1, f2]; exact ks.le, by rw [f0, f1]; exact ks.is⟩ (.inr ⟨n, f6, hn, hs, ?_⟩) (fun e => absurd (f0 ▸ e) h1) (fun _ e => by omega)) ?_
   ·unfold cmB
    rw [if_neg h1, f0, f1, f4, an.1, f5]
    have : (p.s n 5 == 0 || (if g = 0 then p.s n 5 else g) == p.s n 5) = true := by
     rcases h5 with h5 | h5
     ·rw [if_pos h5]; simp
     ·rw [h5.2]; rfl
    rw [this]; simp
   ·rw [getD_set hm]
    split
    ·rw [f0]; exact hs
    ·exact h.root.2
  ·unfold cpE boE at he
   rw [if_pos ha, if_neg hb] at he
   exact absurd he hb
 ·unfold cpE boE at he
  rw [if_neg ha, if_neg ha] at he
  exact absurd he ha
/-- Clay. -/
theorem Bt.clay {p : PW} {s b n : Nat} (h : Bt p) (hs : s < p.slots.length) (h5 : p.k (s / 16) = 5) (h0 : p.s s 0 = 0) (hn : 1 ≤ n) (hb : b + n ≤ p.kinds.length) (hk : ∀ f, b ≤ f → f < b + n → p.k f = 0 ∧ ∀ i, clI (f : Int) (p.s i) = false) : Bt { p with slots := p.slots.set s (clk b n) } := by
 obtain ⟨rk, ks⟩ := h.keys
 have hl := h.lf.k2
 have f0 : clk b n 0 = 1 := rfl
 have f1 : clk b n 1 = b := rfl
 have f2 : clk b n 2 = n := rfl
 have f3 : clk b n 3 = 0 := rfl
 have f4 : clk b n 4 = 7 := rfl
 have f5 : clk b n 5 = 0 := rfl
 refine h.keyed (by rw [List.length_set]) (ks.add hs h0 h5 (by rw [f0]; decide) ⟨kc_of ⟨by rw [f0]; decide, by rw [f1]; omega, by rw [f2]; omega, by rw [f1, f2]; omega, fun _ => by rw [f2, f3]; omega, fun e => absurd f0 e, by rw [f4]; decide, .inr (by rw [f0, f5]; decide)⟩, by rw [f1, f2]; omega, .inl rfl⟩ (.inl rfl) (fun _ m hm => ?_) (fun e => absurd f0 e)) ?_
 ·obtain ⟨_, h1, h2⟩ := clI_iff.1 hm
  rw [f1] at h1 h2
  rw [f2] at h2
  exact hk m (by omega) (by omega)
 ·rw [getD_set hs]
  split
  ·rw [f0]; decide
  ·exact h.root.2
/-- A word. -/
theorem Bt.word {p : PW} {i : Nat} {v : Int} (h : Bt p) (hi : i < p.ram.length) (hv : 0 ≤ v ∧ v ≤ 65535) (he : beB p (p.k (i / 16)) v = false) : Bt { p with ram := p.ram.set i v } := by
 refine ⟨⟨h.lf.k1, h.lf.k2, h.lf.c1, h.lf.c2, h.lf.d1, h.lf.d2, (List.length_set ..).trans h.lf.ram, h.lf.slots, h.lf.tasks, h.lf.lines, h.lf.bits, h.lf.ready, h.lf.tlbs⟩, h.tm, h.ks, h.ds, ?_, ⟨fun x hx => ?_, fun j hj => ?_⟩, h.tsk.to rfl rfl rfl rfl rfl rfl rfl, h.root⟩
 ·obtain ⟨r, k⟩ := h.keys
  exact ⟨r, k.em, k.nd, fun i hi => let e := k.key i hi; ⟨e.c, e.le, e.is⟩, k.up, k.rk, k.one, k.op, k.us, k.gp⟩
 ·rcases List.mem_or_eq_of_mem_set hx with h1 | rfl
  ·exact h.ram.w x h1
  ·exact hv
 ·show beB p (p.k (j / 16)) ((p.ram.set i v).getD j 0) = false
  rw [getD_set hi]
  by_cases e : j = i
  ·subst e; rw [if_pos rfl]; exact he
  ·rw [if_neg e]
   have hj2 : j < p.ram.length := by have : j < (p.ram.set i v).length := hj; rwa [List.length_set] at this
   exact h.ram.e j hj2
/-- What a still task has. -/
theorem Bt.task {p : PW} {t : Nat} {f : Nat → Int} (h : Bt p) (h6 : p.k t = 6) (h0 : p.t t 9 = 0) (hf : NewT p f) (h9 : f 9 = 0) : Bt { p with tasks := p.tasks.set t f } := by
 have ht : t < p.tasks.length := by have := k_in (p := p) (f := t) (by omega); have := h.lf.tasks; omega
 have T : ∀ j, PW.t { p with tasks := p.tasks.set t f } j = if j = t then f else p.t j := fun j => getD_set ht f bl j
 refine ⟨⟨h.lf.k1, h.lf.k2, h.lf.c1, h.lf.c2, h.lf.d1, h.lf.d2, h.lf.ram, h.lf.slots, (List.length_set ..).trans h.lf.tasks, h.lf.lines, h.lf.bits, h.lf.ready, h.lf.tlbs⟩, h.tm, h.ks, h.ds, ?_, h.ram.to rfl rfl, ⟨fun n hn => ?_, fun n hn => ?_, h.tsk.ln, h.tsk.bt, h.tsk.co, h.tsk.tl, fun i z hz => ?_, fun n hn => ?_⟩, h.root⟩
 ·obtain ⟨r, k⟩ := h.keys
  exact ⟨r, k.em, k.nd, fun i hi => let e := k.key i hi; ⟨e.c, e.le, e.is⟩, k.up, k.rk, k.one, k.op, k.us, k.gp⟩
 ·rw [T, if_neg (fun e => by subst e; exact hn h6)]
  exact h.tsk.no n hn
 ·rw [T]
  split
  ·exact hf.to (fun _ _ h _ => h) rfl
  ·exact (h.tsk.yes n hn).to (fun _ _ h _ => h) rfl
 ·obtain ⟨m, h1, h2, h3, h4⟩ := h.tsk.rd i z hz
  have e : m ≠ t := fun e => by subst e; omega
  refine ⟨m, h1, h2, by rw [T, if_neg e]; exact h3, ?_⟩
  show ((PW.t { p with tasks := p.tasks.set t f } m) 18 * 4 + (PW.t { p with tasks := p.tasks.set t f } m) 10).toNat = i
  rw [T, if_neg e]
  exact h4
 ·rw [T]
  have := h.tsk.rn n hn
  split
  ·rename_i e
   subst e
   rw [h9]
   rw [h0] at this
   exact this
  ·exact this
theorem cn_app1 (x t : Int) (l : List Int) : cn x (l ++ [t]) = cn x l + if t = x then 1 else 0 := by
 unfold cn sumOf one
 rw [List.map_append, List.sum_append]
 simp
theorem cna_app {x t : Int} : ∀ {ls : List (List Int)} {n : Nat}, n < ls.length → cna x (ls.set n (ls.getD n [] ++ [t])) = cna x ls + if t = x then 1 else 0
 | [], _, h => by simp at h
 | l :: ls, 0, _ => by
  show cna x ((l ++ [t]) :: ls) = _
  unfold cna sumOf
  simp only [List.map_cons, List.sum_cons]
  rw [cn_app1]
  omega
 | l :: ls, n + 1, h => by
  have ih := cna_app (x := x) (t := t) (ls := ls) (n := n) (by simpa using h)
  show cna x (l :: ls.set n (ls.getD n [] ++ [t])) = _
  unfold cna sumOf at ih ⊢
  simp only [List.map_cons, List.sum_cons]
  rw [ih]
  omega
/-- A start. -/
theorem Bt.start {p : PW} {t : Nat} (h : Bt p) (h6 : p.k t = 6) (h0 : p.t t 9 = 0) : Bt (wnP p t (rdN p t)) := by
 have hk := k_in (p := p) (f := t) (by omega)
 have ht : t < p.tasks.length := by have := h.lf.tasks; omega
 have nt := h.tsk.yes t h6
 have hr : rdN p t < p.ready.length := by
  have := h.lf.ready
  have := nt.c
  have := nt.pr
  have e : rdN p t = (p.t t 18 * 4 + p.t t 10).toNat := rfl
  omega
 have hT : (wnP p t (rdN p t)).tasks = p.tasks.set t (upd (upd (p.t t) 9 1) 14 (-1)) := by
  unfold wnP PW.task
  show (p.tasks.set t (upd (p.tasks.getD t bl) 9 1)).set t (upd ((p.tasks.set t (upd (p.tasks.getD t bl) 9 1)).getD t bl) 14 (-1)) = _
  rw [List.set_set, getD_set ht, if_pos rfl]
 generalize hf : upd (upd (p.t t) 9 1) 14 (-1) = f at hT
 have f9 : f 9 = 1 := by rw [← hf]; rfl
 have fo : ∀ k, k ≠ 9 → f k = p.t t k := fun k hk => by
  rw [← hf]
  unfold upd
  by_cases e : k = 14
  ·rw [if_pos e, e]; exact nt.v.1.symm
  ·rw [if_neg e, if_neg hk]
 have e : wnP p t (rdN p t) = { p with tasks := p.tasks.set t f, ready := p.ready.set (rdN p t) (p.ready.getD (rdN p t) [] ++ [(t : Int)]) } := by
  rw [← hT]; rfl
 rw [e]
 have T : ∀ j, PW.t { p with tasks := p.tasks.set t f, ready := p.ready.set (rdN p t) (p.ready.getD (rdN p t) [] ++ [(t : Int)]) } j = if j = t then f else p.t j := fun j => getD_set ht f bl j
 have RN : ∀ j, rdN { p with tasks := p.tasks.set t f, ready := p.ready.set (rdN p t) (p.ready.getD (rdN p t) [] ++ [(t : Int)]) } j = rdN p j := fun j => by
  show ((PW.t { p with tasks := p.tasks.set t f, ready := p.ready.set (rdN p t) (p.ready.getD (rdN p t) [] ++ [(t : Int)]) } j) 18 * 4 + (PW.t { p with tasks := p.tasks.set t f, ready := p.ready.set (rdN p t) (p.ready.getD (rdN p t) [] ++ [(t : Int)]) } j) 10).toNat = (p.t j 18 * 4 + p.t j 10).toNat
  rw [T]
  split
  ·rename_i e
   rw [fo 18 (by decide), fo 10 (by decide), e]
  ·rfl
 refine ⟨⟨h.lf.k1, h.lf.k2, h.lf.c1, h.lf.c2, h.lf.d1, h.lf.d2, h.lf.ram, h.lf.slots, (List.length_set ..).trans h.lf.tasks, h.lf.lines, h.lf.bits, (List.length_set ..).trans h.lf.ready, h.lf.tlbs⟩, h.tm, h.ks, h.ds, ?_, h.ram.to rfl rfl, ⟨fun n hn => ?_, fun n hn => ?_, h.tsk.ln, h.tsk.bt, h.tsk.co, h.tsk.tl, fun i z hz => ?_, fun n hn => ?_⟩, h.root⟩
 ·obtain ⟨r, k⟩ := h.keys
  exact ⟨r, k.em, k.nd, fun i hi => let e := k.key i hi; ⟨e.c, e.le, e.is⟩, k.up, k.rk, k.one, k.op, k.us, k.gp⟩
 ·rw [T, if_neg (fun e => by subst e; exact hn h6)]
  exact h.tsk.no n hn
 ·rw [T]
  split
  ·refine NewT.to (p := p) ⟨fun k hk => ?_, .inr f9, ?_, ?_, ?_, ?_, ?_⟩ (fun _ _ h _ => h) rfl
   ·rw [fo k (by omega)]; exact nt.z k hk
   ·rw [fo 10 (by decide)]; exact nt.pr
   ·rw [fo 11 (by decide), fo 12 (by decide), fo 13 (by decide)]; exact nt.fr
   ·rw [fo 14 (by decide), fo 15 (by decide), fo 16 (by decide), fo 17 (by decide)]; exact nt.v
   ·rw [fo 18 (by decide)]; exact nt.c
   ·rw [fo 19 (by decide)]; exact nt.d
  ·exact (h.tsk.yes n hn).to (fun _ _ h _ => h) rfl
 ·skip
  have hz2 : z ∈ (p.ready.set (rdN p t) (p.ready.getD (rdN p t) [] ++ [(t : Int)])).getD i [] := hz
  rw [getD_set hr] at hz2
  have old : z ∈ p.ready.getD i [] → ∃ u : Nat, z = u ∧ p.k u = 6 ∧ (if u = t then f else p.t u) 9 = 1 ∧ rdN p u = i := fun hz => by
   obtain ⟨m, h1, h2, h3, h4⟩ := h.tsk.rd i z hz
   exact ⟨m, h1, h2, by rw [if_neg (fun e => by subst e; omega)]; exact h3, h4⟩
  have h3 : ∃ u : Nat, z = u ∧ p.k u = 6 ∧ (if u = t then f else p.t u) 9 = 1 ∧ rdN p u = i := by
   split at hz2
   ·rename_i e
    rcases List.mem_append.1 hz2 with h1 | h1
    ·exact old (by rw [e]; exact h1)
    ·exact ⟨t, List.mem_singleton.1 h1, h6, by rw [if_pos rfl]; exact f9, e.symm⟩
   ·exact old hz2
  obtain ⟨u, a1, a2, a3, a4⟩ := h3
  exact ⟨u, a1, a2, by rw [T]; exact a3, by rw [RN]; exact a4⟩
 ·rw [T]
  have h1 := h.tsk.rn n hn
  show cna n (p.ready.set (rdN p t) (p.ready.getD (rdN p t) [] ++ [(t : Int)])) = _
  rw [cna_app hr, h1]
  by_cases e : n = t
  ·subst e
   rw [if_pos rfl, if_pos rfl, f9, h0]; rfl
  ·have hne : ¬ ((t : Int) = (n : Int)) := by omega
   rw [if_neg hne, if_neg e, Nat.add_zero]
end Go.Proofs.YtkocmkaeaagbaaaGreatDoor.Wd
