/- The rest of GRf: what few laws reach. -/
import Derived.Test.YtoebmjgkfkfhjaaGreatDoorGRf
namespace Go.Proofs.YtoebmjgkfkfhjaaGreatDoor.Wd
open Go.RowKit Go.Proofs.YtoebmjgkfkfhjaaGreatDoor.Mem Go.Proofs.YtoebmjgkfkfhjaaGreatDoor.Bw Go.Proofs.YtoebmjgkfkfhjaaGreatDoor.Nums Go.Proofs.YtoebmjgkfkfhjaaGreatDoor.Mmu
theorem goneP_snoc (t x : Int) (l : List Int) : goneP (fun x => x == t) (l ++ [x]) = goneP (fun x => x == t) l ++ (if x = t then [] else [x]) := by
 unfold goneP
 rw [List.filter_append]
 congr 1
 by_cases h : x = t
 ·rw [if_pos h, List.filter_cons_of_neg (by simp [h])]
  rfl
 ·rw [if_neg h, List.filter_cons_of_pos (by simp [h])]
  rfl
set_option maxRecDepth 100000 in
set_option maxHeartbeats 4000000 in
theorem without_ref (v : Value) (l : List Int) (t : Int) (w : World) (hv : IntsIn w v l) (hl : l.length ≤ 1000) :
  Calls Tryz.prog 115 #[v, .int .i64 t] w fun r w' => ∃ u, r = .returned u ∧ w'.ownsRow w.heap.size 3 1 u (goneP (fun x => x == t) l).length (ints (goneP (fun x => x == t) l)) ∧ Below w.heap.size w w' := by
 obtain ⟨q, b, off, cap, rfl, hq, hz⟩ := hv
 have HQ := hid hq
 have HZ := hid hz
 have hl2 : (l.length : Int) ≤ 1000 := by omega
 clear hq hz
 go_enter Tryz.func115, Tryz.ntmps115
 go_wp2_with fail
 go_loopw [5, 6] (fun u i wr => ∃ (k : Nat) (qu : Option Addr) (cu : Nat), k ≤ l.length ∧ i = .int .i64 k ∧ u = .slice qu (goneP (fun x => x == t) (l.take k)).length cu ∧ Hid (wr.ownsRow w.heap.size 3 1 (.slice qu (goneP (fun x => x == t) (l.take k)).length cu) (goneP (fun x => x == t) (l.take k)).length (ints (goneP (fun x => x == t) (l.take k)))) ∧ Hid (Below w.heap.size w wr)) (fun _ i _ => l.length - (intOf i).toNat)
 case atStart => exact ⟨0, none, 0, by omega, rfl, rfl, hid (World.ownsRow_nil _ _ _ _), hid (Below.refl _ _)⟩
 case round =>
  obtain ⟨k, qu, cu, hk, rfl, rfl, HO, HB⟩ := hrel
  by_cases hlt : k < l.length
  ·have hlt2 : (k : Int) < (l.length : Int) := by omega
   have hqe := HQ.out (by omega)
   subst hqe
   have ck0 := HZ.out k hlt
   have ck := (HB.out.cell (World.block_lt_of_cell? _ _ ck0)).trans ck0
   have HTK := hid (show l.take (k + 1) = l.take k ++ [l[k]] from List.take_succ_eq_append_getElem hlt)
   have HLN := hid (show (goneP (fun x => x == t) (l.take k)).length ≤ 1000 from Nat.le_trans (List.length_filter_le _ _) (by rw [List.length_take]; omega))
   obtain ⟨y, hy⟩ : ∃ y, l[k] = y := ⟨_, rfl⟩
   rw [hy] at ck HTK
   have HSN := hid (goneP_snoc t y (l.take k))
   rw [← HTK.out] at HSN
   clear ck0 hy
   generalize goneP (fun x => x == t) (l.take k) = zs at HO HLN HSN ⊢
   by_cases hyt : y = t
   ·rw [if_pos hyt, List.append_nil] at HSN
    have hyb : (y != t) = false := by simpa using hyt
    clear hyt
    go_wp2_with fail
    refine ⟨⟨k + 1, qu, cu, by omega, by go_num, by rw [HSN.out], hid (by rw [HSN.out]; exact HO.out), HB⟩, by simp [intOf]; omega⟩
   ·rw [if_neg hyt] at HSN
    have hyb : (y != t) = true := by simpa using hyt
    have BN := hid (bal (Below.refl wr.heap.size wr) (.cells #[.int .i64 y] 3))
    have CN := hid (show (wr.alloc (.cells #[.int .i64 y] 3)).cell? ⟨wr.heap.size, 0, none⟩ = some (.int .i64 y) from cells_new wr #[.int .i64 y] 3 0)
    obtain ⟨i0, hi, hz0, hs0, hy0⟩ := info_get infoI
    obtain ⟨v', w', hr, h2, h3, _⟩ := run_append_own (P := Tryz.prog) (wr.alloc (.cells #[.int .i64 y] 3)) w.heap.size 22 22 3 i0 (.int .i64 0) 1 8 Tryz.underlying22 hi hz0 hs0 hy0 rfl (by decide) _ _ _ (own_below HO.out BN.out) ⟨wr.heap.size, 0, none⟩ 1 1 [.int .i64 y] rfl (fun j v hj => by
     match j, hj with
     | 0, hj => cases hj; exact CN.out
     | j + 1, hj => simp at hj) (int1 y) (by have := HLN.out; unfold maxLen; omega) (by have := HLN.out; omega) (Nat.le_trans HB.out.size BN.out.size)
    obtain ⟨q', c', rfl⟩ := own_form h2
    have HR := hid hr
    have HN := hid (show w'.ownsRow w.heap.size 3 1 (.slice q' (zs.length + 1) c') (zs ++ [y]).length (ints (zs ++ [y])) by
     rw [List.length_append, show ints (zs ++ [y]) = ints zs ++ [.int .i64 y] by unfold ints; simp]
     exact h2)
    have HBB := hid (show Below w.heap.size w w' from (btr HB.out BN.out).grown h3 (Nat.le_trans HB.out.size BN.out.size) (fun j hj => (HO.out.lt j hj).1))
    clear hyt hr h2 h3 hi hz0 hs0 hy0 BN CN
    go_wp2_with (first | (at_builtin; refine wpList_app rfl _ _ 22 rfl (.slice qu zs.length cu) (.slice (some ⟨wr.heap.size, 0, none⟩) 1 1) (.slice q' (zs.length + 1) c') rfl rfl HR.out ?_))
    exact ⟨⟨k + 1, q', c', by omega, by go_num, by rw [HSN.out, List.length_append]; rfl, hid (by rw [HSN.out]; have := HN.out; rw [List.length_append] at this ⊢; exact this), HBB⟩, by simp [intOf]; omega⟩
  ·obtain rfl : k = l.length := by omega
   have hge : ¬ ((l.length : Int) < (l.length : Int)) := by omega
   rw [List.take_length] at HO
   rw [List.take_length]
   go_wp2_with fail
   go_ret
   exact ⟨_, rfl, HO.out, HB.out⟩
/-- Whom a task owes, if not t. -/
def nOw (t : Int) (f : Nat → Int) : Nat → Int := if f 17 = t then upd f 17 (-1) else f
def stP (p : PW) (t : Nat) : PW := ({ p with lines := lvs t p.lines, ready := lvs t p.ready, cores := p.cores.map (noT t), tasks := p.tasks.map (nOw t) } : PW).task t 9 0 |>.task t 14 (-1)
set_option maxRecDepth 100000 in
set_option maxHeartbeats 8000000 in
theorem stopped_ref (wb : Nat) (tag : Nat → Nat) (V : Nat → Value) (p : PW) (t : Nat) (W : World) (bt : BoxT W wb tag V p) (hp : p.Fits) (ht : t < p.tasks.length) :
  Calls Tryz.prog 67 #[.pointer (some ⟨wb, 0, none⟩), .int .i64 t] W fun r W' => r = .returned (.tuple #[]) ∧ ∃ tag', BoxT W' wb tag' V (stP p t) ∧ Kt tag tag' W W' := by
 have hl4 : (p.lines.length : Int) ≤ 1000 := by have := hp.lines; omega
 have hl7 : (p.ready.length : Int) ≤ 1000 := by have := hp.ready; omega
 have hl6 : (p.cores.length : Int) ≤ 1000 := by have := hp.cores; omega
 have hl3 : (p.tasks.length : Int) ≤ 1000 := by have := hp.tasks; omega
 have HLL := hid hp.line
 have HL7 := hid hp.next
 have B0 := hid bt
 have ht2 : (t : Int) < (p.tasks.length : Int) := by omega
 obtain ⟨q6, g6, cap6, e6, hq6⟩ := bt.o.cores.shape
 obtain ⟨g3, cap3, e3⟩ := bt.o.tasks.form (by omega)
 have E6 := hid e6
 have HQ := hid hq6
 have E3 := hid e3
 have HTT := hid ht
 clear bt hp e6 hq6 e3 ht
 go_enter Tryz.func67, Tryz.ntmps67
 go_wp2_with fail
 go_loopw [4] (fun i wr => ∃ (k : Nat) (tg : Nat → Nat), k ≤ p.lines.length ∧ i = .int .i64 k ∧ Hid (BoxT wr wb tg V { p with lines := mapK (goneP fun x => x == (t : Int)) k p.lines }) ∧ Hid (Kt tag tg W wr)) (fun i _ => p.lines.length - (intOf i).toNat)
 case atStart => exact ⟨0, tag, by omega, rfl, hid (by rw [mapK_zero]; exact B0.out), hid (Kt.refl _ _)⟩
 case round =>
  obtain ⟨k, tg, hk, rfl, HT, HK⟩ := hrel
  obtain ⟨gL, eL⟩ := HT.out.o.lines.form
  have EL := hid (show V 4 = .slice (some ⟨gL, 0, none⟩) p.lines.length p.lines.length from eL.trans (congrArg (fun m => Value.slice (some ⟨gL, 0, none⟩) m m) (mapK_len _ _ _)))
  have HLR := hid (show ListT wr tg 6 12 22 3 1 p.lines.length (.slice (some ⟨gL, 0, none⟩) p.lines.length p.lines.length) (ci (mapK (goneP fun x => x == (t : Int)) k p.lines)) by
   have h1 := HT.out.o.lines
   simp only at h1
   rw [mapK_len, EL.out] at h1
   exact h1)
  have cl : wr.cell? ⟨wb, 4, none⟩ = some (.slice (some ⟨gL, 0, none⟩) p.lines.length p.lines.length) := by rw [range_cell HT.out.r (k := 4) rfl, EL.out]
  clear eL
  by_cases hlt : k < p.lines.length
  ·have hlt2 : (k : Int) < (p.lines.length : Int) := by omega
   go_wp2_with fail
   clear cl
   obtain ⟨u, cu, hu⟩ := HLR.out.at (j := k) hlt
   have HCI := hid (show ci (mapK (goneP fun x => x == (t : Int)) k p.lines) k = (p.lines[k].length, ints p.lines[k]) by
    have hkl : k < (mapK (goneP fun x => x == (t : Int)) k p.lines).length := by rw [mapK_len]; exact hlt
    unfold ci
    rw [List.getD_eq_getElem?_getD, List.getElem?_eq_getElem hkl, Option.getD_some, mapK_at _ _ _ hlt hkl])
   rw [HCI.out] at hu
   have HU := hid (own_ints hu.1)
   have HZL := hid (HLL.out _ (List.getElem_mem hlt))
   have FRZ := hid (fun X (h : Below wr.heap.size wr X) => show X.frozen? ⟨gL, k, none⟩ = false from (HLR.out.kp (T := fun _ => False) (.of_below h) (fun _ _ => rfl) (fun _ _ e => e)).fr k)
   have KS := hid (fun X (h : Below wr.heap.size wr X) => show X.cell? ⟨wb, 4, none⟩ = some (.slice (some ⟨gL, 0, none⟩) p.lines.length p.lines.length) by rw [range_cell (HT.out.below h).r (k := 4) rfl, EL.out])
   have KR := hid (fun X (h : Below wr.heap.size wr X) => show X.cell? ⟨gL, k, none⟩ = some u from (h.cell (World.block_lt_of_cell? _ _ cu)).trans cu)
   have BD : Hid (Below wr.heap.size wr wr.drew) := hid (below_drew wr 1)
   have FIN := hid (fun X v (h : Below wr.heap.size wr X) (ho : X.ownsRow wr.heap.size 3 1 v ((goneP fun x => x == (t : Int)) p.lines[k]).length (ints ((goneP fun x => x == (t : Int)) p.lines[k]))) => show BoxT (X.setCell ⟨gL, k, none⟩ v) wb (tagN tg wr.heap.size (12 + 3 * k)) V { p with lines := mapK (goneP fun x => x == (t : Int)) (k + 1) p.lines } ∧ Kt tag (tagN tg wr.heap.size (12 + 3 * k)) W (X.setCell ⟨gL, k, none⟩ v) from by
    obtain ⟨hp1, hp2⟩ := HLR.out.put (tag' := tagN tg wr.heap.size (12 + 3 * k)) (w1 := X) (u := v) (c := (((goneP fun x => x == (t : Int)) p.lines[k]).length, ints ((goneP fun x => x == (t : Int)) p.lines[k]))) (j := k) hlt (fun j => by omega) (.of_below h) (fun k hk => tagN_lt hk) ⟨ho.mono (Nat.zero_le _), fun j e => by
     unfold tagN
     rw [if_neg (by have := (ho.lt j e).1; omega)]⟩
    refine ⟨HT.out.lines hp2 (fun k hk => tagN_lt hk) ?_, HK.out.trans (Kt.of (tag' := tagN tg wr.heap.size (12 + 3 * k)) hp2 (fun k e => by rcases e with e | ⟨j, e⟩ <;> omega) (fun k hk => tagN_lt hk))⟩
    rw [mapK_len, EL.out, mapK_succ _ _ _ hlt, ci_set _ _ (by rw [mapK_len]; exact hlt)]
    exact hp1)
   clear hu cu HCI
   refine wp_region_F (S := fun X => X.cell? ⟨wb, 4, none⟩ = some (.slice (some ⟨gL, 0, none⟩) p.lines.length p.lines.length)) (R := fun X => X.cell? ⟨gL, k, none⟩ = some u) [15] (by kernel_rfl) (KS.out _ BD.out) (KR.out _ BD.out) (fun hS0 hR0 => ?_)
   have hS := hid hS0
   have hR := hid hR0
   clear hS0 hR0
   refine wpAnyF_take (i := 0) (v := .pointer (some ⟨wb, 0, none⟩)) rfl (by kernel_rfl) (by kernel_rfl) (by kernel_rfl) (by kernel_rfl) (fun _ _ _ h => h) (Or.inl ⟨by rfl, fun W h => by clear h; go_simp⟩) hS.out (fun _ => hR.out) ?_
   simp only [jj]
   refine wpAnyF_take (i := 1) (v := .pointer (some ⟨wb, 0, none⟩)) rfl (by kernel_rfl) (by kernel_rfl) (by kernel_rfl) (by kernel_rfl) (fun _ _ _ h => h) (Or.inl ⟨by rfl, fun W h => by clear h; go_simp⟩) hS.out (fun _ => hR.out) ?_
   simp only [jj]
   refine wpAnyF_take (i := 2) (v := .pointer (some ⟨wb, 4, none⟩)) rfl (by kernel_rfl) (by kernel_rfl) (by kernel_rfl) (by kernel_rfl) (fun _ _ _ h => h) (Or.inl ⟨by rfl, fun W h => by clear h; go_simp⟩) hS.out (fun _ => hR.out) ?_
   simp only [jj]
   refine wpAnyF_take (i := 3) (v := .slice (some ⟨gL, 0, none⟩) p.lines.length p.lines.length) rfl (by kernel_rfl) (by kernel_rfl) (by kernel_rfl) (by kernel_rfl) (fun _ _ _ h => h) (Or.inl ⟨by rfl, fun W h => by have h3 := h; clear h; go_simp⟩) hS.out (fun _ => hR.out) ?_
   simp only [jj]
   refine wpAnyF_take (i := 4) (v := .int .i64 k) rfl (by kernel_rfl) (by kernel_rfl) (by kernel_rfl) (by kernel_rfl) (fun _ _ _ h => h) (Or.inl ⟨by rfl, fun W h => by clear h; go_simp⟩) hS.out (fun _ => hR.out) ?_
   simp only [jj]
   refine wpAnyF_take (i := 5) (v := .pointer (some ⟨wb, 0, none⟩)) rfl (by kernel_rfl) (by kernel_rfl) (by kernel_rfl) (by kernel_rfl) (fun _ _ _ h => h) (Or.inl ⟨by rfl, fun W h => by clear h; go_simp⟩) hS.out (fun _ => hR.out) ?_
   simp only [jj]
   refine wpAnyF_take (i := 6) (v := .pointer (some ⟨wb, 0, none⟩)) rfl (by kernel_rfl) (by kernel_rfl) (by kernel_rfl) (by kernel_rfl) (fun _ _ _ h => h) (Or.inl ⟨by rfl, fun W h => by clear h; go_simp⟩) hS.out (fun _ => hR.out) ?_
   simp only [jj]
   refine wpAnyF_take (i := 7) (v := .pointer (some ⟨wb, 4, none⟩)) rfl (by kernel_rfl) (by kernel_rfl) (by kernel_rfl) (by kernel_rfl) (fun _ _ _ h => h) (Or.inl ⟨by rfl, fun W h => by clear h; go_simp⟩) hS.out (fun _ => hR.out) ?_
   simp only [jj]
   refine wpAnyF_take (i := 8) (v := .slice (some ⟨gL, 0, none⟩) p.lines.length p.lines.length) rfl (by kernel_rfl) (by kernel_rfl) (by kernel_rfl) (by kernel_rfl) (fun _ _ _ h => h) (Or.inl ⟨by rfl, fun W h => by have h3 := h; clear h; go_simp⟩) hS.out (fun _ => hR.out) ?_
   simp only [jj]
   refine wpAnyF_take (i := 9) (v := .int .i64 k) rfl (by kernel_rfl) (by kernel_rfl) (by kernel_rfl) (by kernel_rfl) (fun _ _ _ h => h) (Or.inl ⟨by rfl, fun W h => by clear h; go_simp⟩) hS.out (fun _ => hR.out) ?_
   simp only [jj]
   refine wpAnyF_take (i := 10) (v := .pointer (some ⟨gL, k, none⟩)) rfl (by kernel_rfl) (by kernel_rfl) (by kernel_rfl) (by kernel_rfl) (fun _ _ _ h => h) (Or.inl ⟨by rfl, fun W h => by clear h; go_simp⟩) hS.out (fun _ => hR.out) ?_
   simp only [jj]
   refine wpAnyF_takeR (i := 11) (v := u) rfl (by kernel_rfl) (by kernel_rfl) (by kernel_rfl) (by kernel_rfl) (by kernel_rfl) (by kernel_rfl) (fun _ _ _ h => h) (Or.inl ⟨by rfl, fun W h => by have h3 := h.2; clear h; go_simp⟩) hS.out (fun _ => hR.out) ?_
   simp only [jj]
   refine wpAnyF_take (i := 12) (v := .int .i64 t) rfl (by kernel_rfl) (by kernel_rfl) (by kernel_rfl) (by kernel_rfl) (fun _ _ _ h => h) (Or.inl ⟨by rfl, fun W h => by clear h; go_simp⟩) hS.out (fun _ => hR.out) ?_
   simp only [jj]
   refine wpAnyF_ready (rs := [13]) (by kernel_rfl) (by simp) (AllReadyF.cons rfl (fun K hK => ?_) AllReadyF.nil)
   go_simp
   refine (without_ref u p.lines[k] t _ (HU.out.below BD.out) HZL.out).mono ?_
   rintro r w1 ⟨v, rfl, ho, hb⟩
   obtain ⟨qv, cv, rfl⟩ := own_form ho
   have A1 := hid (btr BD.out hb)
   have HO := hid ho
   clear ho hb
   go_wp2_with fail
   refine hK.out _ _ (KS.out _ A1.out) (fun _ => KR.out _ A1.out) (fun _ _ => ?_)
   clear hK K
   try simp only [Act.put, jD, jE, jF]
   have S1 := hid (KS.out _ A1.out)
   have R1 := hid (KR.out _ A1.out)
   clear hS hR
   refine wpAnyF_take (i := 14) (v := .pointer (some ⟨gL, k, none⟩)) rfl (by kernel_rfl) (by kernel_rfl) (by kernel_rfl) (by kernel_rfl) (fun _ _ _ h => h) (Or.inl ⟨by rfl, fun W h => by clear h; go_simp⟩) S1.out (fun _ => R1.out) ?_
   simp only [jj]
   have cwb := S1.out
   have cgl := R1.out
   have fgl := FRZ.out _ A1.out
   obtain ⟨hb6, hk6⟩ := FIN.out w1 _ A1.out HO.out
   have B6 := hid hb6
   have K6 := hid hk6
   have S6 := hid (show (w1.setCell ⟨gL, k, none⟩ (.slice qv ((goneP fun x => x == (t : Int)) p.lines[k]).length cv)).cell? ⟨wb, 4, none⟩ = some (.slice (some ⟨gL, 0, none⟩) p.lines.length p.lines.length) by rw [range_cell hb6.r (k := 4) rfl, EL.out])
   clear hb6 hk6 FIN HO
   refine wpAnyF_ready (rs := [15]) (by kernel_rfl) (by simp) (AllReadyF.cons rfl (fun K hK => ?_) AllReadyF.nil)
   go_simp
   refine hK.out _ _ S6.out (notClean (by kernel_rfl)) (fun _ _ => ?_)
   clear hK K
   try simp only [Act.put]
   refine wpAnyF_done (by kernel_rfl) ?_ _
   generalize World.setCell _ _ _ = W6 at *
   clear KS KR BD FRZ HU A1 S1 R1 S6 cwb cgl fgl
   go_wp2_with fail
   exact ⟨⟨k + 1, _, by omega, by go_num, B6, K6⟩, by simp [intOf]; omega⟩
  ·obtain rfl : k = p.lines.length := by omega
   have hge : ¬ ((p.lines.length : Int) < (p.lines.length : Int)) := by omega
   have BL := hid (show BoxT wr wb tg V { p with lines := lvs t p.lines } by unfold lvs; rw [← mapK_all]; exact HT.out)
   have KL := HK
   clear HT HK HLR EL HLL B0
   go_wp2_with fail
   clear cl
   generalize wr = wL at *
   generalize tg = tgL at *
   have HLL := HL7
   go_loopw [5] (fun i wr => ∃ (k : Nat) (tg : Nat → Nat), k ≤ p.ready.length ∧ i = .int .i64 k ∧ Hid (BoxT wr wb tg V { { p with lines := lvs t p.lines } with ready := mapK (goneP fun x => x == (t : Int)) k p.ready }) ∧ Hid (Kt tag tg W wr)) (fun i _ => p.ready.length - (intOf i).toNat)
   case atStart => exact ⟨0, tgL, by omega, rfl, hid (by rw [mapK_zero]; exact BL.out), KL⟩
   case round =>
    obtain ⟨k, tg, hk, rfl, HT, HK⟩ := hrel
    obtain ⟨gL, eL⟩ := HT.out.o.ready.form
    have EL := hid (show V 7 = .slice (some ⟨gL, 0, none⟩) p.ready.length p.ready.length from eL.trans (congrArg (fun m => Value.slice (some ⟨gL, 0, none⟩) m m) (mapK_len _ _ _)))
    have HLR := hid (show ListT wr tg 9 13 22 3 1 p.ready.length (.slice (some ⟨gL, 0, none⟩) p.ready.length p.ready.length) (ci (mapK (goneP fun x => x == (t : Int)) k p.ready)) by
     have h1 := HT.out.o.ready
     simp only at h1
     rw [mapK_len, EL.out] at h1
     exact h1)
    have cl : wr.cell? ⟨wb, 7, none⟩ = some (.slice (some ⟨gL, 0, none⟩) p.ready.length p.ready.length) := by rw [range_cell HT.out.r (k := 7) rfl, EL.out]
    clear eL
    by_cases hlt : k < p.ready.length
    ·have hlt2 : (k : Int) < (p.ready.length : Int) := by omega
     go_wp2_with fail
     clear cl
     obtain ⟨u, cu, hu⟩ := HLR.out.at (j := k) hlt
     have HCI := hid (show ci (mapK (goneP fun x => x == (t : Int)) k p.ready) k = (p.ready[k].length, ints p.ready[k]) by
      have hkl : k < (mapK (goneP fun x => x == (t : Int)) k p.ready).length := by rw [mapK_len]; exact hlt
      unfold ci
      rw [List.getD_eq_getElem?_getD, List.getElem?_eq_getElem hkl, Option.getD_some, mapK_at _ _ _ hlt hkl])
     rw [HCI.out] at hu
     have HU := hid (own_ints hu.1)
     have HZL := hid (HLL.out _ (List.getElem_mem hlt))
     have FRZ := hid (fun X (h : Below wr.heap.size wr X) => show X.frozen? ⟨gL, k, none⟩ = false from (HLR.out.kp (T := fun _ => False) (.of_below h) (fun _ _ => rfl) (fun _ _ e => e)).fr k)
     have KS := hid (fun X (h : Below wr.heap.size wr X) => show X.cell? ⟨wb, 7, none⟩ = some (.slice (some ⟨gL, 0, none⟩) p.ready.length p.ready.length) by rw [range_cell (HT.out.below h).r (k := 7) rfl, EL.out])
     have KR := hid (fun X (h : Below wr.heap.size wr X) => show X.cell? ⟨gL, k, none⟩ = some u from (h.cell (World.block_lt_of_cell? _ _ cu)).trans cu)
     have BD : Hid (Below wr.heap.size wr wr.drew) := hid (below_drew wr 1)
     have FIN := hid (fun X v (h : Below wr.heap.size wr X) (ho : X.ownsRow wr.heap.size 3 1 v ((goneP fun x => x == (t : Int)) p.ready[k]).length (ints ((goneP fun x => x == (t : Int)) p.ready[k]))) => show BoxT (X.setCell ⟨gL, k, none⟩ v) wb (tagN tg wr.heap.size (13 + 3 * k)) V { { p with lines := lvs t p.lines } with ready := mapK (goneP fun x => x == (t : Int)) (k + 1) p.ready } ∧ Kt tag (tagN tg wr.heap.size (13 + 3 * k)) W (X.setCell ⟨gL, k, none⟩ v) from by
      obtain ⟨hp1, hp2⟩ := HLR.out.put (tag' := tagN tg wr.heap.size (13 + 3 * k)) (w1 := X) (u := v) (c := (((goneP fun x => x == (t : Int)) p.ready[k]).length, ints ((goneP fun x => x == (t : Int)) p.ready[k]))) (j := k) hlt (fun j => by omega) (.of_below h) (fun k hk => tagN_lt hk) ⟨ho.mono (Nat.zero_le _), fun j e => by
       unfold tagN
       rw [if_neg (by have := (ho.lt j e).1; omega)]⟩
      refine ⟨HT.out.ready hp2 (fun k hk => tagN_lt hk) ?_, HK.out.trans (Kt.of (tag' := tagN tg wr.heap.size (13 + 3 * k)) hp2 (fun k e => by rcases e with e | ⟨j, e⟩ <;> omega) (fun k hk => tagN_lt hk))⟩
      rw [mapK_len, EL.out, mapK_succ _ _ _ hlt, ci_set _ _ (by rw [mapK_len]; exact hlt)]
      exact hp1)
     clear hu cu HCI
     refine wp_region_F (S := fun X => X.cell? ⟨wb, 7, none⟩ = some (.slice (some ⟨gL, 0, none⟩) p.ready.length p.ready.length)) (R := fun X => X.cell? ⟨gL, k, none⟩ = some u) [15] (by kernel_rfl) (KS.out _ BD.out) (KR.out _ BD.out) (fun hS0 hR0 => ?_)
     have hS := hid hS0
     have hR := hid hR0
     clear hS0 hR0
     refine wpAnyF_take (i := 0) (v := .pointer (some ⟨wb, 0, none⟩)) rfl (by kernel_rfl) (by kernel_rfl) (by kernel_rfl) (by kernel_rfl) (fun _ _ _ h => h) (Or.inl ⟨by rfl, fun W h => by clear h; go_simp⟩) hS.out (fun _ => hR.out) ?_
     simp only [jj]
     refine wpAnyF_take (i := 1) (v := .pointer (some ⟨wb, 0, none⟩)) rfl (by kernel_rfl) (by kernel_rfl) (by kernel_rfl) (by kernel_rfl) (fun _ _ _ h => h) (Or.inl ⟨by rfl, fun W h => by clear h; go_simp⟩) hS.out (fun _ => hR.out) ?_
     simp only [jj]
     refine wpAnyF_take (i := 2) (v := .pointer (some ⟨wb, 7, none⟩)) rfl (by kernel_rfl) (by kernel_rfl) (by kernel_rfl) (by kernel_rfl) (fun _ _ _ h => h) (Or.inl ⟨by rfl, fun W h => by clear h; go_simp⟩) hS.out (fun _ => hR.out) ?_
     simp only [jj]
     refine wpAnyF_take (i := 3) (v := .slice (some ⟨gL, 0, none⟩) p.ready.length p.ready.length) rfl (by kernel_rfl) (by kernel_rfl) (by kernel_rfl) (by kernel_rfl) (fun _ _ _ h => h) (Or.inl ⟨by rfl, fun W h => by have h3 := h; clear h; go_simp⟩) hS.out (fun _ => hR.out) ?_
     simp only [jj]
     refine wpAnyF_take (i := 4) (v := .int .i64 k) rfl (by kernel_rfl) (by kernel_rfl) (by kernel_rfl) (by kernel_rfl) (fun _ _ _ h => h) (Or.inl ⟨by rfl, fun W h => by clear h; go_simp⟩) hS.out (fun _ => hR.out) ?_
     simp only [jj]
     refine wpAnyF_take (i := 5) (v := .pointer (some ⟨wb, 0, none⟩)) rfl (by kernel_rfl) (by kernel_rfl) (by kernel_rfl) (by kernel_rfl) (fun _ _ _ h => h) (Or.inl ⟨by rfl, fun W h => by clear h; go_simp⟩) hS.out (fun _ => hR.out) ?_
     simp only [jj]
     refine wpAnyF_take (i := 6) (v := .pointer (some ⟨wb, 0, none⟩)) rfl (by kernel_rfl) (by kernel_rfl) (by kernel_rfl) (by kernel_rfl) (fun _ _ _ h => h) (Or.inl ⟨by rfl, fun W h => by clear h; go_simp⟩) hS.out (fun _ => hR.out) ?_
     simp only [jj]
     refine wpAnyF_take (i := 7) (v := .pointer (some ⟨wb, 7, none⟩)) rfl (by kernel_rfl) (by kernel_rfl) (by kernel_rfl) (by kernel_rfl) (fun _ _ _ h => h) (Or.inl ⟨by rfl, fun W h => by clear h; go_simp⟩) hS.out (fun _ => hR.out) ?_
     simp only [jj]
     refine wpAnyF_take (i := 8) (v := .slice (some ⟨gL, 0, none⟩) p.ready.length p.ready.length) rfl (by kernel_rfl) (by kernel_rfl) (by kernel_rfl) (by kernel_rfl) (fun _ _ _ h => h) (Or.inl ⟨by rfl, fun W h => by have h3 := h; clear h; go_simp⟩) hS.out (fun _ => hR.out) ?_
     simp only [jj]
     refine wpAnyF_take (i := 9) (v := .int .i64 k) rfl (by kernel_rfl) (by kernel_rfl) (by kernel_rfl) (by kernel_rfl) (fun _ _ _ h => h) (Or.inl ⟨by rfl, fun W h => by clear h; go_simp⟩) hS.out (fun _ => hR.out) ?_
     simp only [jj]
     refine wpAnyF_take (i := 10) (v := .pointer (some ⟨gL, k, none⟩)) rfl (by kernel_rfl) (by kernel_rfl) (by kernel_rfl) (by kernel_rfl) (fun _ _ _ h => h) (Or.inl ⟨by rfl, fun W h => by clear h; go_simp⟩) hS.out (fun _ => hR.out) ?_
     simp only [jj]
     refine wpAnyF_takeR (i := 11) (v := u) rfl (by kernel_rfl) (by kernel_rfl) (by kernel_rfl) (by kernel_rfl) (by kernel_rfl) (by kernel_rfl) (fun _ _ _ h => h) (Or.inl ⟨by rfl, fun W h => by have h3 := h.2; clear h; go_simp⟩) hS.out (fun _ => hR.out) ?_
     simp only [jj]
     refine wpAnyF_take (i := 12) (v := .int .i64 t) rfl (by kernel_rfl) (by kernel_rfl) (by kernel_rfl) (by kernel_rfl) (fun _ _ _ h => h) (Or.inl ⟨by rfl, fun W h => by clear h; go_simp⟩) hS.out (fun _ => hR.out) ?_
     simp only [jj]
     refine wpAnyF_ready (rs := [13]) (by kernel_rfl) (by simp) (AllReadyF.cons rfl (fun K hK => ?_) AllReadyF.nil)
     go_simp
     refine (without_ref u p.ready[k] t _ (HU.out.below BD.out) HZL.out).mono ?_
     rintro r w1 ⟨v, rfl, ho, hb⟩
     obtain ⟨qv, cv, rfl⟩ := own_form ho
     have A1 := hid (btr BD.out hb)
     have HO := hid ho
     clear ho hb
     go_wp2_with fail
     refine hK.out _ _ (KS.out _ A1.out) (fun _ => KR.out _ A1.out) (fun _ _ => ?_)
     clear hK K
     try simp only [Act.put, jD, jE, jF]
     have S1 := hid (KS.out _ A1.out)
     have R1 := hid (KR.out _ A1.out)
     clear hS hR
     refine wpAnyF_take (i := 14) (v := .pointer (some ⟨gL, k, none⟩)) rfl (by kernel_rfl) (by kernel_rfl) (by kernel_rfl) (by kernel_rfl) (fun _ _ _ h => h) (Or.inl ⟨by rfl, fun W h => by clear h; go_simp⟩) S1.out (fun _ => R1.out) ?_
     simp only [jj]
     have cwb := S1.out
     have cgl := R1.out
     have fgl := FRZ.out _ A1.out
     obtain ⟨hb6, hk6⟩ := FIN.out w1 _ A1.out HO.out
     have B6 := hid hb6
     have K6 := hid hk6
     have S6 := hid (show (w1.setCell ⟨gL, k, none⟩ (.slice qv ((goneP fun x => x == (t : Int)) p.ready[k]).length cv)).cell? ⟨wb, 7, none⟩ = some (.slice (some ⟨gL, 0, none⟩) p.ready.length p.ready.length) by rw [range_cell hb6.r (k := 7) rfl, EL.out])
     clear hb6 hk6 FIN HO
     refine wpAnyF_ready (rs := [15]) (by kernel_rfl) (by simp) (AllReadyF.cons rfl (fun K hK => ?_) AllReadyF.nil)
     go_simp
     refine hK.out _ _ S6.out (notClean (by kernel_rfl)) (fun _ _ => ?_)
     clear hK K
     try simp only [Act.put]
     refine wpAnyF_done (by kernel_rfl) ?_ _
     generalize World.setCell _ _ _ = W6 at *
     clear KS KR BD FRZ HU A1 S1 R1 S6 cwb cgl fgl
     go_wp2_with fail
     exact ⟨⟨k + 1, _, by omega, by go_num, B6, K6⟩, by simp [intOf]; omega⟩
    ·obtain rfl : k = p.ready.length := by omega
     have hge : ¬ ((p.ready.length : Int) < (p.ready.length : Int)) := by omega
     have BR := hid (show BoxT wr wb tg V { p with lines := lvs t p.lines, ready := lvs t p.ready } by
      have h1 := HT.out
      rw [show mapK (goneP fun x => x == (t : Int)) p.ready.length p.ready = lvs t p.ready from mapK_all _ _] at h1
      exact h1)
     have KR := HK
     clear HT HK HLR EL HLL BL KL HL7
     go_wp2_with fail
     clear cl
     generalize wr = wR at *
     generalize tg = tgR at *
     go_loopw [6] (fun i wr => ∃ (k : Nat), k ≤ p.cores.length ∧ i = .int .i64 k ∧ Hid (BoxT wr wb tgR V { p with lines := lvs t p.lines, ready := lvs t p.ready, cores := mapK (noT t) k p.cores }) ∧ Hid (Kt tag tgR W wr)) (fun i _ => p.cores.length - (intOf i).toNat)
     case atStart => exact ⟨0, by omega, rfl, hid (by rw [mapK_zero]; exact BR.out), KR⟩
     case round =>
      obtain ⟨k, hk, rfl, HT, HK⟩ := hrel
      by_cases hlt : k < p.cores.length
      ·have hlt2 : (k : Int) < (p.cores.length : Int) := by omega
       have hqe := HQ.out (by omega)
       subst hqe
       have hkl : k < (mapK (noT t) k p.cores).length := by rw [mapK_len]; exact hlt
       have he : V 6 = .slice (some ⟨g6, 0, none⟩) (mapK (noT t) k p.cores).length cap6 := by rw [mapK_len]; exact E6.out
       have c6 : wr.cell? ⟨wb, 6, none⟩ = some (.slice (some ⟨g6, 0, none⟩) p.cores.length cap6) := by rw [range_cell HT.out.r (k := 6) rfl, E6.out]
       have h2 := HT.out.o.cores
       simp only at h2
       rw [he] at h2
       have xk := h2.int hkl
       have fk := h2.frozen k
       rw [mapK_at _ _ _ hlt hkl] at xk
       have HS := hid (mapK_succ (noT (t : Int)) k p.cores hlt)
       have HA := hid (mapK_at (noT (t : Int)) k p.cores hlt hkl)
       obtain ⟨y, hy⟩ : ∃ y, p.cores[k] = y := ⟨_, rfl⟩
       rw [hy] at xk HS HA
       by_cases hyt : y = (t : Int)
       ·obtain ⟨hn, hkt⟩ := HT.out.coresCell he k (-1)
        have HN := hid (show BoxT (wr.setCell ⟨g6, k, none⟩ (.int .i64 (-1))) wb tgR V { p with lines := lvs t p.lines, ready := lvs t p.ready, cores := mapK (noT t) (k + 1) p.cores } by
         rw [HS.out, show noT (t : Int) y = -1 from if_pos hyt]
         exact hn)
        have HKK := hid (HK.out.trans hkt)
        rw [hyt] at xk
        clear hn hkt he h2 HT hyt hy HS HA
        go_wp2_with fail
        exact ⟨⟨k + 1, by omega, by go_num, HN, HKK⟩, by simp [intOf]; omega⟩
       ·have HN := hid (show BoxT wr wb tgR V { p with lines := lvs t p.lines, ready := lvs t p.ready, cores := mapK (noT t) (k + 1) p.cores } by
         rw [HS.out, show noT (t : Int) y = y from if_neg hyt, ← HA.out, List.set_getElem_self]
         exact HT.out)
        have hyb : (y == (t : Int)) = false := by simpa using hyt
        clear he h2 HT hyt hy HS HA
        go_wp2_with fail
        exact ⟨⟨k + 1, by omega, by go_num, HN, HK⟩, by simp [intOf]; omega⟩
      ·obtain rfl : k = p.cores.length := by omega
       have hge : ¬ ((p.cores.length : Int) < (p.cores.length : Int)) := by omega
       have c6 : wr.cell? ⟨wb, 6, none⟩ = some (.slice q6 p.cores.length cap6) := by rw [range_cell HT.out.r (k := 6) rfl, E6.out]
       have BC := hid (show BoxT wr wb tgR V { p with lines := lvs t p.lines, ready := lvs t p.ready, cores := p.cores.map (noT t) } by rw [← mapK_all]; exact HT.out)
       have KC := HK
       clear HT HK BR KR
       go_wp2_with fail
       clear c6
       generalize wr = wC at *
       have TSL := hid (show p.tasks.length = p.tasks.length from rfl)
       go_loopw [7] (fun i wr => ∃ (k : Nat), k ≤ p.tasks.length ∧ i = .int .i64 k ∧ Hid (BoxT wr wb tgR V { p with lines := lvs t p.lines, ready := lvs t p.ready, cores := p.cores.map (noT t), tasks := mapK (nOw t) k p.tasks }) ∧ Hid (Kt tag tgR W wr)) (fun i _ => p.tasks.length - (intOf i).toNat)
       case atStart => exact ⟨0, by omega, rfl, hid (by rw [mapK_zero]; exact BC.out), KC⟩
       case round =>
        obtain ⟨k, hk, rfl, HT, HK⟩ := hrel
        have HML := hid (show (mapK (nOw t) k p.tasks).length = p.tasks.length from (mapK_len _ _ _).trans TSL.out)
        have c3 : wr.cell? ⟨wb, 3, none⟩ = some (.slice (some ⟨g3, 0, none⟩) p.tasks.length cap3) := by rw [range_cell HT.out.r (k := 3) rfl, E3.out]
        have he : V 3 = .slice (some ⟨g3, 0, none⟩) (mapK (nOw t) k p.tasks).length cap3 := by rw [HML.out]; exact E3.out
        by_cases hlt : k < p.tasks.length
        ·have hlt2 : (k : Int) < (p.tasks.length : Int) := by omega
         have hks : k < p.tasks.length := by rw [TSL.out]; exact hlt
         have hkl : k < (mapK (nOw t) k p.tasks).length := by rw [HML.out]; exact hlt
         have x17 := HT.out.tasksAt he hkl (show 17 < 20 by omega)
         have f17 := HT.out.tasksFr he (k * 20 + 17)
         simp only [mapK_at (nOw t) k p.tasks hks] at x17
         have HS := hid (mapK_succ (nOw (t : Int)) k p.tasks hks)
         have HA := hid (mapK_at (nOw (t : Int)) k p.tasks hks hkl)
         obtain ⟨f, hf⟩ : ∃ f, p.tasks[k] = f := ⟨_, rfl⟩
         rw [hf] at HS HA x17
         by_cases hyt : f 17 = (t : Int)
         ·obtain ⟨hn, hkt⟩ := HT.out.tasksCell he hkl (show 17 < 20 by omega) (-1)
          have HN := hid (show BoxT (wr.setCell ⟨g3, k * 20 + 17, none⟩ (.int .i64 (-1))) wb tgR V { p with lines := lvs t p.lines, ready := lvs t p.ready, cores := p.cores.map (noT t), tasks := mapK (nOw t) (k + 1) p.tasks } by
           rw [HS.out, show nOw (t : Int) f = upd f 17 (-1) from if_pos hyt, ← HA.out]
           exact hn)
          have HKK := hid (HK.out.trans hkt)
          rw [hyt] at x17
          clear hn hkt he HT hyt hf HS HA HML hks hkl
          go_wp2_with fail
          exact ⟨⟨k + 1, by omega, by go_num, HN, HKK⟩, by simp [intOf]; omega⟩
         ·have HN := hid (show BoxT wr wb tgR V { p with lines := lvs t p.lines, ready := lvs t p.ready, cores := p.cores.map (noT t), tasks := mapK (nOw t) (k + 1) p.tasks } by
           rw [HS.out, show nOw (t : Int) f = f from if_neg hyt, ← HA.out, List.set_getElem_self]
           exact HT.out)
          have hyb : (f 17 == (t : Int)) = false := by simpa using hyt
          generalize f 17 = y at x17 hyb
          clear he HT hyt hf HS HA HML hks hkl
          go_wp2_with fail
          exact ⟨⟨k + 1, by omega, by go_num, HN, HK⟩, by simp [intOf]; omega⟩
        ·obtain rfl : k = p.tasks.length := by omega
         have hge : ¬ ((p.tasks.length : Int) < (p.tasks.length : Int)) := by omega
         have BT := hid (show BoxT wr wb tgR V { p with lines := lvs t p.lines, ready := lvs t p.ready, cores := p.cores.map (noT t), tasks := p.tasks.map (nOw t) } by
          have h1 := HT.out
          simp only [mapK_all] at h1
          exact h1)
         have KT := HK
         clear HT HK he HML
         have L0 := hid (show (p.tasks.map (nOw t)).length = p.tasks.length by simp)
         have e3 : V 3 = .slice (some ⟨g3, 0, none⟩) ({ p with lines := lvs t p.lines, ready := lvs t p.ready, cores := p.cores.map (noT t), tasks := p.tasks.map (nOw t) } : PW).tasks.length cap3 := E3.out.trans (congrArg (fun m => Value.slice (some ⟨g3, 0, none⟩) m cap3) L0.out.symm)
         have hti : t < ({ p with lines := lvs t p.lines, ready := lvs t p.ready, cores := p.cores.map (noT t), tasks := p.tasks.map (nOw t) } : PW).tasks.length := by show t < (p.tasks.map (nOw t)).length; rw [L0.out]; exact HTT.out
         have x9 := BT.out.taskAt e3 hti (show 9 < 20 by omega)
         have f9 := BT.out.tasksFr e3 (t * 20 + 9)
         obtain ⟨b1, k1⟩ := BT.out.task e3 hti (show 9 < 20 by omega) 0
         have e4 : V 3 = .slice (some ⟨g3, 0, none⟩) (({ p with lines := lvs t p.lines, ready := lvs t p.ready, cores := p.cores.map (noT t), tasks := p.tasks.map (nOw t) } : PW).task t 9 0).tasks.length cap3 := by rw [PW.task_len]; exact e3
         have hti2 : t < (({ p with lines := lvs t p.lines, ready := lvs t p.ready, cores := p.cores.map (noT t), tasks := p.tasks.map (nOw t) } : PW).task t 9 0).tasks.length := by rw [PW.task_len]; exact hti
         have B1 := hid b1
         have K1 := hid (KT.out.trans k1)
         have E4 := hid e4
         have HT2 := hid hti2
         clear b1 k1 e3 e4 hti hti2
         go_upto_region 19 with fail
         generalize World.setCell _ _ _ = W1 at *
         clear x9 f9 c3
         have c3 : W1.cell? ⟨wb, 3, none⟩ = some (.slice (some ⟨g3, 0, none⟩) p.tasks.length cap3) := by rw [range_cell B1.out.r (k := 3) rfl, E3.out]
         have x14 := B1.out.taskAt E4.out HT2.out (show 14 < 20 by omega)
         have f14 := B1.out.tasksFr E4.out (t * 20 + 14)
         obtain ⟨b2, k2⟩ := B1.out.task E4.out HT2.out (show 14 < 20 by omega) (-1)
         have B2 := hid b2
         have K2 := hid (K1.out.trans k2)
         clear b2 k2
         go_wp2_with fail
         exact bodyPost_end (results_none rfl _ _ _) rfl ⟨rfl, tgR, B2.out, K2.out⟩
/-- A task is still, as the program does it. -/
def stQ (p : PW) (t : Nat) : PW := { lvP p t with tasks := ((lvP p t).task t 9 0).tasks.map (nOw t) }
theorem nOw_upd (t : Int) (f : Nat → Int) (k : Nat) (x : Int) (hk : k ≠ 17) : nOw t (upd f k x) = upd (nOw t f) k x := by
 unfold nOw
 rw [show upd f k x 17 = f 17 from if_neg (fun e => hk e.symm)]
 by_cases h : f 17 = t
 ·rw [if_pos h, if_pos h]
  funext j
  unfold upd
  by_cases h1 : j = 17
  ·rw [if_pos h1, if_neg (fun e => hk (e.symm.trans h1)), if_pos h1]
  ·rw [if_neg h1]
   by_cases h2 : j = k
   ·rw [if_pos h2, if_pos h2]
   ·rw [if_neg h2, if_neg h2, if_neg h1]
 ·rw [if_neg h, if_neg h]
theorem map_getD (p : PW) (t : Nat) (h : (Nat → Int) → (Nat → Int)) (ht : t < p.tasks.length) : (p.tasks.map h).getD t bl = h (p.tasks.getD t bl) := by
 rw [List.getD_eq_getElem?_getD, List.getElem?_map, List.getElem?_eq_getElem ht, List.getD_eq_getElem?_getD, List.getElem?_eq_getElem ht]
 rfl
theorem stQ_eq (p : PW) (t : Nat) (ht : t < p.tasks.length) : stQ p t = stP p t := by
 have e : ((lvP p t).task t 9 0).tasks.map (nOw t) = (stP p t).tasks := by
  unfold stP lvP PW.task
  simp only
  rw [set_getD _ t _ _ ht, List.set_set, List.map_set, nOw_upd _ _ 9 _ (by decide), nOw_upd _ _ 14 _ (by decide)]
  have hm : t < (p.tasks.map (nOw t)).length := by rw [List.length_map]; exact ht
  rw [set_getD _ t _ _ hm, List.set_set, map_getD p t _ ht, upd_comm _ 14 9 _ _ (by decide)]
 unfold stQ
 rw [e]
 rfl
set_option maxRecDepth 100000 in
set_option maxHeartbeats 4000000 in
theorem stop_any (wb : Nat) (tag : Nat → Nat) (V : Nat → Value) (p : PW) (t : Nat) (W : World) (bt : BoxT W wb tag V p) (hp : p.Fits) (ht : t < p.tasks.length) :
  Calls Tryz.prog 145 #[.pointer (some ⟨wb, 0, none⟩), .int .i64 t] W fun r W' => r = .returned (.tuple #[]) ∧ BoxT W' wb tag V (stP p t) ∧ Kt tag tag W W' := by
 rw [← stQ_eq p t ht]
 have HLV := hid (leaveW_any wb tag V p t W bt hp ht)
 have hl3 : (p.tasks.length : Int) ≤ 1000 := by have := hp.tasks; omega
 have ht2 : (t : Int) < (p.tasks.length : Int) := by omega
 obtain ⟨g3, cap3, e3⟩ := bt.o.tasks.form (by omega)
 have E3 := hid e3
 have HTT := hid ht
 have HLT := hid (show (lvP p t).tasks.length = p.tasks.length from PW.task_len p t 14 (-1))
 have TSL := hid ((PW.task_len (lvP p t) t 9 0).trans HLT.out)
 clear bt hp e3 ht
 go_enter Tryz.func145, Tryz.ntmps145
 go_wp2_with fail
 refine HLV.out.mono ?_
 rintro r w1 ⟨rfl, h1, h2⟩
 have e4 : V 3 = .slice (some ⟨g3, 0, none⟩) (lvP p t).tasks.length cap3 := by rw [HLT.out]; exact E3.out
 have c3 : w1.cell? ⟨wb, 3, none⟩ = some (.slice (some ⟨g3, 0, none⟩) p.tasks.length cap3) := by rw [range_cell h1.r (k := 3) rfl, E3.out]
 have x9 := h1.taskAt e4 (i := t) (by rw [HLT.out]; exact HTT.out) (show 9 < 20 by omega)
 have f9 := h1.tasksFr e4 (t * 20 + 9)
 obtain ⟨b2, k2⟩ := h1.task e4 (i := t) (by rw [HLT.out]; exact HTT.out) (show 9 < 20 by omega) 0
 have BC := hid (show BoxT (w1.setCell ⟨g3, t * 20 + 9, none⟩ (.int .i64 0)) wb tag V { lvP p t with tasks := ((lvP p t).task t 9 0).tasks } from b2)
 have KC := hid (h2.trans k2)
 clear h1 h2 b2 k2 e4 HLV
 go_upto_region 2 with fail
 generalize World.setCell _ _ _ = W2 at *
 clear x9 f9 c3
 have c3 : W2.cell? ⟨wb, 3, none⟩ = some (.slice (some ⟨g3, 0, none⟩) p.tasks.length cap3) := by rw [range_cell BC.out.r (k := 3) rfl, E3.out]
 go_wp2_with fail
 clear c3
 go_loopw [20] (fun i wr => ∃ (k : Nat), k ≤ p.tasks.length ∧ i = .int .i64 k ∧ Hid (BoxT wr wb tag V { lvP p t with tasks := mapK (nOw t) k ((lvP p t).task t 9 0).tasks }) ∧ Hid (Kt tag tag W wr)) (fun i _ => p.tasks.length - (intOf i).toNat)
 case atStart => exact ⟨0, by omega, rfl, hid (by rw [mapK_zero]; exact BC.out), KC⟩
 case round =>
  obtain ⟨k, hk, rfl, HT, HK⟩ := hrel
  have HML := hid (show (mapK (nOw t) k ((lvP p t).task t 9 0).tasks).length = p.tasks.length from (mapK_len _ _ _).trans TSL.out)
  have c3 : wr.cell? ⟨wb, 3, none⟩ = some (.slice (some ⟨g3, 0, none⟩) p.tasks.length cap3) := by rw [range_cell HT.out.r (k := 3) rfl, E3.out]
  have he : V 3 = .slice (some ⟨g3, 0, none⟩) (mapK (nOw t) k ((lvP p t).task t 9 0).tasks).length cap3 := by rw [HML.out]; exact E3.out
  by_cases hlt : k < p.tasks.length
  ·have hlt2 : (k : Int) < (p.tasks.length : Int) := by omega
   have hks : k < ((lvP p t).task t 9 0).tasks.length := by rw [TSL.out]; exact hlt
   have hkl : k < (mapK (nOw t) k ((lvP p t).task t 9 0).tasks).length := by rw [HML.out]; exact hlt
   have x17 := HT.out.tasksAt he hkl (show 17 < 20 by omega)
   have f17 := HT.out.tasksFr he (k * 20 + 17)
   simp only [mapK_at (nOw t) k ((lvP p t).task t 9 0).tasks hks] at x17
   have HS := hid (mapK_succ (nOw (t : Int)) k ((lvP p t).task t 9 0).tasks hks)
   have HA := hid (mapK_at (nOw (t : Int)) k ((lvP p t).task t 9 0).tasks hks hkl)
   obtain ⟨f, hf⟩ : ∃ f, ((lvP p t).task t 9 0).tasks[k] = f := ⟨_, rfl⟩
   rw [hf] at HS HA x17
   by_cases hyt : f 17 = (t : Int)
   ·obtain ⟨hn, hkt⟩ := HT.out.tasksCell he hkl (show 17 < 20 by omega) (-1)
    have HN := hid (show BoxT (wr.setCell ⟨g3, k * 20 + 17, none⟩ (.int .i64 (-1))) wb tag V { lvP p t with tasks := mapK (nOw t) (k + 1) ((lvP p t).task t 9 0).tasks } by
     rw [HS.out, show nOw (t : Int) f = upd f 17 (-1) from if_pos hyt, ← HA.out]
     exact hn)
    have HKK := hid (HK.out.trans hkt)
    rw [hyt] at x17
    clear hn hkt he HT hyt hf HS HA HML hks hkl
    go_wp2_with fail
    exact ⟨⟨k + 1, by omega, by go_num, HN, HKK⟩, by simp [intOf]; omega⟩
   ·have HN := hid (show BoxT wr wb tag V { lvP p t with tasks := mapK (nOw t) (k + 1) ((lvP p t).task t 9 0).tasks } by
     rw [HS.out, show nOw (t : Int) f = f from if_neg hyt, ← HA.out, List.set_getElem_self]
     exact HT.out)
    have hyb : (f 17 == (t : Int)) = false := by simpa using hyt
    generalize f 17 = y at x17 hyb
    clear he HT hyt hf HS HA HML hks hkl
    go_wp2_with fail
    exact ⟨⟨k + 1, by omega, by go_num, HN, HK⟩, by simp [intOf]; omega⟩
  ·obtain rfl : k = p.tasks.length := by omega
   have hge : ¬ ((p.tasks.length : Int) < (p.tasks.length : Int)) := by omega
   have BT := hid (show BoxT wr wb tag V (stQ p t) by
    have h1 := HT.out
    rw [show mapK (nOw t) p.tasks.length ((lvP p t).task t 9 0).tasks = ((lvP p t).task t 9 0).tasks.map (nOw t) from (congrArg (fun m => mapK (nOw t) m ((lvP p t).task t 9 0).tasks) TSL.out.symm).trans (mapK_all _ _)] at h1
    exact h1)
   clear HT he HML
   go_wp2_with fail
   exact bodyPost_end (results_none rfl _ _ _) rfl ⟨rfl, BT.out, HK.out⟩
end Go.Proofs.YtoebmjgkfkfhjaaGreatDoor.Wd
