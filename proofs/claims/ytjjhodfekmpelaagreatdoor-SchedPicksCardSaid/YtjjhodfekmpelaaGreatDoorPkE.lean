/- How a core settles, by the document: keyholdref.Settled; walked. (Written by mk_pick5.py.) -/
import Derived.Test.YtjjhodfekmpelaaGreatDoorGRfM2
import Derived.Test.YtjjhodfekmpelaaGreatDoorPkX
namespace Go.Proofs.YtjjhodfekmpelaaGreatDoor.Wd
open Go.RowKit Go.Proofs.YtjjhodfekmpelaaGreatDoor.Mem Go.Proofs.YtjjhodfekmpelaaGreatDoor.Bw Go.Proofs.YtjjhodfekmpelaaGreatDoor.Nums Go.Proofs.YtjjhodfekmpelaaGreatDoor.Mmu
set_option maxRecDepth 100000 in
set_option maxHeartbeats 8000000 in
theorem settled_none (wb : Nat) (tg : Nat → Nat) (V : Nat → Value) (p : PW) (c : Nat) (W : World) (bt : BoxT W wb tg V p) (hp : p.Fits) (hs : Snd p) (hc : c < p.cores.length) (hz : p.cores.getD c (-1) = -1) :
  Calls Tryz.prog 21 #[.pointer (some ⟨wb, 0, none⟩), .int .i64 c] W fun r W' => r = .returned (.tuple #[]) ∧ ∃ tag', BoxT W' wb tag' V (rlP p c) ∧ Kt tg tag' W W' := by
 have hl6 : (p.cores.length : Int) ≤ 1000 := by have := hp.cores; omega
 have hc2 : (c : Int) < (p.cores.length : Int) := by omega
 have hc3 : (c : Int) ≤ 1000 := by omega
 have hlr : (p.ready.length : Int) ≤ 1000 := by have := hp.ready; omega
 obtain ⟨g6, cap6, e6⟩ := bt.o.cores.form (by omega)
 have E6 := hid e6
 obtain ⟨gR, eR⟩ := bt.o.ready.form
 have ER := hid eR
 obtain ⟨m, hm⟩ : ∃ m, tnV p = m := ⟨_, rfl⟩
 have HTV := hid hm
 have HSL := hid (show rlP p c = rnx p m c 4 by unfold rlP; rw [if_pos hz, hm])
 have HM1 := hid hz
 have HFQ := hid hp
 have HRQ := hid (show c * 4 + 4 ≤ p.ready.length by rw [hs.lf.ready]; omega)
 have HD1 := hid hs.lf.d1
 have HTM := hid (show 0 ≤ p.time ∧ p.time ≤ 1000000 by have h := hs.tm; unfold within at h; simpa using h)
 have HEQ := E6
 have HCQ := hid hc
 obtain ⟨g3, cap3, e3⟩ := bt.o.tasks.form (by rw [hs.lf.tasks]; have := hs.lf.k1; omega)
 have E3Q := hid e3
 have hl3 : (p.tasks.length : Int) ≤ 1000 := by have := hp.tasks; omega
 have HLE := hid (fun (n : Nat) (hn : n < p.ready.length) => show (p.ready.getD n []).length ≤ 1000 by rw [List.getD_eq_getElem?_getD, List.getElem?_eq_getElem hn]; exact hp.next _ (List.getElem_mem hn))
 have HZE := hid (fun (n : Nat) (hn : n < p.ready.length) => show ∀ z ∈ p.ready.getD n [], 0 ≤ z ∧ z < (p.tasks.length : Int) by rw [List.getD_eq_getElem?_getD, List.getElem?_eq_getElem hn]; exact rd_in hs _ (List.getElem_mem hn))
 have B2 := hid bt
 have K00 := hid (Kt.refl tg W)
 have c6 : W.cell? ⟨wb, 6, none⟩ = some (.slice (some ⟨g6, 0, none⟩) p.cores.length cap6) := by rw [range_cell bt.r (k := 6) rfl, e6]
 have x6 : W.cell? ⟨g6, c, none⟩ = some (.int .i64 (-1)) := by rw [(bt.coresAt e6 hc).1, hz]
 clear bt hp hs hc hz hm e6 eR e3
 go_enter Tryz.func21, Tryz.ntmps21
 go_upto_region 1 with fail
 go_quiet (fail)
 have B3 := hid (B2.out.below (below_drewN (Below.refl W.heap.size W) nq))
 have K3 := hid (K00.out.trans (.below (below_drewN (Below.refl W.heap.size W) nq)))
 clear B2 K00 c6 x6
 generalize World.drewN _ _ = w2 at *
 have B2 := B3
 have K00 := K3
 clear B3 K3
 generalize hX0 : w2 = X0 at *
 clear hX0
 have HTQ := hid (fun Y (h : BoxT Y wb tg V (p)) => turn_quiet wb tg V (p) Y h HFQ.out HD1.out HTM.out)
 rw [HTV.out] at HTQ
 have c6 : X0.cell? ⟨wb, 6, none⟩ = some (.slice (some ⟨g6, 0, none⟩) p.cores.length cap6) := by rw [range_cell B2.out.r (k := 6) rfl, E6.out]
 have x6 : X0.cell? ⟨g6, c, none⟩ = some (.int .i64 (-1)) := by rw [(B2.out.coresAt HEQ.out HCQ.out).1, HM1.out]
 go_wp2_with fail
 clear c6 x6
 go_loopw [5] (fun i wr => ∃ (k : Nat) (x : Int), k ≤ 4 ∧ Hid (x = (k : Int) - 1) ∧ i = .int .i64 x ∧ Hid (Below X0.heap.size X0 wr ∧ rnx (p) m c 4 = rnx (p) m c k)) (fun i _ => (intOf i + 1).toNat)
 case atStart => exact ⟨4, 3, by omega, hid rfl, rfl, hid ⟨Below.refl _ _, rfl⟩⟩
 case round =>
  obtain ⟨k, x, hk, HX, rfl, HH⟩ := hrel
  have BB := hid HH.out.1
  have HV := hid HH.out.2
  clear HH
  by_cases h0 : 0 ≤ x
  ·obtain ⟨j, rfl⟩ : ∃ j : Nat, x = j := ⟨x.toNat, by omega⟩
   obtain rfl : k = j + 1 := by have := HX.out; omega
   obtain ⟨n, hn⟩ : ∃ n : Nat, c * 4 + j = n := ⟨_, rfl⟩
   have hcp : (c : Int) * 4 + (j : Int) = (n : Int) := by omega
   have hnl : n < (p).ready.length := by have := HRQ.out; omega
   have hn2 : (n : Int) < ((p).ready.length : Int) := by omega
   have HNL := hid hnl
   have HVJ := hid (show rnx (p) m c 4 = if 0 ≤ ixP (dmB (p) m) ((p).ready.getD n []) then { p with cores := (p).cores.set c (((p).ready.getD n []).getD (ixP (dmB (p) m) ((p).ready.getD n [])).toNat 0), ready := (p).ready.set n (((p).ready.getD n []).take (ixP (dmB (p) m) ((p).ready.getD n [])).toNat ++ ((p).ready.getD n []).drop ((ixP (dmB (p) m) ((p).ready.getD n [])).toNat + 1)) } else rnx (p) m c j by rw [HV.out, ← hn]; rfl)
   have hLR := (B2.out.below BB.out).o.ready
   rw [ER.out] at hLR
   obtain ⟨u, cu, hu⟩ := hLR.at hnl
   unfold ci at hu
   have HUT := hid hu.2
   have hui := own_ints hu.1
   obtain ⟨qu, gu, capu, rfl, hqu⟩ := hu.shape
   have HUI := hid hui
   have c7 : wr.cell? ⟨wb, 7, none⟩ = some (.slice (some ⟨gR, 0, none⟩) (p).ready.length (p).ready.length) := by rw [range_cell (B2.out.below BB.out).r (k := 7) rfl, ER.out]
   have hj4 : (j : Int) ≤ 3 := by omega
   have HLL := hid (HLE.out n hnl)
   have HLZ := hid (HZE.out n hnl)
   have HQ := hid hqu
   have HCAP := hid (show ((p).ready.getD n []).length ≤ capu by
    rcases hu.1.2 with ⟨h1, h2⟩ | ⟨_, _, _, h1, _, _, h2, _⟩
    ·simp only at h2; omega
    ·cases h1; exact h2)
   generalize hll : (p).ready.getD n [] = l at *
   have hl5 : (l.length : Int) ≤ 1000 := by have := HLL.out; omega
   clear hu hqu hui hLR hnl hn hll
   generalize wr = wo at *
   go_wp2_with fail
   clear c7 cu
   go_loopw [7] (fun i wr => ∃ (i' : Nat), i' ≤ l.length ∧ i = .int .i64 i' ∧ Hid (Below wo.heap.size wo wr ∧ ∀ j (hj : j < l.length), j < i' → dmB (p) m l[j] = false)) (fun i _ => l.length - (intOf i).toNat)
   case atStart => exact ⟨0, by omega, rfl, hid ⟨Below.refl _ _, fun j _ h => by omega⟩⟩
   case round =>
    obtain ⟨i, hi, rfl, HH⟩ := hrel
    have BI := hid HH.out.1
    have HN := hid HH.out.2
    clear HH
    by_cases hlt : i < l.length
    ·have hlt2 : (i : Int) < (l.length : Int) := by omega
     have hqe := HQ.out (by omega)
     subst hqe
     have HBW := hid ((B2.out.below BB.out).below BI.out)
     have CKS := hid (show ∀ j (hj : j < l.length), wr.cell? ⟨gu, j, none⟩ = some (.int .i64 l[j]) from fun j hj => by
      obtain ⟨q2, b2, o2, cap2, e2, hq2, hz2⟩ := HUI.out.below BI.out
      cases e2
      have h3 := hq2 (by omega)
      cases h3
      have := hz2 j hj
      rw [Nat.zero_add] at this
      exact this)
     have HMM := hid (HLZ.out _ (List.getElem_mem hlt))
     have ck := CKS.out i hlt
     obtain ⟨y, hy⟩ : ∃ y, l[i] = y := ⟨_, rfl⟩
     rw [hy] at ck HMM
     have HY := hid hy
     clear hy
     obtain ⟨y', hy'⟩ : ∃ y' : Nat, y = y' := ⟨y.toNat, by have := HMM.out.1; omega⟩
     subst hy'
     have hyt2 : (y' : Int) < ((p).tasks.length : Int) := HMM.out.2
     have c3 : wr.cell? ⟨wb, 3, none⟩ = some (.slice (some ⟨g3, 0, none⟩) (p).tasks.length cap3) := by rw [range_cell HBW.out.r (k := 3) rfl, E3Q.out]
     have x19 := HBW.out.taskAt E3Q.out (i := y') (by omega) (show 19 < 20 by omega)
     have HDM := hid (show dmB (p) m y' = ((p).tasks.getD y' bl 19 == m) by unfold dmB; rw [Int.toNat_natCast])
     generalize (p).tasks.getD y' bl 19 = z at x19 HDM
     by_cases hzm : z = m
     ·subst hzm
      rw [beq_self_eq_true] at HDM
      have HXX := hid (show ixP (dmB (p) z) l = i by
       have h1 : l.findIdx (dmB (p) z) = i := by
        rw [List.findIdx_eq hlt]
        exact ⟨by rw [HY.out]; exact HDM.out, fun j hj => HN.out j (by omega) hj⟩
       unfold ixP
       rw [h1, if_pos hlt])
      have HRR := hid (show rnx (p) z c 4 = { p with cores := (p).cores.set c y', ready := (p).ready.set n (l.take i ++ l.drop (i + 1)) } by
       rw [HVJ.out, HXX.out, if_pos (by omega), Int.toNat_natCast, List.getD_eq_getElem?_getD (l := l), List.getElem?_eq_getElem hlt, Option.getD_some, HY.out])
      go_upto_region 12 with fail
      go_quiet (first | (go_at_call 67; refine Calls.quiet_of (HTQ.out _ (HBW.out.below (below_drew wr _)))))
      have BY := hid (HBW.out.below (below_drewN (Below.refl wr.heap.size wr) nq))
      have KY := hid (show Kt tg tg X0 (wr.drewN nq) from .below (btr (btr BB.out BI.out) (below_drewN (Below.refl wr.heap.size wr) nq)))
      have ck0 : (wr.drewN nq).cell? ⟨gu, i, none⟩ = some (.int .i64 y') := ck
      have CKY := hid (show ∀ j (hj : j < l.length), (wr.drewN nq).cell? ⟨gu, j, none⟩ = some (.int .i64 l[j]) from fun j hj => CKS.out j hj)
      clear ck c3 x19 CKS
      have CKS := CKY
      generalize World.drewN _ _ = Y0 at *
      have HNE := hid (show gu ≠ g6 from fun e => by
       have h1 := HUT.out gu rfl
       have h2 := B2.out.o.cores
       rw [E6.out] at h2
       have h3 := h2.2 g6 rfl
       rw [e] at h1
       omega)
      clear HTQ CKY HXX HVJ HN
      obtain ⟨y, hyy⟩ : ∃ y : Int, (y' : Int) = y := ⟨_, rfl⟩
      rw [hyy] at ck0 HRR
      clear hyy HY HMM hyt2 HDM
      go_upto_region 13 with fail
      have c6 : Y0.cell? ⟨wb, 6, none⟩ = some (.slice (some ⟨g6, 0, none⟩) p.cores.length cap6) := by rw [range_cell BY.out.r (k := 6) rfl, E6.out]
      have BD : Hid (Below Y0.heap.size Y0 Y0.drew) := hid (below_drew Y0 1)
      obtain ⟨x6, f6⟩ := (BY.out.below BD.out).coresAt HEQ.out HCQ.out
      obtain ⟨b7, k7⟩ := (BY.out.below BD.out).coresCell HEQ.out c y
      have B7 := hid (show BoxT (Y0.setCell ⟨g6, c, none⟩ (.int .i64 y)).drew wb tg V { p with cores := (p).cores.set c y } from b7)
      have K7 := hid (show Kt tg tg X0 (Y0.setCell ⟨g6, c, none⟩ (.int .i64 y)).drew from (KY.out.trans (.below BD.out)).trans k7)
      have S7 := hid (show (Y0.setCell ⟨g6, c, none⟩ (.int .i64 y)).drew.cell? ⟨wb, 6, none⟩ = some (.slice (some ⟨g6, 0, none⟩) p.cores.length cap6) by rw [range_cell B7.out.r (k := 6) rfl, E6.out])
      have C7 := hid (show ∀ j (hj : j < l.length), (Y0.setCell ⟨g6, c, none⟩ (.int .i64 y)).drew.cell? ⟨gu, j, none⟩ = some (.int .i64 l[j]) from fun j hj => (World.cell?_setCell_far Y0 ⟨g6, c, none⟩ ⟨gu, j, none⟩ _ (fun e => HNE.out e.symm)).trans (CKS.out j hj))
      clear b7 k7
      refine wp_region_F (S := fun X => X.cell? ⟨wb, 6, none⟩ = some (.slice (some ⟨g6, 0, none⟩) p.cores.length cap6)) (R := fun X => X.cell? ⟨gu, i, none⟩ = some (.int .i64 y)) [10] (by kernel_rfl) c6 ck0 (fun hS0 hR0 => ?_)
      have hS := hid hS0
      have hR := hid hR0
      clear hS0 hR0 c6
      refine wpAnyF_take (i := 0) (v := .pointer (some ⟨wb, 0, none⟩)) rfl (by kernel_rfl) (by kernel_rfl) (by kernel_rfl) (by kernel_rfl) (fun _ _ _ h => h) (Or.inl ⟨by rfl, fun W h => by clear h; go_simp⟩) hS.out (fun _ => hR.out) ?_
      simp only [jj]
      refine wpAnyF_take (i := 1) (v := .pointer (some ⟨wb, 0, none⟩)) rfl (by kernel_rfl) (by kernel_rfl) (by kernel_rfl) (by kernel_rfl) (fun _ _ _ h => h) (Or.inl ⟨by rfl, fun W h => by clear h; go_simp⟩) hS.out (fun _ => hR.out) ?_
      simp only [jj]
      refine wpAnyF_take (i := 2) (v := .pointer (some ⟨wb, 6, none⟩)) rfl (by kernel_rfl) (by kernel_rfl) (by kernel_rfl) (by kernel_rfl) (fun _ _ _ h => h) (Or.inl ⟨by rfl, fun W h => by clear h; go_simp⟩) hS.out (fun _ => hR.out) ?_
      simp only [jj]
      refine wpAnyF_take (i := 3) (v := .slice (some ⟨g6, 0, none⟩) p.cores.length cap6) rfl (by kernel_rfl) (by kernel_rfl) (by kernel_rfl) (by kernel_rfl) (fun _ _ _ h => h) (Or.inl ⟨by rfl, fun W h => by have h3 := h; clear h; go_simp⟩) hS.out (fun _ => hR.out) ?_
      simp only [jj]
      refine wpAnyF_take (i := 4) (v := .int .i64 c) rfl (by kernel_rfl) (by kernel_rfl) (by kernel_rfl) (by kernel_rfl) (fun _ _ _ h => h) (Or.inl ⟨by rfl, fun W h => by clear h; go_simp⟩) hS.out (fun _ => hR.out) ?_
      simp only [jj]
      refine wpAnyF_take (i := 5) (v := .slice (some ⟨gu, 0, none⟩) l.length capu) rfl (by kernel_rfl) (by kernel_rfl) (by kernel_rfl) (by kernel_rfl) (fun _ _ _ h => h) (Or.inl ⟨by rfl, fun W h => by clear h; go_simp⟩) hS.out (fun _ => hR.out) ?_
      simp only [jj]
      refine wpAnyF_take (i := 6) (v := .int .i64 i) rfl (by kernel_rfl) (by kernel_rfl) (by kernel_rfl) (by kernel_rfl) (fun _ _ _ h => h) (Or.inl ⟨by rfl, fun W h => by clear h; go_simp⟩) hS.out (fun _ => hR.out) ?_
      simp only [jj]
      refine wpAnyF_take (i := 7) (v := .pointer (some ⟨gu, i, none⟩)) rfl (by kernel_rfl) (by kernel_rfl) (by kernel_rfl) (by kernel_rfl) (fun _ _ _ h => h) (Or.inl ⟨by rfl, fun W h => by clear h; go_simp⟩) hS.out (fun _ => hR.out) ?_
      simp only [jj]
      refine wpAnyF_takeR (i := 8) (v := .int .i64 y) rfl (by kernel_rfl) (by kernel_rfl) (by kernel_rfl) (by kernel_rfl) (by kernel_rfl) (by kernel_rfl) (fun _ _ _ h => h) (Or.inl ⟨by rfl, fun W h => by have h3 := h.2; clear h; go_simp⟩) hS.out (fun _ => hR.out) ?_
      simp only [jj]
      refine wpAnyF_take (i := 9) (v := .pointer (some ⟨g6, c, none⟩)) rfl (by kernel_rfl) (by kernel_rfl) (by kernel_rfl) (by kernel_rfl) (fun _ _ _ h => h) (Or.inl ⟨by rfl, fun W h => by clear h; go_simp⟩) hS.out (fun _ => hR.out) ?_
      simp only [jj]
      refine wpAnyF_ready (rs := [10]) (by kernel_rfl) (by simp) (AllReadyF.cons rfl (fun K hK => ?_) AllReadyF.nil)
      go_simp
      refine hK.out _ _ S7.out (notClean (by kernel_rfl)) (fun _ _ => ?_)
      clear hK K
      try simp only [Act.put]
      refine wpAnyF_done (by kernel_rfl) ?_ _
      generalize World.drew (World.setCell _ _ _) = Y1 at *
      clear hS hR S7 x6 f6 BD
      go_upto_region 14 with fail
      have RSR := hid (show V 7 = .slice (some ⟨gR, 0, none⟩) (p).ready.length (p).ready.length from ER.out)
      have hLR := B7.out.o.ready
      have hLR2 : ListT Y1 tg 9 13 22 3 1 (p).ready.length (.slice (some ⟨gR, 0, none⟩) (p).ready.length (p).ready.length) (ci (p).ready) := by rw [← ER.out]; exact hLR
      have FRZ := hid (fun X (h : Below Y1.heap.size Y1 X) => show X.frozen? ⟨gR, n, none⟩ = false from (hLR2.kp (T := fun _ => False) (.of_below h) (fun _ _ => rfl) (fun _ _ e => e)).fr n)
      have KS := hid (fun X (h : Below Y1.heap.size Y1 X) => show X.cell? ⟨wb, 7, none⟩ = some (.slice (some ⟨gR, 0, none⟩) (p).ready.length (p).ready.length) by rw [range_cell (B7.out.below h).r (k := 7) rfl, ER.out])
      obtain ⟨u1, cu1, -⟩ := hLR2.at HNL.out
      have KR := hid (fun X (h : Below Y1.heap.size Y1 X) => show X.cell? ⟨gR, n, none⟩ = some u1 from (h.cell (World.block_lt_of_cell? _ _ cu1)).trans cu1)
      have FIN := hid (fun X v (zz : List Int) (h : Below Y1.heap.size Y1 X) (ho : X.ownsRow Y1.heap.size 3 1 v zz.length (ints zz)) => show BoxT (X.setCell ⟨gR, n, none⟩ v) wb (tagN tg Y1.heap.size (13 + 3 * n)) V { p with cores := (p).cores.set c y, ready := (p).ready.set n zz } ∧ Kt tg (tagN tg Y1.heap.size (13 + 3 * n)) X0 (X.setCell ⟨gR, n, none⟩ v) from by
       obtain ⟨hp1, hp2⟩ := hLR2.put (tag' := tagN tg Y1.heap.size (13 + 3 * n)) (w1 := X) (u := v) (c := (zz.length, ints zz)) (j := n) HNL.out (fun j => by omega) (.of_below h) (fun k hk => tagN_lt hk) ⟨ho.mono (Nat.zero_le _), fun k e => by
        unfold tagN
        rw [if_neg (by have := (ho.lt k e).1; omega)]⟩
       refine ⟨B7.out.ready hp2 (fun k hk => tagN_lt hk) ?_, K7.out.trans (Kt.of (tag' := tagN tg Y1.heap.size (13 + 3 * n)) hp2 (fun k e => by rcases e with e | ⟨j, e⟩ <;> omega) (fun k hk => tagN_lt hk))⟩
       rw [List.length_set, ER.out, ci_set _ _ HNL.out]
       exact hp1)
      clear hLR hLR2 cu1
      obtain ⟨q1, hq1⟩ : ∃ q1, (if capu = i + 1 then (some ⟨gu, 0, none⟩ : Option Addr) else some ⟨gu, i + 1, none⟩) = q1 := ⟨_, rfl⟩
      have BD : Hid (Below Y1.heap.size Y1 Y1.drew) := hid (below_drew Y1 1)
      have hci : ¬ (capu < i) := by have := HCAP.out; omega
      have hci1 : ¬ ((l.length : Int) < (i : Int) + 1) := by omega
      have hci2 : (0 : Int) ≤ (i : Int) + 1 := by omega
      have htn : ((i : Int) + 1).toNat = i + 1 := by omega
      refine wp_region_held_drew (S := fun X => X.cell? ⟨wb, 7, none⟩ = some (.slice (some ⟨gR, 0, none⟩) (p).ready.length (p).ready.length)) (by kernel_rfl) (KS.out _ BD.out) (fun hH0 => ?_)
      have hH := hid hH0
      clear hH0
      refine tk 0 (.pointer (some ⟨wb, 0, none⟩)) rfl hH.out ?_
      simp only [jj]
      refine tk 1 (.pointer (some ⟨wb, 0, none⟩)) rfl hH.out ?_
      simp only [jj]
      refine tk 2 (.pointer (some ⟨wb, 7, none⟩)) rfl hH.out ?_
      simp only [jj]
      refine Mem.tg 3 (.slice (some ⟨gR, 0, none⟩) (p).ready.length (p).ready.length) rfl (Or.inl ⟨by rfl, fun W h => by have h3 := h; clear h; go_simp⟩) hH.out ?_
      simp only [jj]
      refine tk 4 (.int .i64 c) rfl hH.out ?_
      simp only [jj]
      refine Mem.tg 5 (.int .i64 (c * 4)) rfl (Or.inl ⟨by rfl, fun W h => by clear h; go_simp; exact wraps_i64 _ (by omega) (by omega)⟩) hH.out ?_
      simp only [jj]
      refine tk 6 (.int .i64 j) rfl hH.out ?_
      simp only [jj]
      refine Mem.tg 7 (.int .i64 n) rfl (Or.inl ⟨by rfl, fun W h => by clear h; go_simp; exact wraps_i64 _ (by omega) (by omega)⟩) hH.out ?_
      simp only [jj]
      refine tk 9 (.slice (some ⟨gu, 0, none⟩) l.length capu) rfl hH.out ?_
      simp only [jj]
      refine tk 10 (.int .i64 i) rfl hH.out ?_
      simp only [jj]
      refine tk 11 (.slice (some ⟨gu, 0, none⟩) i capu) rfl hH.out ?_
      simp only [jj]
      refine tk 13 (.slice (some ⟨gu, 0, none⟩) l.length capu) rfl hH.out ?_
      simp only [jj]
      refine tk 14 (.int .i64 i) rfl hH.out ?_
      simp only [jj]
      refine Mem.tg 15 (.int .i64 ((i : Int) + 1)) rfl (Or.inl ⟨by rfl, fun W h => by clear h; go_simp; exact wraps_i64 _ (by omega) (by omega)⟩) hH.out ?_
      simp only [jj]
      refine tk 16 (.slice q1 (l.length - (i + 1)) (capu - (i + 1))) rfl hH.out ?_
      simp only [jj]
      have HLT := hid (show (l.take i).length = i by rw [List.length_take]; omega)
      have HLD := hid (show (l.drop (i + 1)).length = l.length - (i + 1) by rw [List.length_drop])
      obtain ⟨o1, ho1, hcells⟩ : ∃ o1, q1 = some ⟨gu, o1, none⟩ ∧ ∀ j (hj : j < (l.drop (i + 1)).length), Y1.cell? ⟨gu, o1 + j, none⟩ = some (.int .i64 (l.drop (i + 1))[j]) := by
       by_cases hce : capu = i + 1
       ·exact ⟨0, by rw [← hq1, if_pos hce], fun j hj => by have := HCAP.out; rw [HLD.out] at hj; omega⟩
       ·exact ⟨i + 1, by rw [← hq1, if_neg hce], fun j hj => by
         rw [List.getElem_drop]
         exact C7.out (i + 1 + j) (by rw [HLD.out] at hj; omega)⟩
      have HCL := hid hcells
      have HIA := hid (show IntsIn Y1 (.slice (some ⟨gu, 0, none⟩) i capu) (l.take i) from ⟨some ⟨gu, 0, none⟩, gu, 0, capu, by rw [HLT.out], fun _ => rfl, fun j hj => by
       rw [List.getElem_take, Nat.zero_add]
       exact C7.out j (by rw [HLT.out] at hj; omega)⟩)
      subst ho1
      clear hq1 hcells
      have E8 := hid (show (Y1.alloc (.cells #[] 3)).drew.ownsRow Y1.heap.size 3 1 (.slice (some ⟨Y1.heap.size, 0, none⟩) 0 0) 0 [] from (World.ownsRow_made Y1 #[] 0 (Nat.le_refl _) (Nat.zero_le _) (by simp)))
      have BL8 := hid (show Below Y1.heap.size Y1 (Y1.alloc (.cells #[] 3)).drew from (bal (Below.refl _ Y1) (.cells #[] 3)).drew)
      refine wpAnyH_ready (rs := [8]) (by kernel_rfl) (by simp) (AllReadyH.cons rfl (fun K hK => ?_) AllReadyH.nil)
      go_simp
      refine hK.out _ _ (KS.out _ BL8.out) (fun _ => ?_)
      clear hK K
      try simp only [Act.put, jD, jE, jF]
      generalize World.drew (World.alloc _ _) = X5 at *
      obtain ⟨q2, c2, Z, hr, ho, hb, -⟩ := app_copy E8.out BL8.out.size (HIA.out.below BL8.out) (by rw [HLT.out]; have := HLL.out; omega)
      have HO2 := hid ho
      rw [HLT.out] at hr
      have HR2 := hid hr
      have BLZ := hid (show Below Y1.heap.size Y1 Z from BL8.out.trans hb)
      clear hr ho hb hH
      refine wpAnyH_ready (rs := [12]) (by kernel_rfl) (by simp) (AllReadyH.cons rfl (fun K hK => ?_) AllReadyH.nil)
      refine wp_app1 _ _ 22 rfl (.slice (some ⟨Y1.heap.size, 0, none⟩) 0 0) (.slice (some ⟨gu, 0, none⟩) i capu) (.slice q2 i c2) rfl rfl HR2.out ?_
      refine hK.out _ _ (KS.out _ BLZ.out) (fun _ => ?_)
      clear hK K
      simp only [jj]
      obtain ⟨q3, c3, Z2, hr, ho, hb⟩ := app_more (c := capu - (i + 1)) HO2.out BLZ.out.size (by rw [HLT.out]; have := HLL.out; omega) (ys := l.drop (i + 1)) (by rw [HLD.out]; have := HLL.out; omega) (fun j hj => (BLZ.out.cell (World.block_lt_of_cell? _ _ (HCL.out j hj))).trans (HCL.out j hj))
      rw [HLT.out, HLD.out] at hr
      have HR3 := hid hr
      rw [HLT.out, HLD.out] at ho
      have HO3 := hid ho
      have BLZ2 := hid (show Below Y1.heap.size Y1 Z2 from BLZ.out.trans hb)
      clear hr ho hb HR2 HO2
      refine wpAnyH_ready (rs := [17]) (by kernel_rfl) (by simp) (AllReadyH.cons rfl (fun K hK => ?_) AllReadyH.nil)
      refine wp_app1 _ _ 22 rfl (.slice q2 i c2) (.slice (some ⟨gu, o1, none⟩) (l.length - (i + 1)) (capu - (i + 1))) (.slice q3 (i + (l.length - (i + 1))) c3) rfl rfl HR3.out ?_
      refine hK.out _ _ (KS.out _ BLZ2.out) (fun _ => ?_)
      clear hK K
      simp only [jj]
      refine tk 18 (.pointer (some ⟨gR, n, none⟩)) rfl (KS.out _ BLZ2.out) ?_
      simp only [jj]
      have cgl := KR.out _ BLZ2.out
      have fgl := FRZ.out _ BLZ2.out
      obtain ⟨hb9, hk9⟩ := FIN.out Z2 _ _ BLZ2.out HO3.out
      have B9 := hid hb9
      have K9 := hid hk9
      have S9 := hid (show (Z2.setCell ⟨gR, n, none⟩ (.slice q3 (i + (l.length - (i + 1))) c3)).cell? ⟨wb, 7, none⟩ = some (.slice (some ⟨gR, 0, none⟩) (p).ready.length (p).ready.length) by rw [range_cell hb9.r (k := 7) rfl, ER.out])
      clear hb9 hk9
      refine wpAnyH_ready (rs := [19]) (by kernel_rfl) (by simp) (AllReadyH.cons rfl (fun K hK => ?_) AllReadyH.nil)
      go_simp
      refine hK.out _ _ S9.out (fun _ => ?_)
      clear hK K
      try simp only [Act.put]
      refine wpAnyH_done (by kernel_rfl) ?_ _
      generalize World.setCell _ _ _ = Z9 at *
      clear KS KR FRZ FIN S9 cgl fgl HR3 HO3 E8
      go_wp2_with fail
      exact bodyPost_ret (results_none rfl _ _ _) rfl ⟨rfl, _, by rw [HSL.out, HRR.out]; exact B9.out, K00.out.trans K9.out⟩
     ·have hzb : (z == m) = false := by simpa using hzm
      rw [hzb] at HDM
      go_upto_region 12 with fail
      go_quiet (first | (go_at_call 67; refine Calls.quiet_of (HTQ.out _ (HBW.out.below (below_drew wr _)))))
      have HN2 := hid (show Below wo.heap.size wo (wr.drewN nq) ∧ ∀ j (hj : j < l.length), j < i + 1 → dmB (p) m l[j] = false from ⟨btr BI.out (below_drewN (Below.refl wr.heap.size wr) nq), fun j hj h => by
       by_cases e : j = i
       ·subst e
        rw [HY.out]
        exact HDM.out
       ·exact HN.out j hj (by omega)⟩)
      clear ck c3 x19 CKS
      generalize World.drewN _ _ = Y0 at *
      go_wp2_with fail
      exact ⟨⟨i + 1, by omega, by go_num, HN2⟩, by simp [intOf]; omega⟩
    ·obtain rfl : i = l.length := by omega
     have hge : ¬ ((l.length : Int) < (l.length : Int)) := by omega
     have HXX := hid (show ixP (dmB (p) m) l = -1 by
      unfold ixP
      rw [if_neg]
      intro h
      have h2 := List.findIdx_getElem (w := h)
      have h3 := HN.out _ h h
      rw [h3] at h2
      cases h2)
     have HR := hid (show Below X0.heap.size X0 wr ∧ rnx (p) m c 4 = rnx (p) m c j from ⟨btr BB.out BI.out, by rw [HVJ.out, if_neg (by rw [HXX.out]; decide)]⟩)
     go_wp2_with fail
     exact ⟨⟨j, (j : Int) - 1, by omega, hid rfl, by go_num, HR⟩, by simp [intOf]⟩
  ·have hx0 : ¬ (0 ≤ x) := h0
   obtain rfl : k = 0 := by have := HX.out; omega
   have HR := hid (show rnx (p) m c 4 = p by rw [HV.out]; rfl)
   clear HX HV h0
   go_wp2_with fail
   exact bodyPost_end (results_none rfl _ _ _) rfl ⟨rfl, tg, by rw [HSL.out, HR.out]; exact B2.out.below BB.out, K00.out.trans (.below BB.out)⟩
set_option maxRecDepth 100000 in
set_option maxHeartbeats 8000000 in
theorem settled_stay (wb : Nat) (tag : Nat → Nat) (V : Nat → Value) (p : PW) (c t : Nat) (W : World) (bt : BoxT W wb tag V p) (hp : p.Fits) (hs : Snd p) (hc : c < p.cores.length) (ht : t < p.kinds.length) (hz : p.cores.getD c (-1) = t) (hdm : dmB p (tnV p) t = true) :
  Calls Tryz.prog 21 #[.pointer (some ⟨wb, 0, none⟩), .int .i64 c] W fun r W' => r = .returned (.tuple #[]) ∧ ∃ tag', BoxT W' wb tag' V (rlP p c) ∧ Kt tag tag' W W' := by
 have hl6 : (p.cores.length : Int) ≤ 1000 := by have := hp.cores; omega
 have hc2 : (c : Int) < (p.cores.length : Int) := by omega
 have hc3 : (c : Int) ≤ 1000 := by omega
 obtain ⟨g6, cap6, e6⟩ := bt.o.cores.form (by omega)
 have E6 := hid e6
 obtain ⟨m, hm⟩ : ∃ m, tnV p = m := ⟨_, rfl⟩
 have htl : t < p.tasks.length := by rw [hs.lf.tasks]; exact ht
 have htl2 : (t : Int) < (p.tasks.length : Int) := by omega
 have hl3 : (p.tasks.length : Int) ≤ 1000 := by have := hp.tasks; omega
 obtain ⟨g3, cap3, e3⟩ := bt.o.tasks.form (by omega)
 have HTM := hid (show 0 ≤ p.time ∧ p.time ≤ 1000000 by have h := hs.tm; unfold within at h; simpa using h)
 have HTQ := hid (fun Y (h : BoxT Y wb tag V p) => turn_quiet wb tag V p Y h hp hs.lf.d1 HTM.out)
 rw [hm] at HTQ
 have c6 : W.cell? ⟨wb, 6, none⟩ = some (.slice (some ⟨g6, 0, none⟩) p.cores.length cap6) := by rw [range_cell bt.r (k := 6) rfl, e6]
 have x6 : W.cell? ⟨g6, c, none⟩ = some (.int .i64 t) := by rw [(bt.coresAt e6 hc).1, hz]
 have c3 : W.cell? ⟨wb, 3, none⟩ = some (.slice (some ⟨g3, 0, none⟩) p.tasks.length cap3) := by rw [range_cell bt.r (k := 3) rfl, e3]
 have x19 := bt.taskAt e3 htl (show 19 < 20 by omega)
 have ht0 : (0 : Int) ≤ (t : Int) := by omega
 have B0 := hid bt
 have HSL := hid (show rlP p c = p by unfold rlP; rw [hz, if_neg (by omega), hdm, if_pos rfl])
 rw [hm] at hdm
 unfold dmB at hdm
 rw [Int.toNat_natCast] at hdm
 have hd2 := eq_of_beq hdm
 rw [hd2] at x19
 have HC0 := hid hc
 have HZ := hid hz
 clear bt hp hs hc hz hm e6 e3 hdm hd2 htl ht
 go_enter Tryz.func21, Tryz.ntmps21
 go_upto_region 1 with fail
 go_quiet (first | (go_at_call 67; refine Calls.quiet_of (HTQ.out _ (B0.out.below (below_drew W _)))))
 have B1 := hid (B0.out.below (below_drewN (Below.refl W.heap.size W) nq))
 have K1 := hid (show Kt tag tag W (W.drewN nq) from .below (below_drewN (Below.refl W.heap.size W) nq))
 clear B0 c6 x6 c3 x19 HTQ
 generalize World.drewN _ _ = w1 at *
 have c6 : w1.cell? ⟨wb, 6, none⟩ = some (.slice (some ⟨g6, 0, none⟩) p.cores.length cap6) := by rw [range_cell B1.out.r (k := 6) rfl, E6.out]
 have x6 : w1.cell? ⟨g6, c, none⟩ = some (.int .i64 t) := by rw [(B1.out.coresAt E6.out HC0.out).1, HZ.out]
 go_wp2_with fail
 exact bodyPost_ret (results_none rfl _ _ _) rfl ⟨rfl, tag, by rw [HSL.out]; exact B1.out, K1.out⟩
set_option maxRecDepth 100000 in
set_option maxHeartbeats 8000000 in
theorem settled_out (wb : Nat) (tag : Nat → Nat) (V : Nat → Value) (p : PW) (c t : Nat) (W : World) (bt : BoxT W wb tag V p) (hp : p.Fits) (hn : ∀ l ∈ p.ready, l.length ≤ 50) (hs : Snd p) (hc : c < p.cores.length) (ht : t < p.kinds.length) (hk : p.kinds[t] = 6) (hz : p.cores.getD c (-1) = t) (hdm : dmB p (tnV p) t = false) :
  Calls Tryz.prog 21 #[.pointer (some ⟨wb, 0, none⟩), .int .i64 c] W fun r W' => r = .returned (.tuple #[]) ∧ ∃ tag', BoxT W' wb tag' V (rlP p c) ∧ Kt tag tag' W W' := by
 have hl6 : (p.cores.length : Int) ≤ 1000 := by have := hp.cores; omega
 have hc2 : (c : Int) < (p.cores.length : Int) := by omega
 have hc3 : (c : Int) ≤ 1000 := by omega
 obtain ⟨g6, cap6, e6⟩ := bt.o.cores.form (by omega)
 have E6 := hid e6
 obtain ⟨m, hm⟩ : ∃ m, tnV p = m := ⟨_, rfl⟩
 have htl : t < p.tasks.length := by rw [hs.lf.tasks]; exact ht
 have htl2 : (t : Int) < (p.tasks.length : Int) := by omega
 have hl3 : (p.tasks.length : Int) ≤ 1000 := by have := hp.tasks; omega
 obtain ⟨g3, cap3, e3⟩ := bt.o.tasks.form (by omega)
 have HTM := hid (show 0 ≤ p.time ∧ p.time ≤ 1000000 by have h := hs.tm; unfold within at h; simpa using h)
 have HTQ := hid (fun Y (h : BoxT Y wb tag V p) => turn_quiet wb tag V p Y h hp hs.lf.d1 HTM.out)
 rw [hm] at HTQ
 have c6 : W.cell? ⟨wb, 6, none⟩ = some (.slice (some ⟨g6, 0, none⟩) p.cores.length cap6) := by rw [range_cell bt.r (k := 6) rfl, e6]
 have x6 : W.cell? ⟨g6, c, none⟩ = some (.int .i64 t) := by rw [(bt.coresAt e6 hc).1, hz]
 have c3 : W.cell? ⟨wb, 3, none⟩ = some (.slice (some ⟨g3, 0, none⟩) p.tasks.length cap3) := by rw [range_cell bt.r (k := 3) rfl, e3]
 have x19 := bt.taskAt e3 htl (show 19 < 20 by omega)
 have ht0 : (0 : Int) ≤ (t : Int) := by omega
 have B0 := hid bt
 obtain ⟨r1, r2, r3, r4⟩ := rdN_eq hs ht hk
 obtain ⟨q, hq⟩ : ∃ q, wnP { p with cores := p.cores.set c (-1) } t (rdN p t) = q := ⟨_, rfl⟩
 have HSL := hid (show rlP p c = rnx q m c 4 by unfold rlP; rw [hz, if_neg (by omega), hdm, if_neg (by decide), Int.toNat_natCast, hm, hq])
 rw [hm] at hdm
 unfold dmB at hdm
 rw [Int.toNat_natCast] at hdm
 have hd2 : ¬ (p.tasks.getD t bl 19 = m) := by simpa using hdm
 generalize p.tasks.getD t bl 19 = z at x19 hd2 hdm
 have HC0 := hid hc
 have hp0 : ({ p with cores := p.cores.set c (-1) } : PW).Fits := ⟨hp.ram, hp.kinds, hp.slots, hp.tasks, hp.lines, hp.line, hp.bits, by show (p.cores.set c (-1)).length ≤ 1000; rw [List.length_set]; exact hp.cores, hp.ready, hp.next, hp.tlbs, hp.doms⟩
 have HWK := hid (fun X (h : BoxT X wb tag V { p with cores := p.cores.set c (-1) }) => woken_ref wb tag V { p with cores := p.cores.set c (-1) } t (rdN p t) X h hp0 htl r1 r3 r4 r2)
 rw [hq] at HWK
 have HTL := hid (show q.tasks.length = p.tasks.length by rw [← hq]; show ((({ p with cores := p.cores.set c (-1) } : PW).task t 9 1).task t 14 (-1)).tasks.length = _; rw [PW.task_len, PW.task_len])
 have HRLn := hid (show q.ready.length = p.ready.length by rw [← hq]; show (p.ready.set _ _).length = _; rw [List.length_set])
 have HCL := hid (show q.cores.length = p.cores.length by rw [← hq]; show (p.cores.set _ _).length = _; rw [List.length_set])
 have HTV := hid (show tnV q = m by rw [← hq]; exact hm)
 have HM1 := hid (show q.cores.getD c (-1) = -1 by rw [← hq]; show (p.cores.set c (-1)).getD c (-1) = -1; rw [List.getD_eq_getElem?_getD, List.getElem?_set_self hc]; rfl)
 have HFQ := hid (show q.Fits by rw [← hq]; exact wn_fits hp0 hn t (rdN p t))
 have HRQ := hid (show c * 4 + 4 ≤ q.ready.length by rw [HRLn.out, hs.lf.ready]; omega)
 have HD1 := hid (show 1 ≤ q.doms.length by rw [← hq]; exact hs.lf.d1)
 have HTM := hid (show 0 ≤ q.time ∧ q.time ≤ 1000000 by rw [← hq]; exact HTM.out)
 have HEQ := hid (show V 6 = .slice (some ⟨g6, 0, none⟩) q.cores.length cap6 by rw [HCL.out]; exact e6)
 have HCQ := hid (show c < q.cores.length by rw [HCL.out]; exact hc)
 obtain ⟨gR, eR⟩ := bt.o.ready.form
 have ER := hid (show V 7 = .slice (some ⟨gR, 0, none⟩) q.ready.length q.ready.length by rw [HRLn.out]; exact eR)
 have hlr : (q.ready.length : Int) ≤ 1000 := by have := HFQ.out.ready; omega
 have hl3q : (q.tasks.length : Int) ≤ 1000 := by have := HFQ.out.tasks; omega
 have E3Q := hid (show V 3 = .slice (some ⟨g3, 0, none⟩) q.tasks.length cap3 by rw [HTL.out]; exact e3)
 have HLE := hid (fun (n : Nat) (hn : n < q.ready.length) => show (q.ready.getD n []).length ≤ 1000 by rw [List.getD_eq_getElem?_getD, List.getElem?_eq_getElem hn]; exact HFQ.out.next _ (List.getElem_mem hn))
 have HRI := hid (show ∀ l ∈ q.ready, ∀ z ∈ l, 0 ≤ z ∧ z < (q.tasks.length : Int) by
  rw [HTL.out, ← hq]
  intro l hl z h1
  have hl2 : l ∈ p.ready.set (rdN p t) (p.ready.getD (rdN p t) [] ++ [(t : Int)]) := hl
  rcases List.mem_or_eq_of_mem_set hl2 with h2 | rfl
  ·exact rd_in hs l h2 z h1
  ·rcases List.mem_append.1 h1 with h2 | h2
   ·rw [List.getD_eq_getElem?_getD] at h2
    cases e : p.ready[rdN p t]? with
    | none => rw [e] at h2; cases h2
    | some y =>
     rw [e, Option.getD_some] at h2
     exact rd_in hs y (List.mem_of_getElem? e) z h2
   ·rw [List.mem_singleton] at h2
    omega)
 have HZE := hid (fun (n : Nat) (hn : n < q.ready.length) => show ∀ z ∈ q.ready.getD n [], 0 ≤ z ∧ z < (q.tasks.length : Int) by rw [List.getD_eq_getElem?_getD, List.getElem?_eq_getElem hn]; exact HRI.out _ (List.getElem_mem hn))
 clear bt hp hs hc hz hm e6 e3 htl ht hk hn r1 r2 r3 r4 hp0 eR hq HTL HRLn HCL HRI
 go_enter Tryz.func21, Tryz.ntmps21
 go_upto_region 1 with fail
 go_quiet (first | (go_at_call 67; refine Calls.quiet_of (HTQ.out _ (B0.out.below (below_drew W _)))))
 have B1 := hid (B0.out.below (below_drewN (Below.refl W.heap.size W) nq))
 have K1 := hid (show Kt tag tag W (W.drewN nq) from .below (below_drewN (Below.refl W.heap.size W) nq))
 clear B0 c6 x6 c3 x19 HTQ
 generalize World.drewN _ _ = w1 at *
 have c6 : w1.cell? ⟨wb, 6, none⟩ = some (.slice (some ⟨g6, 0, none⟩) p.cores.length cap6) := by rw [range_cell B1.out.r (k := 6) rfl, E6.out]
 obtain ⟨x6, f6⟩ := B1.out.coresAt E6.out HC0.out
 obtain ⟨b2, k2⟩ := B1.out.coresCell E6.out c (-1)
 have B5 := hid b2
 have K5 := hid (K1.out.trans k2)
 clear b2 k2
 go_upto_region 3 with fail
 generalize World.setCell _ _ _ = w2 at *
 clear c6 x6 f6 B1 K1
 go_wp2_with fail
 refine (HWK.out _ B5.out).mono ?_
 rintro r w3 ⟨rfl, tg, h1, h2⟩
 have B2 := hid h1
 have K00 := hid (K5.out.trans h2)
 clear h1 h2 HWK B5 K5
 generalize hX0 : w3 = X0 at *
 clear hX0
 have HTQ := hid (fun Y (h : BoxT Y wb tg V (q)) => turn_quiet wb tg V (q) Y h HFQ.out HD1.out HTM.out)
 rw [HTV.out] at HTQ
 have c6 : X0.cell? ⟨wb, 6, none⟩ = some (.slice (some ⟨g6, 0, none⟩) p.cores.length cap6) := by rw [range_cell B2.out.r (k := 6) rfl, E6.out]
 have x6 : X0.cell? ⟨g6, c, none⟩ = some (.int .i64 (-1)) := by rw [(B2.out.coresAt HEQ.out HCQ.out).1, HM1.out]
 go_wp2_with fail
 clear c6 x6
 go_loopw [5] (fun i wr => ∃ (k : Nat) (x : Int), k ≤ 4 ∧ Hid (x = (k : Int) - 1) ∧ i = .int .i64 x ∧ Hid (Below X0.heap.size X0 wr ∧ rnx (q) m c 4 = rnx (q) m c k)) (fun i _ => (intOf i + 1).toNat)
 case atStart => exact ⟨4, 3, by omega, hid rfl, rfl, hid ⟨Below.refl _ _, rfl⟩⟩
 case round =>
  obtain ⟨k, x, hk, HX, rfl, HH⟩ := hrel
  have BB := hid HH.out.1
  have HV := hid HH.out.2
  clear HH
  by_cases h0 : 0 ≤ x
  ·obtain ⟨j, rfl⟩ : ∃ j : Nat, x = j := ⟨x.toNat, by omega⟩
   obtain rfl : k = j + 1 := by have := HX.out; omega
   obtain ⟨n, hn⟩ : ∃ n : Nat, c * 4 + j = n := ⟨_, rfl⟩
   have hcp : (c : Int) * 4 + (j : Int) = (n : Int) := by omega
   have hnl : n < (q).ready.length := by have := HRQ.out; omega
   have hn2 : (n : Int) < ((q).ready.length : Int) := by omega
   have HNL := hid hnl
   have HVJ := hid (show rnx (q) m c 4 = if 0 ≤ ixP (dmB (q) m) ((q).ready.getD n []) then { q with cores := (q).cores.set c (((q).ready.getD n []).getD (ixP (dmB (q) m) ((q).ready.getD n [])).toNat 0), ready := (q).ready.set n (((q).ready.getD n []).take (ixP (dmB (q) m) ((q).ready.getD n [])).toNat ++ ((q).ready.getD n []).drop ((ixP (dmB (q) m) ((q).ready.getD n [])).toNat + 1)) } else rnx (q) m c j by rw [HV.out, ← hn]; rfl)
   have hLR := (B2.out.below BB.out).o.ready
   rw [ER.out] at hLR
   obtain ⟨u, cu, hu⟩ := hLR.at hnl
   unfold ci at hu
   have HUT := hid hu.2
   have hui := own_ints hu.1
   obtain ⟨qu, gu, capu, rfl, hqu⟩ := hu.shape
   have HUI := hid hui
   have c7 : wr.cell? ⟨wb, 7, none⟩ = some (.slice (some ⟨gR, 0, none⟩) (q).ready.length (q).ready.length) := by rw [range_cell (B2.out.below BB.out).r (k := 7) rfl, ER.out]
   have hj4 : (j : Int) ≤ 3 := by omega
   have HLL := hid (HLE.out n hnl)
   have HLZ := hid (HZE.out n hnl)
   have HQ := hid hqu
   have HCAP := hid (show ((q).ready.getD n []).length ≤ capu by
    rcases hu.1.2 with ⟨h1, h2⟩ | ⟨_, _, _, h1, _, _, h2, _⟩
    ·simp only at h2; omega
    ·cases h1; exact h2)
   generalize hll : (q).ready.getD n [] = l at *
   have hl5 : (l.length : Int) ≤ 1000 := by have := HLL.out; omega
   clear hu hqu hui hLR hnl hn hll
   generalize wr = wo at *
   go_wp2_with fail
   clear c7 cu
   go_loopw [7] (fun i wr => ∃ (i' : Nat), i' ≤ l.length ∧ i = .int .i64 i' ∧ Hid (Below wo.heap.size wo wr ∧ ∀ j (hj : j < l.length), j < i' → dmB (q) m l[j] = false)) (fun i _ => l.length - (intOf i).toNat)
   case atStart => exact ⟨0, by omega, rfl, hid ⟨Below.refl _ _, fun j _ h => by omega⟩⟩
   case round =>
    obtain ⟨i, hi, rfl, HH⟩ := hrel
    have BI := hid HH.out.1
    have HN := hid HH.out.2
    clear HH
    by_cases hlt : i < l.length
    ·have hlt2 : (i : Int) < (l.length : Int) := by omega
     have hqe := HQ.out (by omega)
     subst hqe
     have HBW := hid ((B2.out.below BB.out).below BI.out)
     have CKS := hid (show ∀ j (hj : j < l.length), wr.cell? ⟨gu, j, none⟩ = some (.int .i64 l[j]) from fun j hj => by
      obtain ⟨q2, b2, o2, cap2, e2, hq2, hz2⟩ := HUI.out.below BI.out
      cases e2
      have h3 := hq2 (by omega)
      cases h3
      have := hz2 j hj
      rw [Nat.zero_add] at this
      exact this)
     have HMM := hid (HLZ.out _ (List.getElem_mem hlt))
     have ck := CKS.out i hlt
     obtain ⟨y, hy⟩ : ∃ y, l[i] = y := ⟨_, rfl⟩
     rw [hy] at ck HMM
     have HY := hid hy
     clear hy
     obtain ⟨y', hy'⟩ : ∃ y' : Nat, y = y' := ⟨y.toNat, by have := HMM.out.1; omega⟩
     subst hy'
     have hyt2 : (y' : Int) < ((q).tasks.length : Int) := HMM.out.2
     have c3 : wr.cell? ⟨wb, 3, none⟩ = some (.slice (some ⟨g3, 0, none⟩) (q).tasks.length cap3) := by rw [range_cell HBW.out.r (k := 3) rfl, E3Q.out]
     have x19 := HBW.out.taskAt E3Q.out (i := y') (by omega) (show 19 < 20 by omega)
     have HDM := hid (show dmB (q) m y' = ((q).tasks.getD y' bl 19 == m) by unfold dmB; rw [Int.toNat_natCast])
     generalize (q).tasks.getD y' bl 19 = z at x19 HDM
     by_cases hzm : z = m
     ·subst hzm
      rw [beq_self_eq_true] at HDM
      have HXX := hid (show ixP (dmB (q) z) l = i by
       have h1 : l.findIdx (dmB (q) z) = i := by
        rw [List.findIdx_eq hlt]
        exact ⟨by rw [HY.out]; exact HDM.out, fun j hj => HN.out j (by omega) hj⟩
       unfold ixP
       rw [h1, if_pos hlt])
      have HRR := hid (show rnx (q) z c 4 = { q with cores := (q).cores.set c y', ready := (q).ready.set n (l.take i ++ l.drop (i + 1)) } by
       rw [HVJ.out, HXX.out, if_pos (by omega), Int.toNat_natCast, List.getD_eq_getElem?_getD (l := l), List.getElem?_eq_getElem hlt, Option.getD_some, HY.out])
      go_upto_region 12 with fail
      go_quiet (first | (go_at_call 67; refine Calls.quiet_of (HTQ.out _ (HBW.out.below (below_drew wr _)))))
      have BY := hid (HBW.out.below (below_drewN (Below.refl wr.heap.size wr) nq))
      have KY := hid (show Kt tg tg X0 (wr.drewN nq) from .below (btr (btr BB.out BI.out) (below_drewN (Below.refl wr.heap.size wr) nq)))
      have ck0 : (wr.drewN nq).cell? ⟨gu, i, none⟩ = some (.int .i64 y') := ck
      have CKY := hid (show ∀ j (hj : j < l.length), (wr.drewN nq).cell? ⟨gu, j, none⟩ = some (.int .i64 l[j]) from fun j hj => CKS.out j hj)
      clear ck c3 x19 CKS
      have CKS := CKY
      generalize World.drewN _ _ = Y0 at *
      have HNE := hid (show gu ≠ g6 from fun e => by
       have h1 := HUT.out gu rfl
       have h2 := B2.out.o.cores
       rw [E6.out] at h2
       have h3 := h2.2 g6 rfl
       rw [e] at h1
       omega)
      clear HTQ CKY HXX HVJ HN
      obtain ⟨y, hyy⟩ : ∃ y : Int, (y' : Int) = y := ⟨_, rfl⟩
      rw [hyy] at ck0 HRR
      clear hyy HY HMM hyt2 HDM
      go_upto_region 13 with fail
      have c6 : Y0.cell? ⟨wb, 6, none⟩ = some (.slice (some ⟨g6, 0, none⟩) p.cores.length cap6) := by rw [range_cell BY.out.r (k := 6) rfl, E6.out]
      have BD : Hid (Below Y0.heap.size Y0 Y0.drew) := hid (below_drew Y0 1)
      obtain ⟨x6, f6⟩ := (BY.out.below BD.out).coresAt HEQ.out HCQ.out
      obtain ⟨b7, k7⟩ := (BY.out.below BD.out).coresCell HEQ.out c y
      have B7 := hid (show BoxT (Y0.setCell ⟨g6, c, none⟩ (.int .i64 y)).drew wb tg V { q with cores := (q).cores.set c y } from b7)
      have K7 := hid (show Kt tg tg X0 (Y0.setCell ⟨g6, c, none⟩ (.int .i64 y)).drew from (KY.out.trans (.below BD.out)).trans k7)
      have S7 := hid (show (Y0.setCell ⟨g6, c, none⟩ (.int .i64 y)).drew.cell? ⟨wb, 6, none⟩ = some (.slice (some ⟨g6, 0, none⟩) p.cores.length cap6) by rw [range_cell B7.out.r (k := 6) rfl, E6.out])
      have C7 := hid (show ∀ j (hj : j < l.length), (Y0.setCell ⟨g6, c, none⟩ (.int .i64 y)).drew.cell? ⟨gu, j, none⟩ = some (.int .i64 l[j]) from fun j hj => (World.cell?_setCell_far Y0 ⟨g6, c, none⟩ ⟨gu, j, none⟩ _ (fun e => HNE.out e.symm)).trans (CKS.out j hj))
      clear b7 k7
      refine wp_region_F (S := fun X => X.cell? ⟨wb, 6, none⟩ = some (.slice (some ⟨g6, 0, none⟩) p.cores.length cap6)) (R := fun X => X.cell? ⟨gu, i, none⟩ = some (.int .i64 y)) [10] (by kernel_rfl) c6 ck0 (fun hS0 hR0 => ?_)
      have hS := hid hS0
      have hR := hid hR0
      clear hS0 hR0 c6
      refine wpAnyF_take (i := 0) (v := .pointer (some ⟨wb, 0, none⟩)) rfl (by kernel_rfl) (by kernel_rfl) (by kernel_rfl) (by kernel_rfl) (fun _ _ _ h => h) (Or.inl ⟨by rfl, fun W h => by clear h; go_simp⟩) hS.out (fun _ => hR.out) ?_
      simp only [jj]
      refine wpAnyF_take (i := 1) (v := .pointer (some ⟨wb, 0, none⟩)) rfl (by kernel_rfl) (by kernel_rfl) (by kernel_rfl) (by kernel_rfl) (fun _ _ _ h => h) (Or.inl ⟨by rfl, fun W h => by clear h; go_simp⟩) hS.out (fun _ => hR.out) ?_
      simp only [jj]
      refine wpAnyF_take (i := 2) (v := .pointer (some ⟨wb, 6, none⟩)) rfl (by kernel_rfl) (by kernel_rfl) (by kernel_rfl) (by kernel_rfl) (fun _ _ _ h => h) (Or.inl ⟨by rfl, fun W h => by clear h; go_simp⟩) hS.out (fun _ => hR.out) ?_
      simp only [jj]
      refine wpAnyF_take (i := 3) (v := .slice (some ⟨g6, 0, none⟩) p.cores.length cap6) rfl (by kernel_rfl) (by kernel_rfl) (by kernel_rfl) (by kernel_rfl) (fun _ _ _ h => h) (Or.inl ⟨by rfl, fun W h => by have h3 := h; clear h; go_simp⟩) hS.out (fun _ => hR.out) ?_
      simp only [jj]
      refine wpAnyF_take (i := 4) (v := .int .i64 c) rfl (by kernel_rfl) (by kernel_rfl) (by kernel_rfl) (by kernel_rfl) (fun _ _ _ h => h) (Or.inl ⟨by rfl, fun W h => by clear h; go_simp⟩) hS.out (fun _ => hR.out) ?_
      simp only [jj]
      refine wpAnyF_take (i := 5) (v := .slice (some ⟨gu, 0, none⟩) l.length capu) rfl (by kernel_rfl) (by kernel_rfl) (by kernel_rfl) (by kernel_rfl) (fun _ _ _ h => h) (Or.inl ⟨by rfl, fun W h => by clear h; go_simp⟩) hS.out (fun _ => hR.out) ?_
      simp only [jj]
      refine wpAnyF_take (i := 6) (v := .int .i64 i) rfl (by kernel_rfl) (by kernel_rfl) (by kernel_rfl) (by kernel_rfl) (fun _ _ _ h => h) (Or.inl ⟨by rfl, fun W h => by clear h; go_simp⟩) hS.out (fun _ => hR.out) ?_
      simp only [jj]
      refine wpAnyF_take (i := 7) (v := .pointer (some ⟨gu, i, none⟩)) rfl (by kernel_rfl) (by kernel_rfl) (by kernel_rfl) (by kernel_rfl) (fun _ _ _ h => h) (Or.inl ⟨by rfl, fun W h => by clear h; go_simp⟩) hS.out (fun _ => hR.out) ?_
      simp only [jj]
      refine wpAnyF_takeR (i := 8) (v := .int .i64 y) rfl (by kernel_rfl) (by kernel_rfl) (by kernel_rfl) (by kernel_rfl) (by kernel_rfl) (by kernel_rfl) (fun _ _ _ h => h) (Or.inl ⟨by rfl, fun W h => by have h3 := h.2; clear h; go_simp⟩) hS.out (fun _ => hR.out) ?_
      simp only [jj]
      refine wpAnyF_take (i := 9) (v := .pointer (some ⟨g6, c, none⟩)) rfl (by kernel_rfl) (by kernel_rfl) (by kernel_rfl) (by kernel_rfl) (fun _ _ _ h => h) (Or.inl ⟨by rfl, fun W h => by clear h; go_simp⟩) hS.out (fun _ => hR.out) ?_
      simp only [jj]
      refine wpAnyF_ready (rs := [10]) (by kernel_rfl) (by simp) (AllReadyF.cons rfl (fun K hK => ?_) AllReadyF.nil)
      go_simp
      refine hK.out _ _ S7.out (notClean (by kernel_rfl)) (fun _ _ => ?_)
      clear hK K
      try simp only [Act.put]
      refine wpAnyF_done (by kernel_rfl) ?_ _
      generalize World.drew (World.setCell _ _ _) = Y1 at *
      clear hS hR S7 x6 f6 BD
      go_upto_region 14 with fail
      have RSR := hid (show V 7 = .slice (some ⟨gR, 0, none⟩) (q).ready.length (q).ready.length from ER.out)
      have hLR := B7.out.o.ready
      have hLR2 : ListT Y1 tg 9 13 22 3 1 (q).ready.length (.slice (some ⟨gR, 0, none⟩) (q).ready.length (q).ready.length) (ci (q).ready) := by rw [← ER.out]; exact hLR
      have FRZ := hid (fun X (h : Below Y1.heap.size Y1 X) => show X.frozen? ⟨gR, n, none⟩ = false from (hLR2.kp (T := fun _ => False) (.of_below h) (fun _ _ => rfl) (fun _ _ e => e)).fr n)
      have KS := hid (fun X (h : Below Y1.heap.size Y1 X) => show X.cell? ⟨wb, 7, none⟩ = some (.slice (some ⟨gR, 0, none⟩) (q).ready.length (q).ready.length) by rw [range_cell (B7.out.below h).r (k := 7) rfl, ER.out])
      obtain ⟨u1, cu1, -⟩ := hLR2.at HNL.out
      have KR := hid (fun X (h : Below Y1.heap.size Y1 X) => show X.cell? ⟨gR, n, none⟩ = some u1 from (h.cell (World.block_lt_of_cell? _ _ cu1)).trans cu1)
      have FIN := hid (fun X v (zz : List Int) (h : Below Y1.heap.size Y1 X) (ho : X.ownsRow Y1.heap.size 3 1 v zz.length (ints zz)) => show BoxT (X.setCell ⟨gR, n, none⟩ v) wb (tagN tg Y1.heap.size (13 + 3 * n)) V { q with cores := (q).cores.set c y, ready := (q).ready.set n zz } ∧ Kt tg (tagN tg Y1.heap.size (13 + 3 * n)) X0 (X.setCell ⟨gR, n, none⟩ v) from by
       obtain ⟨hp1, hp2⟩ := hLR2.put (tag' := tagN tg Y1.heap.size (13 + 3 * n)) (w1 := X) (u := v) (c := (zz.length, ints zz)) (j := n) HNL.out (fun j => by omega) (.of_below h) (fun k hk => tagN_lt hk) ⟨ho.mono (Nat.zero_le _), fun k e => by
        unfold tagN
        rw [if_neg (by have := (ho.lt k e).1; omega)]⟩
       refine ⟨B7.out.ready hp2 (fun k hk => tagN_lt hk) ?_, K7.out.trans (Kt.of (tag' := tagN tg Y1.heap.size (13 + 3 * n)) hp2 (fun k e => by rcases e with e | ⟨j, e⟩ <;> omega) (fun k hk => tagN_lt hk))⟩
       rw [List.length_set, ER.out, ci_set _ _ HNL.out]
       exact hp1)
      clear hLR hLR2 cu1
      obtain ⟨q1, hq1⟩ : ∃ q1, (if capu = i + 1 then (some ⟨gu, 0, none⟩ : Option Addr) else some ⟨gu, i + 1, none⟩) = q1 := ⟨_, rfl⟩
      have BD : Hid (Below Y1.heap.size Y1 Y1.drew) := hid (below_drew Y1 1)
      have hci : ¬ (capu < i) := by have := HCAP.out; omega
      have hci1 : ¬ ((l.length : Int) < (i : Int) + 1) := by omega
      have hci2 : (0 : Int) ≤ (i : Int) + 1 := by omega
      have htn : ((i : Int) + 1).toNat = i + 1 := by omega
      refine wp_region_held_drew (S := fun X => X.cell? ⟨wb, 7, none⟩ = some (.slice (some ⟨gR, 0, none⟩) (q).ready.length (q).ready.length)) (by kernel_rfl) (KS.out _ BD.out) (fun hH0 => ?_)
      have hH := hid hH0
      clear hH0
      refine tk 0 (.pointer (some ⟨wb, 0, none⟩)) rfl hH.out ?_
      simp only [jj]
      refine tk 1 (.pointer (some ⟨wb, 0, none⟩)) rfl hH.out ?_
      simp only [jj]
      refine tk 2 (.pointer (some ⟨wb, 7, none⟩)) rfl hH.out ?_
      simp only [jj]
      refine Mem.tg 3 (.slice (some ⟨gR, 0, none⟩) (q).ready.length (q).ready.length) rfl (Or.inl ⟨by rfl, fun W h => by have h3 := h; clear h; go_simp⟩) hH.out ?_
      simp only [jj]
      refine tk 4 (.int .i64 c) rfl hH.out ?_
      simp only [jj]
      refine Mem.tg 5 (.int .i64 (c * 4)) rfl (Or.inl ⟨by rfl, fun W h => by clear h; go_simp; exact wraps_i64 _ (by omega) (by omega)⟩) hH.out ?_
      simp only [jj]
      refine tk 6 (.int .i64 j) rfl hH.out ?_
      simp only [jj]
      refine Mem.tg 7 (.int .i64 n) rfl (Or.inl ⟨by rfl, fun W h => by clear h; go_simp; exact wraps_i64 _ (by omega) (by omega)⟩) hH.out ?_
      simp only [jj]
      refine tk 9 (.slice (some ⟨gu, 0, none⟩) l.length capu) rfl hH.out ?_
      simp only [jj]
      refine tk 10 (.int .i64 i) rfl hH.out ?_
      simp only [jj]
      refine tk 11 (.slice (some ⟨gu, 0, none⟩) i capu) rfl hH.out ?_
      simp only [jj]
      refine tk 13 (.slice (some ⟨gu, 0, none⟩) l.length capu) rfl hH.out ?_
      simp only [jj]
      refine tk 14 (.int .i64 i) rfl hH.out ?_
      simp only [jj]
      refine Mem.tg 15 (.int .i64 ((i : Int) + 1)) rfl (Or.inl ⟨by rfl, fun W h => by clear h; go_simp; exact wraps_i64 _ (by omega) (by omega)⟩) hH.out ?_
      simp only [jj]
      refine tk 16 (.slice q1 (l.length - (i + 1)) (capu - (i + 1))) rfl hH.out ?_
      simp only [jj]
      have HLT := hid (show (l.take i).length = i by rw [List.length_take]; omega)
      have HLD := hid (show (l.drop (i + 1)).length = l.length - (i + 1) by rw [List.length_drop])
      obtain ⟨o1, ho1, hcells⟩ : ∃ o1, q1 = some ⟨gu, o1, none⟩ ∧ ∀ j (hj : j < (l.drop (i + 1)).length), Y1.cell? ⟨gu, o1 + j, none⟩ = some (.int .i64 (l.drop (i + 1))[j]) := by
       by_cases hce : capu = i + 1
       ·exact ⟨0, by rw [← hq1, if_pos hce], fun j hj => by have := HCAP.out; rw [HLD.out] at hj; omega⟩
       ·exact ⟨i + 1, by rw [← hq1, if_neg hce], fun j hj => by
         rw [List.getElem_drop]
         exact C7.out (i + 1 + j) (by rw [HLD.out] at hj; omega)⟩
      have HCL := hid hcells
      have HIA := hid (show IntsIn Y1 (.slice (some ⟨gu, 0, none⟩) i capu) (l.take i) from ⟨some ⟨gu, 0, none⟩, gu, 0, capu, by rw [HLT.out], fun _ => rfl, fun j hj => by
       rw [List.getElem_take, Nat.zero_add]
       exact C7.out j (by rw [HLT.out] at hj; omega)⟩)
      subst ho1
      clear hq1 hcells
      have E8 := hid (show (Y1.alloc (.cells #[] 3)).drew.ownsRow Y1.heap.size 3 1 (.slice (some ⟨Y1.heap.size, 0, none⟩) 0 0) 0 [] from (World.ownsRow_made Y1 #[] 0 (Nat.le_refl _) (Nat.zero_le _) (by simp)))
      have BL8 := hid (show Below Y1.heap.size Y1 (Y1.alloc (.cells #[] 3)).drew from (bal (Below.refl _ Y1) (.cells #[] 3)).drew)
      refine wpAnyH_ready (rs := [8]) (by kernel_rfl) (by simp) (AllReadyH.cons rfl (fun K hK => ?_) AllReadyH.nil)
      go_simp
      refine hK.out _ _ (KS.out _ BL8.out) (fun _ => ?_)
      clear hK K
      try simp only [Act.put, jD, jE, jF]
      generalize World.drew (World.alloc _ _) = X5 at *
      obtain ⟨q2, c2, Z, hr, ho, hb, -⟩ := app_copy E8.out BL8.out.size (HIA.out.below BL8.out) (by rw [HLT.out]; have := HLL.out; omega)
      have HO2 := hid ho
      rw [HLT.out] at hr
      have HR2 := hid hr
      have BLZ := hid (show Below Y1.heap.size Y1 Z from BL8.out.trans hb)
      clear hr ho hb hH
      refine wpAnyH_ready (rs := [12]) (by kernel_rfl) (by simp) (AllReadyH.cons rfl (fun K hK => ?_) AllReadyH.nil)
      refine wp_app1 _ _ 22 rfl (.slice (some ⟨Y1.heap.size, 0, none⟩) 0 0) (.slice (some ⟨gu, 0, none⟩) i capu) (.slice q2 i c2) rfl rfl HR2.out ?_
      refine hK.out _ _ (KS.out _ BLZ.out) (fun _ => ?_)
      clear hK K
      simp only [jj]
      obtain ⟨q3, c3, Z2, hr, ho, hb⟩ := app_more (c := capu - (i + 1)) HO2.out BLZ.out.size (by rw [HLT.out]; have := HLL.out; omega) (ys := l.drop (i + 1)) (by rw [HLD.out]; have := HLL.out; omega) (fun j hj => (BLZ.out.cell (World.block_lt_of_cell? _ _ (HCL.out j hj))).trans (HCL.out j hj))
      rw [HLT.out, HLD.out] at hr
      have HR3 := hid hr
      rw [HLT.out, HLD.out] at ho
      have HO3 := hid ho
      have BLZ2 := hid (show Below Y1.heap.size Y1 Z2 from BLZ.out.trans hb)
      clear hr ho hb HR2 HO2
      refine wpAnyH_ready (rs := [17]) (by kernel_rfl) (by simp) (AllReadyH.cons rfl (fun K hK => ?_) AllReadyH.nil)
      refine wp_app1 _ _ 22 rfl (.slice q2 i c2) (.slice (some ⟨gu, o1, none⟩) (l.length - (i + 1)) (capu - (i + 1))) (.slice q3 (i + (l.length - (i + 1))) c3) rfl rfl HR3.out ?_
      refine hK.out _ _ (KS.out _ BLZ2.out) (fun _ => ?_)
      clear hK K
      simp only [jj]
      refine tk 18 (.pointer (some ⟨gR, n, none⟩)) rfl (KS.out _ BLZ2.out) ?_
      simp only [jj]
      have cgl := KR.out _ BLZ2.out
      have fgl := FRZ.out _ BLZ2.out
      obtain ⟨hb9, hk9⟩ := FIN.out Z2 _ _ BLZ2.out HO3.out
      have B9 := hid hb9
      have K9 := hid hk9
      have S9 := hid (show (Z2.setCell ⟨gR, n, none⟩ (.slice q3 (i + (l.length - (i + 1))) c3)).cell? ⟨wb, 7, none⟩ = some (.slice (some ⟨gR, 0, none⟩) (q).ready.length (q).ready.length) by rw [range_cell hb9.r (k := 7) rfl, ER.out])
      clear hb9 hk9
      refine wpAnyH_ready (rs := [19]) (by kernel_rfl) (by simp) (AllReadyH.cons rfl (fun K hK => ?_) AllReadyH.nil)
      go_simp
      refine hK.out _ _ S9.out (fun _ => ?_)
      clear hK K
      try simp only [Act.put]
      refine wpAnyH_done (by kernel_rfl) ?_ _
      generalize World.setCell _ _ _ = Z9 at *
      clear KS KR FRZ FIN S9 cgl fgl HR3 HO3 E8
      go_wp2_with fail
      exact bodyPost_ret (results_none rfl _ _ _) rfl ⟨rfl, _, by rw [HSL.out, HRR.out]; exact B9.out, K00.out.trans K9.out⟩
     ·have hzb : (z == m) = false := by simpa using hzm
      rw [hzb] at HDM
      go_upto_region 12 with fail
      go_quiet (first | (go_at_call 67; refine Calls.quiet_of (HTQ.out _ (HBW.out.below (below_drew wr _)))))
      have HN2 := hid (show Below wo.heap.size wo (wr.drewN nq) ∧ ∀ j (hj : j < l.length), j < i + 1 → dmB (q) m l[j] = false from ⟨btr BI.out (below_drewN (Below.refl wr.heap.size wr) nq), fun j hj h => by
       by_cases e : j = i
       ·subst e
        rw [HY.out]
        exact HDM.out
       ·exact HN.out j hj (by omega)⟩)
      clear ck c3 x19 CKS
      generalize World.drewN _ _ = Y0 at *
      go_wp2_with fail
      exact ⟨⟨i + 1, by omega, by go_num, HN2⟩, by simp [intOf]; omega⟩
    ·obtain rfl : i = l.length := by omega
     have hge : ¬ ((l.length : Int) < (l.length : Int)) := by omega
     have HXX := hid (show ixP (dmB (q) m) l = -1 by
      unfold ixP
      rw [if_neg]
      intro h
      have h2 := List.findIdx_getElem (w := h)
      have h3 := HN.out _ h h
      rw [h3] at h2
      cases h2)
     have HR := hid (show Below X0.heap.size X0 wr ∧ rnx (q) m c 4 = rnx (q) m c j from ⟨btr BB.out BI.out, by rw [HVJ.out, if_neg (by rw [HXX.out]; decide)]⟩)
     go_wp2_with fail
     exact ⟨⟨j, (j : Int) - 1, by omega, hid rfl, by go_num, HR⟩, by simp [intOf]⟩
  ·have hx0 : ¬ (0 ≤ x) := h0
   obtain rfl : k = 0 := by have := HX.out; omega
   have HR := hid (show rnx (q) m c 4 = q by rw [HV.out]; rfl)
   clear HX HV h0
   go_wp2_with fail
   exact bodyPost_end (results_none rfl _ _ _) rfl ⟨rfl, tg, by rw [HSL.out, HR.out]; exact B2.out.below BB.out, K00.out.trans (.below BB.out)⟩
end Go.Proofs.YtjjhodfekmpelaaGreatDoor.Wd
