/- sched.Pick and keyholdlaw.SchedPicks, walked. (Written by mk_pick8.py.) · keyholdlaw.SchedPicks, walked. (Written by mk_pick9.py.) -/
import Derived.Test.YtjjhodfekmpelaaGreatDoorPkY
import Derived.Deep.RegionHeld3
namespace Go.Proofs.YtjjhodfekmpelaaGreatDoor.Wd
open Go.RowKit Go.Proofs.YtjjhodfekmpelaaGreatDoor.Mem Go.Proofs.YtjjhodfekmpelaaGreatDoor.Bw Go.Proofs.YtjjhodfekmpelaaGreatDoor.Nums Go.Proofs.YtjjhodfekmpelaaGreatDoor.Mmu
theorem both1 {B : Nat} {a b : World} (h : Below B a b) (p : Addr) (u : Value) : Below B (a.setCell p u) (b.setCell p u) :=
 ⟨h.os, h.tape, h.output, by simp only [World.setCell, Array.size_modify]; exact h.size, fun k hk => by
  simp only [World.setCell, Array.getElem?_modify]
  rw [h.block k hk]⟩
theorem bothN {B : Nat} (b : Nat) : ∀ (vs : List Value) (o : Nat) {a c : World}, Below B a c → Below B (a.setCells b o vs) (c.setCells b o vs)
 | [], _, _, _, h => h
 | _ :: r, o, _, _, h => bothN b r (o + 1) (both1 h _ _)
theorem bothS {B : Nat} : ∀ (ws : List (Nat × Nat × List Value)) {a c : World}, Below B a c → Below B (sts a ws) (sts c ws)
 | [], _, _, h => h
 | x :: r, _, _, h => bothS r (bothN x.1 x.2.2 x.2.1 h)
theorem sts_size : ∀ (ws : List (Nat × Nat × List Value)) (W : World), (sts W ws).heap.size = W.heap.size
 | [], _ => rfl
 | x :: r, W => (sts_size r (W.setCells x.1 x.2.1 x.2.2)).trans (by rw [setCells_size])
theorem FarV.below {W W' : World} {lo : Nat} {V : Nat → Value} {p : PW} (h : FarV W lo V p) (hb : Below W.heap.size W W') : FarV W' lo V p := fun ws hw =>
 (h ws hw).below (by rw [sts_size]; exact bothS ws hb)
theorem cf_p1 (args : Array Value) (W : World) : (callFunc 64 args).run Tryz.prog W = .ok (.enter 64 args) W := by
 go_simp
theorem cf_p2 (args : Array Value) (W : World) : (callFunc 20 args).run Tryz.prog W = .ok (.enter 20 args) W := by
 go_simp
def pkV (p : PW) (a : Int) : Int := if dE p (pkE p a) = 0 then (slP p a.toNat).cores.getD a.toNat 0 else 0
theorem sl_cores (p : PW) (c : Nat) : (slP p c).cores.length = p.cores.length := by
 have h1 : ∀ (q : PW) (m : Int), (snx q m c).cores.length = q.cores.length := by
  intro q m
  unfold snx
  split
  ·rfl
  ·show ((q.cores.map (noT _)).set c _).length = _
   rw [List.length_set, List.length_map]
 unfold slP
 split
 ·exact h1 _ _
 ·split
  ·rfl
  ·rw [h1]
   show (p.cores.map (noT _)).length = _
   rw [List.length_map]
set_option maxRecDepth 100000 in
set_option maxHeartbeats 4000000 in
theorem pick_any (V : Nat → Value) (p : PW) (a : Int) (w : World) (hv : WorldV w V p) (hp : p.Fits) (hn : ∀ l ∈ p.ready, l.length ≤ 50) :
  Calls Tryz.prog 19 #[.agg (arr11 V), .int .i64 a] w fun x w' => ∃ X, x = .returned (.tuple #[.agg (arr11 X), .int .i64 (pkV p a), eV (dE p (pkE p a))]) ∧ WorldV w' X (dP p (slP p a.toNat) (pkE p a)) ∧ Below w.heap.size w w' := by
 have RG0 := boxed w V 28
 have RG1 := range_below RG0 (bal (Below.refl _ (w.alloc (.cells (arr11 V) 28))) (.cells #[.int .i64 a] 3))
 have RG2 := range_below RG1 (bal (Below.refl _ ((w.alloc (.cells (arr11 V) 28)).alloc (.cells #[.int .i64 a] 3))) (.cells #[.slice none 0 0, .slice none 0 0, .slice none 0 0, .slice none 0 0, .slice none 0 0, .slice none 0 0, .slice none 0 0, .slice none 0 0, .slice none 0 0, .slice none 0 0, .int .i64 0] 28))
 have RG := hid RG2
 have B0 := hid (bal (bal (bal (Below.refl w.heap.size w) (.cells (arr11 V) 28)) (.cells #[.int .i64 a] 3)) (.cells #[.slice none 0 0, .slice none 0 0, .slice none 0 0, .slice none 0 0, .slice none 0 0, .slice none 0 0, .slice none 0 0, .slice none 0 0, .slice none 0 0, .slice none 0 0, .int .i64 0] 28))
 have y1 := (cells_alloc (cells_at (w.alloc (.cells (arr11 V) 28)) #[.int .i64 a] 3 (w.heap.size + 1) (by simp)) (by simp) (.cells #[.slice none 0 0, .slice none 0 0, .slice none 0 0, .slice none 0 0, .slice none 0 0, .slice none 0 0, .slice none 0 0, .slice none 0 0, .slice none 0 0, .slice none 0 0, .int .i64 0] 28)) 0
 have HC := hid (show Caps [((w.heap.size + 1), .int .i64 a)] (((w.alloc (.cells (arr11 V) 28)).alloc (.cells #[.int .i64 a] 3)).alloc (.cells #[.slice none 0 0, .slice none 0 0, .slice none 0 0, .slice none 0 0, .slice none 0 0, .slice none 0 0, .slice none 0 0, .slice none 0 0, .slice none 0 0, .slice none 0 0, .int .i64 0] 28)) from fun x hx => by
  simp only [List.mem_cons, List.not_mem_nil, or_false] at hx
  subst hx
  exact y1)
 have SZ := hid (show (((w.alloc (.cells (arr11 V) 28)).alloc (.cells #[.int .i64 a] 3)).alloc (.cells #[.slice none 0 0, .slice none 0 0, .slice none 0 0, .slice none 0 0, .slice none 0 0, .slice none 0 0, .slice none 0 0, .slice none 0 0, .slice none 0 0, .slice none 0 0, .int .i64 0] 28)).heap.size = w.heap.size + 3 by simp)
 have TR := hid (there_new ((w.alloc (.cells (arr11 V) 28)).alloc (.cells #[.int .i64 a] 3)) #[.slice none 0 0, .slice none 0 0, .slice none 0 0, .slice none 0 0, .slice none 0 0, .slice none 0 0, .slice none 0 0, .slice none 0 0, .slice none 0 0, .slice none 0 0, .int .i64 0] 28 (w.heap.size + 2) 11 (by simp) (by decide))
 clear RG0 RG1 RG2
 have HL := hid (tlbs_le hv.tlbs)
 have HD := hid (do_far 64 #[ptr (w.heap.size + 1)] (Caps [((w.heap.size + 1), .int .i64 a)]) V p (slP p a.toNat) (pkE p a) (((w.alloc (.cells (arr11 V) 28)).alloc (.cells #[.int .i64 a] 3)).alloc (.cells #[.slice none 0 0, .slice none 0 0, .slice none 0 0, .slice none 0 0, .slice none 0 0, .slice none 0 0, .slice none 0 0, .slice none 0 0, .slice none 0 0, .slice none 0 0, .int .i64 0] 28)) (hv.below B0.out) hp cf_p1 (fun X h => HC.out.below h) (fun h => (pick_deed _ a p hp hn h).caps (by rw [sl_tlbs]; exact HL.out)))
 unfold ptr at HD
 have HSN := hid (fun (h : sndB p = true) => (snd_of h).lf.c1)
 by_cases hde : dE p (pkE p a) = 0
 rotate_left
 ·have HPK := hid (show pkV p a = 0 from if_neg hde)
  have HDP := hid (show dP p (slP p a.toNat) (pkE p a) = noP from if_neg hde)
  rw [eV_n hde] at HD ⊢
  rw [HPK.out, HDP.out]
  rw [HDP.out] at HD
  have hne := hid hde
  generalize dE p (pkE p a) = de at HD hne ⊢
  clear hv hp hn HL y1 hde HPK HDP HSN
  go_enter Tryz.func19, Tryz.ntmps19
  go_wp2_with (first | ((with_reducible (show wpList _ _ _ (⟨_, Op.load 28 _, _, _, _, _⟩ :: _) _ _)); refine wp_ldWg (by rfl) _ rfl _ rfl V RG.out ?_))
  generalize World.alloc _ _ = W0 at *
  refine HD.out.mono ?_
  rintro q0 w1 ⟨X, rfl, hF, hb⟩
  have D1 := hid (show w.heap.size + 3 ≤ w1.heap.size by have := hb.size; rw [SZ.out] at this; exact this)
  have T1 := hid (there_belowO TR.out hb)
  have C1 := hid (HC.out.below hb)
  have hX := hF.v0
  have TN := hid (there_new w1 #[.slice none 0 0, .slice none 0 0, .slice none 0 0, .slice none 0 0, .slice none 0 0, .slice none 0 0, .slice none 0 0, .slice none 0 0, .slice none 0 0, .slice none 0 0, .int .i64 0] 28 w1.heap.size 11 rfl (by decide))
  have one := hid (world_one hX)
  have D3 := hid (show Below w1.heap.size w1 ((w1.alloc (.cells #[.slice none 0 0, .slice none 0 0, .slice none 0 0, .slice none 0 0, .slice none 0 0, .slice none 0 0, .slice none 0 0, .slice none 0 0, .slice none 0 0, .slice none 0 0, .int .i64 0] 28)).setCells w1.heap.size 0 (arr11 X).toList) from below_setCells (bal (Below.refl _ w1) (.cells #[.slice none 0 0, .slice none 0 0, .slice none 0 0, .slice none 0 0, .slice none 0 0, .slice none 0 0, .slice none 0 0, .slice none 0 0, .slice none 0 0, .slice none 0 0, .int .i64 0] 28)) (Nat.le_refl _) _ 0)
  have RX := hid (World.rangeAt_setCells_same (w1.alloc (.cells #[.slice none 0 0, .slice none 0 0, .slice none 0 0, .slice none 0 0, .slice none 0 0, .slice none 0 0, .slice none 0 0, .slice none 0 0, .slice none 0 0, .slice none 0 0, .int .i64 0] 28)) w1.heap.size 0 (arr11 X).toList TN.out)
  have WX := hid (hX.below D3.out)
  have FX := hid ((hF.below D3.out).mono (show w.heap.size + 3 ≤ _ by rw [SZ.out]; exact Nat.le_refl _))
  have B3 := hid (btr (btr B0.out hb) D3.out)
  clear hX hF hb HD
  go_upto_region 2 with (first | ((with_reducible (show wpList _ _ _ (⟨_, Op.store 28 _ _, _, _, _, _⟩ :: _) _ _)); refine wpList_store_mid rfl 28 _ _ rfl w1.heap.size 0 (arr11 X) rfl rfl TN.out infoW one.out ?_))
  generalize World.setCells _ _ _ _ = W3 at *
  have T2 := hid (there_belowO T1.out D3.out)
  have zo := hid (world_one (zero_world w1))
  have RZ := hid (World.rangeAt_setCells_same W3 (w.heap.size + 2) 0 (arr11 zeroV).toList T2.out)
  have BZ := hid (below_setCells B3.out (show w.heap.size ≤ w.heap.size + 2 by omega) (arr11 zeroV).toList 0)
  clear TN one D3 T1 RX WX FX C1 D1
  go_wp2_with (first | ((with_reducible (show wpList _ _ _ (⟨_, Op.store 28 _ _, _, _, _, _⟩ :: _) _ _)); refine wpList_store_mid rfl 28 _ _ rfl (w.heap.size + 2) 0 (arr11 zeroV) rfl rfl T2.out infoW zo.out ?_))
  exact bodyPost_ret (v := .tuple #[.agg (arr11 zeroV), .int .i64 0, .iface 35 (.int .i64 de)]) (results_c3 rfl rfl (run_loadVar_mid _ (w.heap.size + 2) 0 28 (arr11 zeroV).toList _ RZ.out Tryz.underlying28 rfl infoW) rfl rfl) rfl ⟨zeroV, rfl, zero_world _, BZ.out⟩
 have hsb : sndB p = true := by
  unfold dE at hde
  cases h : sndB p with
  | true => rfl
  | false => rw [h] at hde; cases hde
 have hpe : pkE p a = 0 := by rw [dE_eq hsb] at hde; exact hde
 have hwi : within 0 ((p.cores.length : Int) - 1) a = true := by
  unfold pkE at hpe
  cases h : within 0 ((p.cores.length : Int) - 1) a with
  | true => rfl
  | false => rw [h] at hpe; cases hpe
 obtain ⟨n, rfl, hnl⟩ := within_in hwi
 have HPK := hid (show pkV p n = (slP p n).cores.getD n 0 by unfold pkV; rw [if_pos hde, Int.toNat_natCast])
 have HDP := hid (show dP p (slP p (n : Int).toNat) (pkE p n) = slP p n by unfold dP; rw [if_pos hde, Int.toNat_natCast])
 rw [HDP.out] at HD ⊢
 rw [hde, eV_0] at HD ⊢
 rw [HPK.out]
 have hnl2 : n < (slP p n).cores.length := by rw [sl_cores]; exact hnl
 have hcl : ((slP p n).cores.length : Int) ≤ 1000 := by rw [sl_cores]; have := hp.cores; omega
 have HNL := hid hnl2
 have hn3 : (n : Int) < ((slP p n).cores.length : Int) := by omega
 clear hv hp hn HL y1 hde hsb hpe hwi hnl HSN HPK HDP
 generalize slP p n = q at *
 go_enter Tryz.func19, Tryz.ntmps19
 go_wp2_with (first | ((with_reducible (show wpList _ _ _ (⟨_, Op.load 28 _, _, _, _, _⟩ :: _) _ _)); refine wp_ldWg (by rfl) _ rfl _ rfl V RG.out ?_))
 generalize World.alloc _ _ = W0 at *
 refine HD.out.mono ?_
 rintro q0 w1 ⟨X, rfl, hF, hb⟩
 have D1 := hid (show w.heap.size + 3 ≤ w1.heap.size by have := hb.size; rw [SZ.out] at this; exact this)
 have T1 := hid (there_belowO TR.out hb)
 have C1 := hid (HC.out.below hb)
 have hX := hF.v0
 have TN := hid (there_new w1 #[.slice none 0 0, .slice none 0 0, .slice none 0 0, .slice none 0 0, .slice none 0 0, .slice none 0 0, .slice none 0 0, .slice none 0 0, .slice none 0 0, .slice none 0 0, .int .i64 0] 28 w1.heap.size 11 rfl (by decide))
 have one := hid (world_one hX)
 have D3 := hid (show Below w1.heap.size w1 ((w1.alloc (.cells #[.slice none 0 0, .slice none 0 0, .slice none 0 0, .slice none 0 0, .slice none 0 0, .slice none 0 0, .slice none 0 0, .slice none 0 0, .slice none 0 0, .slice none 0 0, .int .i64 0] 28)).setCells w1.heap.size 0 (arr11 X).toList) from below_setCells (bal (Below.refl _ w1) (.cells #[.slice none 0 0, .slice none 0 0, .slice none 0 0, .slice none 0 0, .slice none 0 0, .slice none 0 0, .slice none 0 0, .slice none 0 0, .slice none 0 0, .slice none 0 0, .int .i64 0] 28)) (Nat.le_refl _) _ 0)
 have RX := hid (World.rangeAt_setCells_same (w1.alloc (.cells #[.slice none 0 0, .slice none 0 0, .slice none 0 0, .slice none 0 0, .slice none 0 0, .slice none 0 0, .slice none 0 0, .slice none 0 0, .slice none 0 0, .slice none 0 0, .int .i64 0] 28)) w1.heap.size 0 (arr11 X).toList TN.out)
 have WX := hid (hX.below D3.out)
 have FX := hid ((hF.below D3.out).mono (show w.heap.size + 3 ≤ _ by rw [SZ.out]; exact Nat.le_refl _))
 have B3 := hid (btr (btr B0.out hb) D3.out)
 clear hX hF hb HD
 go_upto_region 2 with (first | ((with_reducible (show wpList _ _ _ (⟨_, Op.store 28 _ _, _, _, _, _⟩ :: _) _ _)); refine wpList_store_mid rfl 28 _ _ rfl w1.heap.size 0 (arr11 X) rfl rfl TN.out infoW one.out ?_))
 generalize World.setCells _ _ _ _ = W3 at *
 have T2 := hid (there_belowO T1.out D3.out)
 have C3 := hid ((C1.out.below D3.out) ((w.heap.size + 1), .int .i64 n) (by simp))
 have HXB0 := hid (show w.heap.size + 3 ≤ w1.heap.size from D1.out)
 generalize hxb : w1.heap.size = xb at *
 have HXB := HXB0
 clear HXB0 D1
 clear TN one D3 T1 hxb C1
 go_upto_region 4 with fail
 obtain ⟨qx, bx, ox, capx, ex, hqx, hzx⟩ := WX.out.cores
 have hqe := hqx (by omega)
 subst hqe
 have cy0 := hzx n hnl2
 obtain ⟨y, hy⟩ : ∃ y, q.cores.getD n 0 = y := ⟨_, rfl⟩
 have cy : W3.cell? ⟨bx, ox + n, none⟩ = some (.int .i64 y) := by
  rw [← hy, List.getD_eq_getElem?_getD, List.getElem?_eq_getElem hnl2]
  exact cy0
 have HYY := hid hy
 clear cy0
 have cx6 : W3.cell? ⟨xb, 6, none⟩ = some (.slice (some ⟨bx, ox, none⟩) q.cores.length capx) := by rw [range_cell RX.out (k := 6) rfl, ex]
 have BD : Hid (Below W3.heap.size W3 W3.drew) := hid (below_drew W3 1)
 have RD := hid (show W3.drew.cell? ⟨xb, 6, none⟩ = some (.slice (some ⟨bx, ox, none⟩) q.cores.length capx) ∧ W3.drew.cell? ⟨w.heap.size + 1, 0, none⟩ = some (.int .i64 n) ∧ W3.drew.cell? ⟨bx, ox + n, none⟩ = some (.int .i64 y) from ⟨cx6, C3.out, cy⟩)
 have RR := hid (range_below RX.out BD.out)
 have T3 := hid (there_belowO T2.out BD.out)
 have one := hid (world_one WX.out)
 have RZ := hid (World.rangeAt_setCells_same W3.drew (w.heap.size + 2) 0 (arr11 X).toList T3.out)
 have BZ := hid (below_setCells (btr B3.out BD.out) (show w.heap.size ≤ w.heap.size + 2 by omega) (arr11 X).toList 0)
 have FZ := hid ((FX.out.below BD.out).put (w.heap.size + 2) 0 (arr11 X).toList (by omega)).v0
 have HYZ := hid (show q.cores[n]'hnl2 = y by rw [← HYY.out, List.getD_eq_getElem?_getD, List.getElem?_eq_getElem hnl2]; rfl)
 have SZ4 := hid (show (W3.drew.setCells (w.heap.size + 2) 0 (arr11 X).toList).cell? ⟨xb, 6, none⟩ = some (.slice (some ⟨bx, ox, none⟩) q.cores.length capx) ∧ (W3.drew.setCells (w.heap.size + 2) 0 (arr11 X).toList).cell? ⟨w.heap.size + 1, 0, none⟩ = some (.int .i64 n) ∧ (W3.drew.setCells (w.heap.size + 2) 0 (arr11 X).toList).cell? ⟨bx, ox + n, none⟩ = some (.int .i64 y) from ⟨(cell_setCells (by have := HXB.out; omega) _ 0).trans RD.out.1, (cell_setCells (by omega) _ 0).trans RD.out.2.1, by
  obtain ⟨q5, b5, o5, c5, e5, hq5, hz5⟩ := FZ.out.cores
  rw [ex] at e5
  cases e5
  have h5 := hq5 (by omega)
  cases h5
  have := hz5 n hnl2
  rw [HYZ.out] at this
  exact this⟩)
 clear cx6 cy hzx hqx hy BD T2 C3 HYY
 refine wp_region_F (S := fun Y => Y.cell? ⟨xb, 6, none⟩ = some (.slice (some ⟨bx, ox, none⟩) q.cores.length capx) ∧ Y.cell? ⟨w.heap.size + 1, 0, none⟩ = some (.int .i64 n) ∧ Y.cell? ⟨bx, ox + n, none⟩ = some (.int .i64 y)) (R := fun Y => Y.rangeAt xb 0 (arr11 X).toList) [6] (by kernel_rfl) RD.out RR.out (fun hS0 hR0 => ?_)
 have hS := hid hS0
 have hR := hid hR0
 clear hS0 hR0 RD RR
 refine wpAnyF_takeR (i := 0) (v := .agg (arr11 X)) rfl (by kernel_rfl) (by kernel_rfl) (by kernel_rfl) (by kernel_rfl) (by kernel_rfl) (by kernel_rfl) (fun _ _ _ h => h) (yieldsIf_load_mid (by rfl) _ _ rfl _ _ rfl ((arr11 X).toList) _ (fun _ h => h.2) Tryz.underlying28 rfl infoW) hS.out (fun _ => hR.out) ?_
 simp only [jj]
 refine wpAnyF_take (i := 1) (v := .pointer (some ⟨xb, 6, none⟩)) rfl (by kernel_rfl) (by kernel_rfl) (by kernel_rfl) (by kernel_rfl) (fun _ _ _ h => h) (Or.inl ⟨by rfl, fun W h => by clear h; go_simp⟩) hS.out (fun _ => hR.out) ?_
 simp only [jj]
 refine wpAnyF_take (i := 2) (v := .slice (some ⟨bx, ox, none⟩) q.cores.length capx) rfl (by kernel_rfl) (by kernel_rfl) (by kernel_rfl) (by kernel_rfl) (fun _ _ _ h => h) (Or.inl ⟨by rfl, fun W h => by have h3 := h.1; clear h; go_simp⟩) hS.out (fun _ => hR.out) ?_
 simp only [jj]
 refine wpAnyF_take (i := 3) (v := .int .i64 n) rfl (by kernel_rfl) (by kernel_rfl) (by kernel_rfl) (by kernel_rfl) (fun _ _ _ h => h) (Or.inl ⟨by rfl, fun W h => by have h3 := h.2.1; clear h; go_simp⟩) hS.out (fun _ => hR.out) ?_
 simp only [jj]
 refine wpAnyF_take (i := 4) (v := .pointer (some ⟨bx, ox + n, none⟩)) rfl (by kernel_rfl) (by kernel_rfl) (by kernel_rfl) (by kernel_rfl) (fun _ _ _ h => h) (Or.inl ⟨by rfl, fun W h => by clear h; go_simp⟩) hS.out (fun _ => hR.out) ?_
 simp only [jj]
 refine wpAnyF_take (i := 5) (v := .int .i64 y) rfl (by kernel_rfl) (by kernel_rfl) (by kernel_rfl) (by kernel_rfl) (fun _ _ _ h => h) (Or.inl ⟨by rfl, fun W h => by have h3 := h.2.2; clear h; go_simp⟩) hS.out (fun _ => hR.out) ?_
 simp only [jj]
 refine wpAnyF_ready (rs := [6]) (by kernel_rfl) (by simp) (AllReadyF.cons rfl (fun K hK => ?_) AllReadyF.nil)
 refine wp_store_mid 28 _ _ rfl (w.heap.size + 2) 0 (arr11 X) rfl rfl T3.out infoW one.out ?_
 generalize World.setCells _ _ _ _ = W4 at *
 refine hK.out _ _ SZ4.out (notClean (by kernel_rfl)) (fun _ _ => ?_)
 clear hK K
 try simp only [Act.put]
 refine wpAnyF_take (i := 7) (v := .int .i64 y) rfl (by kernel_rfl) (by kernel_rfl) (by kernel_rfl) (by kernel_rfl) (fun _ _ _ h => h) (Or.inl ⟨by rfl, fun W h => by clear h; go_simp⟩) SZ4.out (notClean (by kernel_rfl)) ?_
 simp only [jj]
 refine wpAnyF_take (i := 8) (v := .nilIface) rfl (by kernel_rfl) (by kernel_rfl) (by kernel_rfl) (by kernel_rfl) (fun _ _ _ h => h) (Or.inl ⟨by rfl, fun W h => by clear h; go_simp⟩) SZ4.out (notClean (by kernel_rfl)) ?_
 simp only [jj]
 refine wpAnyF_done (by kernel_rfl) ?_ _
 clear hS hR
 go_wp2_with fail
 exact bodyPost_ret (v := .tuple #[.agg (arr11 X), .int .i64 y, .nilIface]) (results_c3 rfl rfl (run_loadVar_mid _ (w.heap.size + 2) 0 28 (arr11 X).toList _ RZ.out Tryz.underlying28 rfl infoW) rfl rfl) rfl ⟨X, congrArg (fun z => Ending.returned (.tuple #[.agg (arr11 X), .int .i64 z, .nilIface])) HYZ.out.symm, FZ.out, BZ.out⟩
theorem snx_fits {q : PW} (h : q.Fits) (m : Int) (c : Nat) : (snx q m c).Fits := by
 unfold snx
 split
 ·exact h
 ·have h1 := lv_fits h (nxR q m c 4).toNat
  exact ⟨h1.ram, h1.kinds, h1.slots, h1.tasks, h1.lines, h1.line, h1.bits, by
   show ((lvP q (nxR q m c 4).toNat).cores.set c _).length ≤ 1000
   rw [List.length_set]
   exact h1.cores, h1.ready, h1.next, h1.tlbs, h1.doms⟩
theorem sl_fits {p : PW} (h : p.Fits) (hn : ∀ l ∈ p.ready, l.length ≤ 50) (c : Nat) : (slP p c).Fits := by
 unfold slP
 split
 ·exact snx_fits h _ _
 ·split
  ·exact h
  ·exact snx_fits (wk_fits h hn _ _) _ _
set_option maxRecDepth 100000 in
set_option maxHeartbeats 8000000 in
theorem schedPicks_any (V : Nat → Value) (p : PW) (a : Int) (w : World) (hv : WorldR w V p) (hg : ETok w) :
  Calls Tryz.prog 4 #[.agg (arr11 V), .int .i64 a] w fun x w' => x = .returned (.bool true) ∧ Below w.heap.size w w' := by
 have RG0 := boxed w V 28
 have RG1 := range_below RG0 (bal (Below.refl _ (w.alloc (.cells (arr11 V) 28))) (.cells #[.int .i64 a] 3))
 have RG := hid RG1
 have B0 := hid (bal (bal (Below.refl w.heap.size w) (.cells (arr11 V) 28)) (.cells #[.int .i64 a] 3))
 have y1 := (cells_at (w.alloc (.cells (arr11 V) 28)) #[.int .i64 a] 3 (w.heap.size + 1) (by simp)) 0
 have HC := hid (show Caps [((w.heap.size + 1), .int .i64 a)] ((w.alloc (.cells (arr11 V) 28)).alloc (.cells #[.int .i64 a] 3)) from fun x hx => by
  simp only [List.mem_cons, List.not_mem_nil, or_false] at hx
  subst hx
  exact y1)
 have SZ := hid (show ((w.alloc (.cells (arr11 V) 28)).alloc (.cells #[.int .i64 a] 3)).heap.size = w.heap.size + 2 by simp)
 clear RG0 RG1
 have HH := hid (hugeWorld_any V p ((w.alloc (.cells (arr11 V) 28)).alloc (.cells #[.int .i64 a] 3)) (hv.below B0.out))
 by_cases hs : Small p
 rotate_left
 ·rw [huge_t hs] at HH
  clear hv hg hs
  go_enter Tryz.func4, Tryz.ntmps4
  go_wp2_with (first | ((with_reducible (show wpList _ _ _ (⟨_, Op.load 28 _, _, _, _, _⟩ :: _) _ _)); refine wp_ldWg (by rfl) _ rfl _ rfl V RG.out ?_))
  refine HH.out.mono ?_
  rintro q w1 ⟨rfl, hb⟩
  have BB := hid (btr B0.out hb)
  clear hb
  go_wp2_with fail
  go_ret
  exact ⟨rfl, BB.out⟩
 rw [huge_f hs] at HH
 obtain ⟨hw, hp⟩ := small_world hv hs
 have HP := hid hp
 have HV := hid hw
 have HG := hid hg
 have HL := hid (tlbs_le hw.tlbs)
 have HSM := hid hs
 clear hv hg hs hw hp y1
 cases hsb : sndB p with
 | false =>
  have HD8 := hid (show dE p (pkE p a) = 8 by unfold dE; rw [hsb]; rfl)
  have HPV := hid (show pkV p a = 0 by unfold pkV; rw [HD8.out, if_neg (by decide)])
  have HDP := hid (show dP p (slP p a.toNat) (pkE p a) = noP by unfold dP; rw [HD8.out, if_neg (by decide)])
  have HSE := hid (show sndE p = 8 by unfold sndE; rw [hsb]; rfl)
  have HPA := hid (fun W h => pick_any V p a W h HP.out HSM.out.next)
  rw [HD8.out, HPV.out, HDP.out] at HPA
  clear hsb
  go_enter Tryz.func4, Tryz.ntmps4
  go_wp2_with (first | ((with_reducible (show wpList _ _ _ (⟨_, Op.load 28 _, _, _, _, _⟩ :: _) _ _)); refine wp_ldWg (by rfl) _ rfl _ rfl V RG.out ?_))
  generalize World.alloc _ _ = W0 at *
  refine HH.out.mono ?_
  rintro q w1 ⟨rfl, hb⟩
  have B1 := hid (btr B0.out hb)
  have R1 := hid (range_below RG.out hb)
  have C1 := hid (HC.out.below hb)
  have z1 := C1.out ((w.heap.size + 1), .int .i64 a) (by simp)
  clear hb HH
  go_wp2_with (first | ((with_reducible (show wpList _ _ _ (⟨_, Op.load 28 _, _, _, _, _⟩ :: _) _ _)); refine wp_ldWg (by rfl) _ rfl _ rfl V R1.out ?_))
  refine (HPA.out w1 (HV.out.below B1.out)).mono ?_
  rintro q w2 ⟨X, rfl, hX, hb⟩
  have B2 := hid (btr B1.out hb)
  have TN := hid (there_new w2 #[.slice none 0 0, .slice none 0 0, .slice none 0 0, .slice none 0 0, .slice none 0 0, .slice none 0 0, .slice none 0 0, .slice none 0 0, .slice none 0 0, .slice none 0 0, .int .i64 0] 28 w2.heap.size 11 rfl (by decide))
  have one := hid (world_one hX)
  have D3 := hid (show Below w2.heap.size w2 ((w2.alloc (.cells #[.slice none 0 0, .slice none 0 0, .slice none 0 0, .slice none 0 0, .slice none 0 0, .slice none 0 0, .slice none 0 0, .slice none 0 0, .slice none 0 0, .slice none 0 0, .int .i64 0] 28)).setCells w2.heap.size 0 (arr11 X).toList) from below_setCells (bal (Below.refl _ w2) (.cells #[.slice none 0 0, .slice none 0 0, .slice none 0 0, .slice none 0 0, .slice none 0 0, .slice none 0 0, .slice none 0 0, .slice none 0 0, .slice none 0 0, .slice none 0 0, .int .i64 0] 28)) (Nat.le_refl _) _ 0)
  have RX := hid (World.rangeAt_setCells_same (w2.alloc (.cells #[.slice none 0 0, .slice none 0 0, .slice none 0 0, .slice none 0 0, .slice none 0 0, .slice none 0 0, .slice none 0 0, .slice none 0 0, .slice none 0 0, .slice none 0 0, .int .i64 0] 28)) w2.heap.size 0 (arr11 X).toList TN.out)
  have WX := hid (hX.below D3.out)
  have R3 := hid (range_below (range_below R1.out hb) D3.out)
  have B3 := hid (btr B2.out D3.out)
  have C3 := hid ((C1.out.below hb).below D3.out)
  clear hX hb z1
  go_upto_region 4 with (first | ((with_reducible (show wpList _ _ _ (⟨_, Op.store 28 _ _, _, _, _, _⟩ :: _) _ _)); refine wpList_store_mid rfl 28 _ _ rfl w2.heap.size 0 (arr11 X) rfl rfl TN.out infoW one.out ?_))
  generalize World.setCells _ _ _ _ = W3 at *
  generalize w2.heap.size = xb at RX ⊢
  clear TN one D3 B1 B2 R1 C1
  have HSO := hid (sound_law V p W3 (HV.out.below B3.out) HP.out)
  rw [HSE.out] at HSO
  go_wp2_with (first | ((with_reducible (show wpList _ _ _ (⟨_, Op.load 28 _, _, _, _, _⟩ :: _) _ _)); refine wp_ldWg (by rfl) _ rfl _ rfl V R3.out ?_))
  refine HSO.out.mono ?_
  rintro q w4 ⟨rfl, hb⟩
  have B4 := hid (btr B3.out hb)
  have R4 := hid (range_below R3.out hb)
  have RX4 := hid (range_below RX.out hb)
  have WX4 := hid (WX.out.below hb)
  have C4 := hid (C3.out.below hb)
  have z1 := C4.out ((w.heap.size + 1), .int .i64 a) (by simp)
  have c6 : w4.cell? ⟨w.heap.size, 6, none⟩ = some (V 6) := range_cell R4.out (k := 6) rfl
  clear hb HSO
  have HDI := hid (did_no 20 #[.pointer (some ⟨w.heap.size + 1, 0, none⟩)] V X p 8 (by decide) w4 (HV.out.below B4.out) HP.out WX4.out (HG.out.below B4.out))
  obtain ⟨q6, b6, o6, c60, e6, -, -⟩ := (HV.out.below B4.out).cores
  rw [e6] at c6
  go_wp2_with (first | ((with_reducible (show wpList _ _ _ (⟨_, Op.load 28 _, _, _, _, _⟩ :: _) _ _)); refine wp_ldWg (by rfl) _ rfl _ rfl X RX4.out ?_) | ((with_reducible (show wpList _ _ _ (⟨_, Op.load 28 _, _, _, _, _⟩ :: _) _ _)); refine wp_ldWg (by rfl) _ rfl _ rfl V R4.out ?_))
  refine HDI.out.mono ?_
  rintro q w5 ⟨rfl, hb⟩
  have B5 := hid (btr B4.out hb)
  clear hb HDI
  go_wp2_with fail
  go_ret
  exact ⟨rfl, B5.out⟩
 | true =>
 cases hwi : within 0 ((p.cores.length : Int) - 1) a with
 | false =>
  have HD8 := hid (show dE p (pkE p a) = 2 by rw [dE_eq hsb]; unfold pkE; rw [hwi]; rfl)
  have HPV := hid (show pkV p a = 0 by unfold pkV; rw [HD8.out, if_neg (by decide)])
  have HDP := hid (show dP p (slP p a.toNat) (pkE p a) = noP by unfold dP; rw [HD8.out, if_neg (by decide)])
  have HSE := hid (show sndE p = 0 by unfold sndE; rw [hsb]; rfl)
  have HPA := hid (fun W h => pick_any V p a W h HP.out HSM.out.next)
  rw [HD8.out, HPV.out, HDP.out] at HPA
  have hcl : (p.cores.length : Int) ≤ 1000 := by have := HP.out.cores; omega
  have hout : a < 0 ∨ (p.cores.length : Int) ≤ a := by
   unfold within at hwi
   have := of_decide_eq_false hwi
   omega
  clear hsb hwi
  rcases hout with hout | hout
  ·go_enter Tryz.func4, Tryz.ntmps4
   go_wp2_with (first | ((with_reducible (show wpList _ _ _ (⟨_, Op.load 28 _, _, _, _, _⟩ :: _) _ _)); refine wp_ldWg (by rfl) _ rfl _ rfl V RG.out ?_))
   generalize World.alloc _ _ = W0 at *
   refine HH.out.mono ?_
   rintro q w1 ⟨rfl, hb⟩
   have B1 := hid (btr B0.out hb)
   have R1 := hid (range_below RG.out hb)
   have C1 := hid (HC.out.below hb)
   have z1 := C1.out ((w.heap.size + 1), .int .i64 a) (by simp)
   clear hb HH
   go_wp2_with (first | ((with_reducible (show wpList _ _ _ (⟨_, Op.load 28 _, _, _, _, _⟩ :: _) _ _)); refine wp_ldWg (by rfl) _ rfl _ rfl V R1.out ?_))
   refine (HPA.out w1 (HV.out.below B1.out)).mono ?_
   rintro q w2 ⟨X, rfl, hX, hb⟩
   have B2 := hid (btr B1.out hb)
   have TN := hid (there_new w2 #[.slice none 0 0, .slice none 0 0, .slice none 0 0, .slice none 0 0, .slice none 0 0, .slice none 0 0, .slice none 0 0, .slice none 0 0, .slice none 0 0, .slice none 0 0, .int .i64 0] 28 w2.heap.size 11 rfl (by decide))
   have one := hid (world_one hX)
   have D3 := hid (show Below w2.heap.size w2 ((w2.alloc (.cells #[.slice none 0 0, .slice none 0 0, .slice none 0 0, .slice none 0 0, .slice none 0 0, .slice none 0 0, .slice none 0 0, .slice none 0 0, .slice none 0 0, .slice none 0 0, .int .i64 0] 28)).setCells w2.heap.size 0 (arr11 X).toList) from below_setCells (bal (Below.refl _ w2) (.cells #[.slice none 0 0, .slice none 0 0, .slice none 0 0, .slice none 0 0, .slice none 0 0, .slice none 0 0, .slice none 0 0, .slice none 0 0, .slice none 0 0, .slice none 0 0, .int .i64 0] 28)) (Nat.le_refl _) _ 0)
   have RX := hid (World.rangeAt_setCells_same (w2.alloc (.cells #[.slice none 0 0, .slice none 0 0, .slice none 0 0, .slice none 0 0, .slice none 0 0, .slice none 0 0, .slice none 0 0, .slice none 0 0, .slice none 0 0, .slice none 0 0, .int .i64 0] 28)) w2.heap.size 0 (arr11 X).toList TN.out)
   have WX := hid (hX.below D3.out)
   have R3 := hid (range_below (range_below R1.out hb) D3.out)
   have B3 := hid (btr B2.out D3.out)
   have C3 := hid ((C1.out.below hb).below D3.out)
   clear hX hb z1
   go_upto_region 4 with (first | ((with_reducible (show wpList _ _ _ (⟨_, Op.store 28 _ _, _, _, _, _⟩ :: _) _ _)); refine wpList_store_mid rfl 28 _ _ rfl w2.heap.size 0 (arr11 X) rfl rfl TN.out infoW one.out ?_))
   generalize World.setCells _ _ _ _ = W3 at *
   generalize w2.heap.size = xb at RX ⊢
   clear TN one D3 B1 B2 R1 C1
   have HSO := hid (sound_law V p W3 (HV.out.below B3.out) HP.out)
   rw [HSE.out] at HSO
   go_wp2_with (first | ((with_reducible (show wpList _ _ _ (⟨_, Op.load 28 _, _, _, _, _⟩ :: _) _ _)); refine wp_ldWg (by rfl) _ rfl _ rfl V R3.out ?_))
   refine HSO.out.mono ?_
   rintro q w4 ⟨rfl, hb⟩
   have B4 := hid (btr B3.out hb)
   have R4 := hid (range_below R3.out hb)
   have RX4 := hid (range_below RX.out hb)
   have WX4 := hid (WX.out.below hb)
   have C4 := hid (C3.out.below hb)
   have z1 := C4.out ((w.heap.size + 1), .int .i64 a) (by simp)
   have c6 : w4.cell? ⟨w.heap.size, 6, none⟩ = some (V 6) := range_cell R4.out (k := 6) rfl
   clear hb HSO
   have HDI := hid (did_no 20 #[.pointer (some ⟨w.heap.size + 1, 0, none⟩)] V X p 2 (by decide) w4 (HV.out.below B4.out) HP.out WX4.out (HG.out.below B4.out))
   obtain ⟨q6, b6, o6, c60, e6, -, -⟩ := (HV.out.below B4.out).cores
   rw [e6] at c6
   go_wp2_with (first | ((with_reducible (show wpList _ _ _ (⟨_, Op.load 28 _, _, _, _, _⟩ :: _) _ _)); refine wp_ldWg (by rfl) _ rfl _ rfl X RX4.out ?_) | ((with_reducible (show wpList _ _ _ (⟨_, Op.load 28 _, _, _, _, _⟩ :: _) _ _)); refine wp_ldWg (by rfl) _ rfl _ rfl V R4.out ?_))
   refine HDI.out.mono ?_
   rintro q w5 ⟨rfl, hb⟩
   have B5 := hid (btr B4.out hb)
   clear hb HDI
   go_wp2_with fail
   go_ret
   exact ⟨rfl, B5.out⟩
  ·have hnl : ¬ (a < 0) := by omega
   go_enter Tryz.func4, Tryz.ntmps4
   go_wp2_with (first | ((with_reducible (show wpList _ _ _ (⟨_, Op.load 28 _, _, _, _, _⟩ :: _) _ _)); refine wp_ldWg (by rfl) _ rfl _ rfl V RG.out ?_))
   generalize World.alloc _ _ = W0 at *
   refine HH.out.mono ?_
   rintro q w1 ⟨rfl, hb⟩
   have B1 := hid (btr B0.out hb)
   have R1 := hid (range_below RG.out hb)
   have C1 := hid (HC.out.below hb)
   have z1 := C1.out ((w.heap.size + 1), .int .i64 a) (by simp)
   clear hb HH
   go_wp2_with (first | ((with_reducible (show wpList _ _ _ (⟨_, Op.load 28 _, _, _, _, _⟩ :: _) _ _)); refine wp_ldWg (by rfl) _ rfl _ rfl V R1.out ?_))
   refine (HPA.out w1 (HV.out.below B1.out)).mono ?_
   rintro q w2 ⟨X, rfl, hX, hb⟩
   have B2 := hid (btr B1.out hb)
   have TN := hid (there_new w2 #[.slice none 0 0, .slice none 0 0, .slice none 0 0, .slice none 0 0, .slice none 0 0, .slice none 0 0, .slice none 0 0, .slice none 0 0, .slice none 0 0, .slice none 0 0, .int .i64 0] 28 w2.heap.size 11 rfl (by decide))
   have one := hid (world_one hX)
   have D3 := hid (show Below w2.heap.size w2 ((w2.alloc (.cells #[.slice none 0 0, .slice none 0 0, .slice none 0 0, .slice none 0 0, .slice none 0 0, .slice none 0 0, .slice none 0 0, .slice none 0 0, .slice none 0 0, .slice none 0 0, .int .i64 0] 28)).setCells w2.heap.size 0 (arr11 X).toList) from below_setCells (bal (Below.refl _ w2) (.cells #[.slice none 0 0, .slice none 0 0, .slice none 0 0, .slice none 0 0, .slice none 0 0, .slice none 0 0, .slice none 0 0, .slice none 0 0, .slice none 0 0, .slice none 0 0, .int .i64 0] 28)) (Nat.le_refl _) _ 0)
   have RX := hid (World.rangeAt_setCells_same (w2.alloc (.cells #[.slice none 0 0, .slice none 0 0, .slice none 0 0, .slice none 0 0, .slice none 0 0, .slice none 0 0, .slice none 0 0, .slice none 0 0, .slice none 0 0, .slice none 0 0, .int .i64 0] 28)) w2.heap.size 0 (arr11 X).toList TN.out)
   have WX := hid (hX.below D3.out)
   have R3 := hid (range_below (range_below R1.out hb) D3.out)
   have B3 := hid (btr B2.out D3.out)
   have C3 := hid ((C1.out.below hb).below D3.out)
   clear hX hb z1
   go_upto_region 4 with (first | ((with_reducible (show wpList _ _ _ (⟨_, Op.store 28 _ _, _, _, _, _⟩ :: _) _ _)); refine wpList_store_mid rfl 28 _ _ rfl w2.heap.size 0 (arr11 X) rfl rfl TN.out infoW one.out ?_))
   generalize World.setCells _ _ _ _ = W3 at *
   generalize w2.heap.size = xb at RX ⊢
   clear TN one D3 B1 B2 R1 C1
   have HSO := hid (sound_law V p W3 (HV.out.below B3.out) HP.out)
   rw [HSE.out] at HSO
   go_wp2_with (first | ((with_reducible (show wpList _ _ _ (⟨_, Op.load 28 _, _, _, _, _⟩ :: _) _ _)); refine wp_ldWg (by rfl) _ rfl _ rfl V R3.out ?_))
   refine HSO.out.mono ?_
   rintro q w4 ⟨rfl, hb⟩
   have B4 := hid (btr B3.out hb)
   have R4 := hid (range_below R3.out hb)
   have RX4 := hid (range_below RX.out hb)
   have WX4 := hid (WX.out.below hb)
   have C4 := hid (C3.out.below hb)
   have z1 := C4.out ((w.heap.size + 1), .int .i64 a) (by simp)
   have c6 : w4.cell? ⟨w.heap.size, 6, none⟩ = some (V 6) := range_cell R4.out (k := 6) rfl
   clear hb HSO
   have HDI := hid (did_no 20 #[.pointer (some ⟨w.heap.size + 1, 0, none⟩)] V X p 2 (by decide) w4 (HV.out.below B4.out) HP.out WX4.out (HG.out.below B4.out))
   obtain ⟨q6, b6, o6, c60, e6, -, -⟩ := (HV.out.below B4.out).cores
   rw [e6] at c6
   go_wp2_with (first | ((with_reducible (show wpList _ _ _ (⟨_, Op.load 28 _, _, _, _, _⟩ :: _) _ _)); refine wp_ldWg (by rfl) _ rfl _ rfl X RX4.out ?_) | ((with_reducible (show wpList _ _ _ (⟨_, Op.load 28 _, _, _, _, _⟩ :: _) _ _)); refine wp_ldWg (by rfl) _ rfl _ rfl V R4.out ?_))
   refine HDI.out.mono ?_
   rintro q w5 ⟨rfl, hb⟩
   have B5 := hid (btr B4.out hb)
   clear hb HDI
   go_wp2_with fail
   go_ret
   exact ⟨rfl, B5.out⟩
 | true =>
 obtain ⟨n, rfl, hnl⟩ := within_in hwi
 have HSD := hid (snd_of hsb)
 have HPE := hid (show pkE p n = 0 by unfold pkE; rw [hwi]; rfl)
 have HD0 := hid (show dE p (pkE p n) = 0 by rw [dE_eq hsb]; exact HPE.out)
 have HPV := hid (show pkV p n = (slP p n).cores.getD n 0 by unfold pkV; rw [if_pos HD0.out, Int.toNat_natCast])
 have HDP := hid (show dP p (slP p (n : Int).toNat) (pkE p n) = slP p n by unfold dP; rw [if_pos HD0.out, Int.toNat_natCast])
 have HSE := hid (show sndE p = 0 by unfold sndE; rw [hsb]; rfl)
 have HPA := hid (fun W h => pick_any V p n W h HP.out HSM.out.next)
 rw [HD0.out, HPV.out, HDP.out, eV_0] at HPA
 have hcl : (p.cores.length : Int) ≤ 1000 := by have := HP.out.cores; omega
 have hn0 : ¬ ((n : Int) < 0) := by omega
 have hn1 : ¬ ((p.cores.length : Int) ≤ (n : Int)) := by omega
 have hqn : n < (slP p n).cores.length := by rw [sl_cores]; exact hnl
 have hqn2 : (n : Int) < ((slP p n).cores.length : Int) := by omega
 have hqc : ((slP p n).cores.length : Int) ≤ 1000 := by rw [sl_cores]; exact hcl
 have HNL := hid hnl
 obtain ⟨y, hy⟩ : ∃ y, (slP p n).cores.getD n 0 = y := ⟨_, rfl⟩
 rw [hy] at HPA
 have HY := hid hy
 have DP0 := hid (show dP p (slP p n) 0 = slP p n by unfold dP; rw [dE_eq hsb, if_pos rfl])
 have DE0 := hid (show dE p 0 = 0 from dE_eq hsb)
 clear hsb hwi hy hnl
 go_enter Tryz.func4, Tryz.ntmps4
 go_wp2_with (first | ((with_reducible (show wpList _ _ _ (⟨_, Op.load 28 _, _, _, _, _⟩ :: _) _ _)); refine wp_ldWg (by rfl) _ rfl _ rfl V RG.out ?_))
 generalize World.alloc _ _ = W0 at *
 refine HH.out.mono ?_
 rintro q w1 ⟨rfl, hb⟩
 have B1 := hid (btr B0.out hb)
 have R1 := hid (range_below RG.out hb)
 have C1 := hid (HC.out.below hb)
 have z1 := C1.out ((w.heap.size + 1), .int .i64 n) (by simp)
 clear hb HH
 go_wp2_with (first | ((with_reducible (show wpList _ _ _ (⟨_, Op.load 28 _, _, _, _, _⟩ :: _) _ _)); refine wp_ldWg (by rfl) _ rfl _ rfl V R1.out ?_))
 refine (HPA.out w1 (HV.out.below B1.out)).mono ?_
 rintro q w2 ⟨X, rfl, hX, hb⟩
 have B2 := hid (btr B1.out hb)
 have TN := hid (there_new w2 #[.slice none 0 0, .slice none 0 0, .slice none 0 0, .slice none 0 0, .slice none 0 0, .slice none 0 0, .slice none 0 0, .slice none 0 0, .slice none 0 0, .slice none 0 0, .int .i64 0] 28 w2.heap.size 11 rfl (by decide))
 have one := hid (world_one hX)
 have D3 := hid (show Below w2.heap.size w2 ((w2.alloc (.cells #[.slice none 0 0, .slice none 0 0, .slice none 0 0, .slice none 0 0, .slice none 0 0, .slice none 0 0, .slice none 0 0, .slice none 0 0, .slice none 0 0, .slice none 0 0, .int .i64 0] 28)).setCells w2.heap.size 0 (arr11 X).toList) from below_setCells (bal (Below.refl _ w2) (.cells #[.slice none 0 0, .slice none 0 0, .slice none 0 0, .slice none 0 0, .slice none 0 0, .slice none 0 0, .slice none 0 0, .slice none 0 0, .slice none 0 0, .slice none 0 0, .int .i64 0] 28)) (Nat.le_refl _) _ 0)
 have RX := hid (World.rangeAt_setCells_same (w2.alloc (.cells #[.slice none 0 0, .slice none 0 0, .slice none 0 0, .slice none 0 0, .slice none 0 0, .slice none 0 0, .slice none 0 0, .slice none 0 0, .slice none 0 0, .slice none 0 0, .int .i64 0] 28)) w2.heap.size 0 (arr11 X).toList TN.out)
 have WX := hid (hX.below D3.out)
 have R3 := hid (range_below (range_below R1.out hb) D3.out)
 have B3 := hid (btr B2.out D3.out)
 have C3 := hid ((C1.out.below hb).below D3.out)
 clear hX hb z1
 go_upto_region 4 with (first | ((with_reducible (show wpList _ _ _ (⟨_, Op.store 28 _ _, _, _, _, _⟩ :: _) _ _)); refine wpList_store_mid rfl 28 _ _ rfl w2.heap.size 0 (arr11 X) rfl rfl TN.out infoW one.out ?_))
 generalize World.setCells _ _ _ _ = W3 at *
 generalize w2.heap.size = xb at RX ⊢
 clear TN one D3 B1 B2 R1 C1
 have HSO := hid (sound_law V p W3 (HV.out.below B3.out) HP.out)
 rw [HSE.out] at HSO
 go_wp2_with (first | ((with_reducible (show wpList _ _ _ (⟨_, Op.load 28 _, _, _, _, _⟩ :: _) _ _)); refine wp_ldWg (by rfl) _ rfl _ rfl V R3.out ?_))
 refine HSO.out.mono ?_
 rintro q w4 ⟨rfl, hb⟩
 have B4 := hid (btr B3.out hb)
 have R4 := hid (range_below R3.out hb)
 have RX4 := hid (range_below RX.out hb)
 have WX4 := hid (WX.out.below hb)
 have C4 := hid (C3.out.below hb)
 have z1 := C4.out ((w.heap.size + 1), .int .i64 n) (by simp)
 have c6 : w4.cell? ⟨w.heap.size, 6, none⟩ = some (V 6) := range_cell R4.out (k := 6) rfl
 clear hb HSO
 have HDI := hid (did_any 20 #[ptr (w.heap.size + 1)] (Caps [((w.heap.size + 1), .int .i64 n)]) V X p (slP p n) 0 w4 (HV.out.below B4.out) HP.out (sl_fits HP.out HSM.out.next n) (by rw [DP0.out]; exact WX4.out) cf_p2 (fun Z hz => C4.out.below hz) (fun h => (pickRef_deed _ n p HP.out HSM.out.next h HNL.out).caps (by rw [sl_tlbs]; exact HL.out)) (HG.out.below B4.out))
 unfold ptr at HDI
 rw [DE0.out, HSE.out, eV_0] at HDI
 obtain ⟨q6, b6, o6, c60, e6, -, -⟩ := (HV.out.below B4.out).cores
 rw [e6] at c6
 go_wp2_with (first | ((with_reducible (show wpList _ _ _ (⟨_, Op.load 28 _, _, _, _, _⟩ :: _) _ _)); refine wp_ldWg (by rfl) _ rfl _ rfl X RX4.out ?_) | ((with_reducible (show wpList _ _ _ (⟨_, Op.load 28 _, _, _, _, _⟩ :: _) _ _)); refine wp_ldWg (by rfl) _ rfl _ rfl V R4.out ?_))
 refine HDI.out.mono ?_
 rintro q w5 ⟨rfl, hb⟩
 have B5 := hid (btr B4.out hb)
 have RX5 := hid (range_below RX4.out hb)
 obtain ⟨q7, b7, o7, c70, e7, hq7, hz7⟩ := (WX4.out.below hb).cores
 have h7 := hq7 (by omega)
 subst h7
 have x7 : w5.cell? ⟨xb, 6, none⟩ = some (.slice (some ⟨b7, o7, none⟩) (slP p n).cores.length c70) := by rw [range_cell RX5.out (k := 6) rfl, e7]
 have z2 := (C4.out.below hb) ((w.heap.size + 1), .int .i64 n) (by simp)
 have y7 : w5.cell? ⟨b7, o7 + n, none⟩ = some (.int .i64 y) := by
  have h := hz7 n hqn
  rw [← HY.out, List.getD_eq_getElem?_getD, List.getElem?_eq_getElem hqn]
  exact h
 clear hb HDI hz7 hq7 z1 c6
 go_wp2_with fail
 go_ret
 exact ⟨rfl, B5.out⟩
end Go.Proofs.YtjjhodfekmpelaaGreatDoor.Wd
