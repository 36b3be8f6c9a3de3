/- How a core settles, by the document: keyholdref.Settled; walked. (Written by mk_pick5.py.) · The two ways in which a core settles are one; plain. (Written by mk_pick6.py.) · What sched.Pick does, and what the document asks; walked. (Written by mk_pick7.py.) · sched.Pick and keyholdlaw.SchedPicks, walked. (Written by mk_pick8.py.) · keyholdlaw.SchedPicks, walked. (Written by mk_pick9.py.) -/
import Derived.Deep.RegionHeld3
import Derived.Test.YtakmaeohhclngaaGreatDoorRbh
import Derived.Test.YtakmaeohhclngaaGreatDoorRbj
import Derived.Test.YtakmaeohhclngaaGreatDoorRbg
import Derived.Test.YtakmaeohhclngaaGreatDoorRau
namespace Go.Proofs.YtakmaeohhclngaaGreatDoor.Wd
open Go.RowKit Go.Proofs.YtakmaeohhclngaaGreatDoor.Mem Go.Proofs.YtakmaeohhclngaaGreatDoor.Bw Go.Proofs.YtakmaeohhclngaaGreatDoor.Nums Go.Proofs.YtakmaeohhclngaaGreatDoor.Mmu
end Go.Proofs.YtakmaeohhclngaaGreatDoor.Wd
namespace Go.Proofs.YtakmaeohhclngaaGreatDoor.Wd
open Go.RowKit Go.Proofs.YtakmaeohhclngaaGreatDoor.Mem Go.Proofs.YtakmaeohhclngaaGreatDoor.Bw Go.Proofs.YtakmaeohhclngaaGreatDoor.Nums Go.Proofs.YtakmaeohhclngaaGreatDoor.Mmu
/-- Is it a core? -/
def pkE (p : PW) (c : Int) : Int := if within 0 ((p.cores.length : Int) - 1) c then 0 else 2
theorem within_in {p : PW} {c : Int} (h : within 0 ((p.cores.length : Int) - 1) c = true) : ∃ n : Nat, c = n ∧ n < p.cores.length := by
 unfold within at h
 have h1 := of_decide_eq_true h
 exact ⟨c.toNat, by omega, by omega⟩
theorem sl_tlbs (p : PW) (c : Nat) : (slP p c).tlbs = p.tlbs := by
 unfold slP snx
 split
 ·split <;> rfl
 ·split
  ·rfl
  ·split <;> rfl
set_option maxRecDepth 100000 in
theorem isCore_any (vb n : Nat) (q : Option Addr) (cap : Nat) (c : Int) (w : World) (c6 : w.cell? ⟨vb, 6, none⟩ = some (.slice q n cap)) (h1 : (1 : Int) ≤ (n : Int)) (h2 : (n : Int) ≤ 1000) :
  Calls Tryz.prog 21 #[.pointer (some ⟨vb, 0, none⟩), .int .i64 c] w fun r w' => r = .returned (.bool (within 0 ((n : Int) - 1) c)) ∧ w = w' := by
 have HWI := hid (withinB c 0 ((n : Int) - 1) w)
 go_enter Tryz.func21, Tryz.ntmps21
 go_wp2_with fail
 refine HWI.out.mono ?_
 rintro r w1 ⟨rfl, rfl⟩
 go_wp2_with fail
 go_ret
 exact ⟨rfl, rfl⟩
set_option maxRecDepth 100000 in
set_option maxHeartbeats 4000000 in
theorem pick_deed (c1 : Nat) (c : Int) (p : PW) (hp : p.Fits) (hn : ∀ l ∈ p.ready, l.length ≤ 50) (hs : Snd p) : DeedT 20 #[ptr c1] (CapsT [(c1, .int .i64 c)]) eV p (slP p c.toNat) (pkE p c) := by
 intro W wb tag V bt hc
 have x1 := (hc (c1, .int .i64 c) (by simp)).1
 have HC := hid hc
 have hl6 : (p.cores.length : Int) ≤ 1000 := by have := hp.cores; omega
 have hk1 : (1 : Int) ≤ (p.cores.length : Int) := by have := hs.lf.c1; omega
 obtain ⟨g6, cap6, e6⟩ := bt.o.cores.form (by have := hs.lf.c1; omega)
 have c6 : W.cell? ⟨wb, 6, none⟩ = some (.slice (some ⟨g6, 0, none⟩) p.cores.length cap6) := by rw [range_cell bt.r (k := 6) rfl, e6]
 have HWI := hid (isCore_any wb p.cores.length (some ⟨g6, 0, none⟩) cap6 c W c6 hk1 hl6)
 have B0 := hid bt
 unfold ptr
 simp only [List.append_toArray, List.cons_append, List.nil_append]
 cases hw : within 0 ((p.cores.length : Int) - 1) c with
 | false =>
  have HE := hid (show pkE p c = 2 by unfold pkE; rw [hw]; rfl)
  rw [HE.out]
  rw [hw] at HWI
  clear bt hc hp hs hn e6 hw
  go_enter Tryz.func20, Tryz.ntmps20
  go_wp2_with fail
  refine HWI.out.mono ?_
  rintro q w1 ⟨rfl, rfl⟩
  have K1 := hid (Kt.refl tag W)
  go_wp2_with fail
  go_ret
  first | exact ⟨rfl, tag, K1.out⟩ | exact ⟨rfl, tag, K1.out, fun h => by cases h⟩
 | true =>
  have HE := hid (show pkE p c = 0 by unfold pkE; rw [hw]; rfl)
  rw [HE.out, eV_0]
  rw [hw] at HWI
  obtain ⟨n, rfl, hn2⟩ := within_in hw
  rw [Int.toNat_natCast]
  have HS := hid (fun X (h : BoxT X wb tag V p) => settle_any wb tag V p n X h hp hn hs hn2)
  clear bt hc hp hs hn e6 hw hn2
  go_enter Tryz.func20, Tryz.ntmps20
  go_wp2_with fail
  refine HWI.out.mono ?_
  rintro q w1 ⟨rfl, rfl⟩
  have K1 := hid (Kt.refl tag W)
  have B1 := B0
  clear c6 B0
  go_wp2_with fail
  refine (HS.out _ B1.out).mono ?_
  rintro q w2 ⟨rfl, tg2, h2, k2⟩
  have B2 := hid h2
  have K2 := hid (K1.out.trans k2)
  clear h2 k2 HS
  go_wp2_with fail
  go_ret
  first | exact ⟨rfl, tg2, K2.out, V, B2.out⟩ | exact ⟨rfl, tg2, K2.out, fun _ => ⟨V, B2.out⟩⟩
end Go.Proofs.YtakmaeohhclngaaGreatDoor.Wd
namespace Go.Proofs.YtakmaeohhclngaaGreatDoor.Wd
open Go.RowKit Go.Proofs.YtakmaeohhclngaaGreatDoor.Mem Go.Proofs.YtakmaeohhclngaaGreatDoor.Bw Go.Proofs.YtakmaeohhclngaaGreatDoor.Nums Go.Proofs.YtakmaeohhclngaaGreatDoor.Mmu
theorem both1 {B : Nat} {a b : World} (h : Below B a b) (p : Addr) (u : Value) : Below B (a.setCell p u) (b.setCell p u) :=
 ⟨h.os, h.tape, h.output, by simp only [World.setCell, Array.size_modify]; exact h.size, fun k hk => by
  simp only [World.setCell, Array.getElem?_modify]
  rw [h.block k hk]⟩
theorem bothN {B : Nat} (b : Nat) : ∀ (vs : List Value) (o : Nat) {a c : World}, Below B a c → Below B (a.setCells b o vs) (c.setCells b o vs)
 | [], _, _, _, h => h
 | _ :: r, o, _, _, h => bothN b r (o + 1) (both1 h _ _)
theorem bothS {B : Nat} : ∀ (ws : List (Nat × Nat × List Value)) {a c : World}, Below B a c → Below B (sts a ws) (sts c ws)
 | [], _, _, h => h
 | x :: r, _, _, h => bothS r (bothN x.1 x.2.2 x.2.1 h)
theorem sts_size : ∀ (ws : List (Nat × Nat × List Value)) (W : World), (sts W ws).heap.size = W.heap.size
 | [], _ => rfl
 | x :: r, W => (sts_size r (W.setCells x.1 x.2.1 x.2.2)).trans (by rw [setCells_size])
theorem FarV.below {W W' : World} {lo : Nat} {V : Nat → Value} {p : PW} (h : FarV W lo V p) (hb : Below W.heap.size W W') : FarV W' lo V p := fun ws hw =>
 (h ws hw).below (by rw [sts_size]; exact bothS ws hb)
theorem cf_p1 (args : Array Value) (W : World) : (callFunc 20 args).run Tryz.prog W = .ok (.enter 20 args) W := by
 go_simp
def pkV (p : PW) (a : Int) : Int := if dE p (pkE p a) = 0 then (slP p a.toNat).cores.getD a.toNat 0 else 0
theorem sl_cores (p : PW) (c : Nat) : (slP p c).cores.length = p.cores.length := by
 have h1 : ∀ (q : PW) (m : Int), (snx q m c).cores.length = q.cores.length := by
  intro q m
  unfold snx
  split
  ·rfl
  ·show ((q.cores.map (noT _)).set c _).length = _
   rw [List.length_set, List.length_map]
 unfold slP
 split
 ·exact h1 _ _
 ·split
  ·rfl
  ·rw [h1]
   show (p.cores.map (noT _)).length = _
   rw [List.length_map]
set_option maxRecDepth 100000 in
set_option maxHeartbeats 4000000 in
theorem pick_any (V : Nat → Value) (p : PW) (a : Int) (w : World) (hv : WorldV w V p) (hp : p.Fits) (hn : ∀ l ∈ p.ready, l.length ≤ 50) :
  Calls Tryz.prog 7 #[.agg (arr11 V), .int .i64 a] w fun x w' => ∃ X, x = .returned (.tuple #[.agg (arr11 X), .int .i64 (pkV p a), eV (dE p (pkE p a))]) ∧ WorldV w' X (dP p (slP p a.toNat) (pkE p a)) ∧ Below w.heap.size w w' := by
 have RG0 := boxed w V 28
 have RG1 := range_below RG0 (bal (Below.refl _ (w.alloc (.cells (arr11 V) 28))) (.cells #[.int .i64 a] 3))
 have RG2 := range_below RG1 (bal (Below.refl _ ((w.alloc (.cells (arr11 V) 28)).alloc (.cells #[.int .i64 a] 3))) (.cells #[.slice none 0 0, .slice none 0 0, .slice none 0 0, .slice none 0 0, .slice none 0 0, .slice none 0 0, .slice none 0 0, .slice none 0 0, .slice none 0 0, .slice none 0 0, .int .i64 0] 28))
 have RG := hid RG2
 have B0 := hid (bal (bal (bal (Below.refl w.heap.size w) (.cells (arr11 V) 28)) (.cells #[.int .i64 a] 3)) (.cells #[.slice none 0 0, .slice none 0 0, .slice none 0 0, .slice none 0 0, .slice none 0 0, .slice none 0 0, .slice none 0 0, .slice none 0 0, .slice none 0 0, .slice none 0 0, .int .i64 0] 28))
 have y1 := (cells_alloc (cells_at (w.alloc (.cells (arr11 V) 28)) #[.int .i64 a] 3 (w.heap.size + 1) (by simp)) (by simp) (.cells #[.slice none 0 0, .slice none 0 0, .slice none 0 0, .slice none 0 0, .slice none 0 0, .slice none 0 0, .slice none 0 0, .slice none 0 0, .slice none 0 0, .slice none 0 0, .int .i64 0] 28)) 0
 have HC := hid (show Caps [((w.heap.size + 1), .int .i64 a)] (((w.alloc (.cells (arr11 V) 28)).alloc (.cells #[.int .i64 a] 3)).alloc (.cells #[.slice none 0 0, .slice none 0 0, .slice none 0 0, .slice none 0 0, .slice none 0 0, .slice none 0 0, .slice none 0 0, .slice none 0 0, .slice none 0 0, .slice none 0 0, .int .i64 0] 28)) from fun x hx => by
  simp only [List.mem_cons, List.not_mem_nil, or_false] at hx
  subst hx
  exact y1)
 have SZ := hid (show (((w.alloc (.cells (arr11 V) 28)).alloc (.cells #[.int .i64 a] 3)).alloc (.cells #[.slice none 0 0, .slice none 0 0, .slice none 0 0, .slice none 0 0, .slice none 0 0, .slice none 0 0, .slice none 0 0, .slice none 0 0, .slice none 0 0, .slice none 0 0, .int .i64 0] 28)).heap.size = w.heap.size + 3 by simp)
 have TR := hid (there_new ((w.alloc (.cells (arr11 V) 28)).alloc (.cells #[.int .i64 a] 3)) #[.slice none 0 0, .slice none 0 0, .slice none 0 0, .slice none 0 0, .slice none 0 0, .slice none 0 0, .slice none 0 0, .slice none 0 0, .slice none 0 0, .slice none 0 0, .int .i64 0] 28 (w.heap.size + 2) 11 (by simp) (by decide))
 clear RG0 RG1 RG2
 have HL := hid (tlbs_le hv.tlbs)
 have HD := hid (do_far 20 #[ptr (w.heap.size + 1)] (Caps [((w.heap.size + 1), .int .i64 a)]) V p (slP p a.toNat) (pkE p a) (((w.alloc (.cells (arr11 V) 28)).alloc (.cells #[.int .i64 a] 3)).alloc (.cells #[.slice none 0 0, .slice none 0 0, .slice none 0 0, .slice none 0 0, .slice none 0 0, .slice none 0 0, .slice none 0 0, .slice none 0 0, .slice none 0 0, .slice none 0 0, .int .i64 0] 28)) (hv.below B0.out) hp cf_p1 (fun X h => HC.out.below h) (fun h => (pick_deed _ a p hp hn h).caps (by rw [sl_tlbs]; exact HL.out)))
 unfold ptr at HD
 have HSN := hid (fun (h : sndB p = true) => (snd_of h).lf.c1)
 by_cases hde : dE p (pkE p a) = 0
 rotate_left
 ·have HPK := hid (show pkV p a = 0 from if_neg hde)
  have HDP := hid (show dP p (slP p a.toNat) (pkE p a) = noP from if_neg hde)
  rw [eV_n hde] at HD ⊢
  rw [HPK.out, HDP.out]
  rw [HDP.out] at HD
  have hne := hid hde
  generalize dE p (pkE p a) = de at HD hne ⊢
  clear hv hp hn HL y1 hde HPK HDP HSN
  go_enter Tryz.func7, Tryz.ntmps7
  go_wp2_with (first | ((with_reducible (show wpList _ _ _ (⟨_, Op.load 28 _, _, _, _, _⟩ :: _) _ _)); refine wp_ldWg (by rfl) _ rfl _ rfl V RG.out ?_))
  generalize World.alloc _ _ = W0 at *
  refine HD.out.mono ?_
  rintro q0 w1 ⟨X, rfl, hF, hb⟩
  have D1 := hid (show w.heap.size + 3 ≤ w1.heap.size by have := hb.size; rw [SZ.out] at this; exact this)
  have T1 := hid (there_belowO TR.out hb)
  have C1 := hid (HC.out.below hb)
  have hX := hF.v0
  have TN := hid (there_new w1 #[.slice none 0 0, .slice none 0 0, .slice none 0 0, .slice none 0 0, .slice none 0 0, .slice none 0 0, .slice none 0 0, .slice none 0 0, .slice none 0 0, .slice none 0 0, .int .i64 0] 28 w1.heap.size 11 rfl (by decide))
  have one := hid (world_one hX)
  have D3 := hid (show Below w1.heap.size w1 ((w1.alloc (.cells #[.slice none 0 0, .slice none 0 0, .slice none 0 0, .slice none 0 0, .slice none 0 0, .slice none 0 0, .slice none 0 0, .slice none 0 0, .slice none 0 0, .slice none 0 0, .int .i64 0] 28)).setCells w1.heap.size 0 (arr11 X).toList) from below_setCells (bal (Below.refl _ w1) (.cells #[.slice none 0 0, .slice none 0 0, .slice none 0 0, .slice none 0 0, .slice none 0 0, .slice none 0 0, .slice none 0 0, .slice none 0 0, .slice none 0 0, .slice none 0 0, .int .i64 0] 28)) (Nat.le_refl _) _ 0)
  have RX := hid (World.rangeAt_setCells_same (w1.alloc (.cells #[.slice none 0 0, .slice none 0 0, .slice none 0 0, .slice none 0 0, .slice none 0 0, .slice none 0 0, .slice none 0 0, .slice none 0 0, .slice none 0 0, .slice none 0 0, .int .i64 0] 28)) w1.heap.size 0 (arr11 X).toList TN.out)
  have WX := hid (hX.below D3.out)
  have FX := hid ((hF.below D3.out).mono (show w.heap.size + 3 ≤ _ by rw [SZ.out]; exact Nat.le_refl _))
  have B3 := hid (btr (btr B0.out hb) D3.out)
  clear hX hF hb HD
  go_upto_region 2 with (first | ((with_reducible (show wpList _ _ _ (⟨_, Op.store 28 _ _, _, _, _, _⟩ :: _) _ _)); refine wpList_store_mid rfl 28 _ _ rfl w1.heap.size 0 (arr11 X) rfl rfl TN.out infoW one.out ?_))
  generalize World.setCells _ _ _ _ = W3 at *
  have T2 := hid (there_belowO T1.out D3.out)
  have zo := hid (world_one (zero_world w1))
  have RZ := hid (World.rangeAt_setCells_same W3 (w.heap.size + 2) 0 (arr11 zeroV).toList T2.out)
  have BZ := hid (below_setCells B3.out (show w.heap.size ≤ w.heap.size + 2 by omega) (arr11 zeroV).toList 0)
  clear TN one D3 T1 RX WX FX C1 D1
  go_wp2_with (first | ((with_reducible (show wpList _ _ _ (⟨_, Op.store 28 _ _, _, _, _, _⟩ :: _) _ _)); refine wpList_store_mid rfl 28 _ _ rfl (w.heap.size + 2) 0 (arr11 zeroV) rfl rfl T2.out infoW zo.out ?_))
  exact bodyPost_ret (v := .tuple #[.agg (arr11 zeroV), .int .i64 0, .iface 42 (.int .i64 de)]) (results_c3 rfl rfl (run_loadVar_mid _ (w.heap.size + 2) 0 28 (arr11 zeroV).toList _ RZ.out Tryz.underlying28 rfl infoW) rfl rfl) rfl ⟨zeroV, rfl, zero_world _, BZ.out⟩
 have hsb : sndB p = true := by
  unfold dE at hde
  cases h : sndB p with
  | true => rfl
  | false => rw [h] at hde; cases hde
 have hpe : pkE p a = 0 := by rw [dE_eq hsb] at hde; exact hde
 have hwi : within 0 ((p.cores.length : Int) - 1) a = true := by
  unfold pkE at hpe
  cases h : within 0 ((p.cores.length : Int) - 1) a with
  | true => rfl
  | false => rw [h] at hpe; cases hpe
 obtain ⟨n, rfl, hnl⟩ := within_in hwi
 have HPK := hid (show pkV p n = (slP p n).cores.getD n 0 by unfold pkV; rw [if_pos hde, Int.toNat_natCast])
 have HDP := hid (show dP p (slP p (n : Int).toNat) (pkE p n) = slP p n by unfold dP; rw [if_pos hde, Int.toNat_natCast])
 rw [HDP.out] at HD ⊢
 rw [hde, eV_0] at HD ⊢
 rw [HPK.out]
 have hnl2 : n < (slP p n).cores.length := by rw [sl_cores]; exact hnl
 have hcl : ((slP p n).cores.length : Int) ≤ 1000 := by rw [sl_cores]; have := hp.cores; omega
 have HNL := hid hnl2
 have hn3 : (n : Int) < ((slP p n).cores.length : Int) := by omega
 clear hv hp hn HL y1 hde hsb hpe hwi hnl HSN HPK HDP
 generalize slP p n = q at *
 go_enter Tryz.func7, Tryz.ntmps7
 go_wp2_with (first | ((with_reducible (show wpList _ _ _ (⟨_, Op.load 28 _, _, _, _, _⟩ :: _) _ _)); refine wp_ldWg (by rfl) _ rfl _ rfl V RG.out ?_))
 generalize World.alloc _ _ = W0 at *
 refine HD.out.mono ?_
 rintro q0 w1 ⟨X, rfl, hF, hb⟩
 have D1 := hid (show w.heap.size + 3 ≤ w1.heap.size by have := hb.size; rw [SZ.out] at this; exact this)
 have T1 := hid (there_belowO TR.out hb)
 have C1 := hid (HC.out.below hb)
 have hX := hF.v0
 have TN := hid (there_new w1 #[.slice none 0 0, .slice none 0 0, .slice none 0 0, .slice none 0 0, .slice none 0 0, .slice none 0 0, .slice none 0 0, .slice none 0 0, .slice none 0 0, .slice none 0 0, .int .i64 0] 28 w1.heap.size 11 rfl (by decide))
 have one := hid (world_one hX)
 have D3 := hid (show Below w1.heap.size w1 ((w1.alloc (.cells #[.slice none 0 0, .slice none 0 0, .slice none 0 0, .slice none 0 0, .slice none 0 0, .slice none 0 0, .slice none 0 0, .slice none 0 0, .slice none 0 0, .slice none 0 0, .int .i64 0] 28)).setCells w1.heap.size 0 (arr11 X).toList) from below_setCells (bal (Below.refl _ w1) (.cells #[.slice none 0 0, .slice none 0 0, .slice none 0 0, .slice none 0 0, .slice none 0 0, .slice none 0 0, .slice none 0 0, .slice none 0 0, .slice none 0 0, .slice none 0 0, .int .i64 0] 28)) (Nat.le_refl _) _ 0)
 have RX := hid (World.rangeAt_setCells_same (w1.alloc (.cells #[.slice none 0 0, .slice none 0 0, .slice none 0 0, .slice none 0 0, .slice none 0 0, .slice none 0 0, .slice none 0 0, .slice none 0 0, .slice none 0 0, .slice none 0 0, .int .i64 0] 28)) w1.heap.size 0 (arr11 X).toList TN.out)
 have WX := hid (hX.below D3.out)
 have FX := hid ((hF.below D3.out).mono (show w.heap.size + 3 ≤ _ by rw [SZ.out]; exact Nat.le_refl _))
 have B3 := hid (btr (btr B0.out hb) D3.out)
 clear hX hF hb HD
 go_upto_region 2 with (first | ((with_reducible (show wpList _ _ _ (⟨_, Op.store 28 _ _, _, _, _, _⟩ :: _) _ _)); refine wpList_store_mid rfl 28 _ _ rfl w1.heap.size 0 (arr11 X) rfl rfl TN.out infoW one.out ?_))
 generalize World.setCells _ _ _ _ = W3 at *
 have T2 := hid (there_belowO T1.out D3.out)
 have C3 := hid ((C1.out.below D3.out) ((w.heap.size + 1), .int .i64 n) (by simp))
 have HXB0 := hid (show w.heap.size + 3 ≤ w1.heap.size from D1.out)
 generalize hxb : w1.heap.size = xb at *
 have HXB := HXB0
 clear HXB0 D1
 clear TN one D3 T1 hxb C1
 go_upto_region 4 with fail
 obtain ⟨qx, bx, ox, capx, ex, hqx, hzx⟩ := WX.out.cores
 have hqe := hqx (by omega)
 subst hqe
 have cy0 := hzx n hnl2
 obtain ⟨y, hy⟩ : ∃ y, q.cores.getD n 0 = y := ⟨_, rfl⟩
 have cy : W3.cell? ⟨bx, ox + n, none⟩ = some (.int .i64 y) := by
  rw [← hy, List.getD_eq_getElem?_getD, List.getElem?_eq_getElem hnl2]
  exact cy0
 have HYY := hid hy
 clear cy0
 have cx6 : W3.cell? ⟨xb, 6, none⟩ = some (.slice (some ⟨bx, ox, none⟩) q.cores.length capx) := by rw [range_cell RX.out (k := 6) rfl, ex]
 have BD : Hid (Below W3.heap.size W3 W3.drew) := hid (below_drew W3 1)
 have RD := hid (show W3.drew.cell? ⟨xb, 6, none⟩ = some (.slice (some ⟨bx, ox, none⟩) q.cores.length capx) ∧ W3.drew.cell? ⟨w.heap.size + 1, 0, none⟩ = some (.int .i64 n) ∧ W3.drew.cell? ⟨bx, ox + n, none⟩ = some (.int .i64 y) from ⟨cx6, C3.out, cy⟩)
 have RR := hid (range_below RX.out BD.out)
 have T3 := hid (there_belowO T2.out BD.out)
 have one := hid (world_one WX.out)
 have RZ := hid (World.rangeAt_setCells_same W3.drew (w.heap.size + 2) 0 (arr11 X).toList T3.out)
 have BZ := hid (below_setCells (btr B3.out BD.out) (show w.heap.size ≤ w.heap.size + 2 by omega) (arr11 X).toList 0)
 have FZ := hid ((FX.out.below BD.out).put (w.heap.size + 2) 0 (arr11 X).toList (by omega)).v0
 have HYZ := hid (show q.cores[n]'hnl2 = y by rw [← HYY.out, List.getD_eq_getElem?_getD, List.getElem?_eq_getElem hnl2]; rfl)
 have SZ4 := hid (show (W3.drew.setCells (w.heap.size + 2) 0 (arr11 X).toList).cell? ⟨xb, 6, none⟩ = some (.slice (some ⟨bx, ox, none⟩) q.cores.length capx) ∧ (W3.drew.setCells (w.heap.size + 2) 0 (arr11 X).toList).cell? ⟨w.heap.size + 1, 0, none⟩ = some (.int .i64 n) ∧ (W3.drew.setCells (w.heap.size + 2) 0 (arr11 X).toList).cell? ⟨bx, ox + n, none⟩ = some (.int .i64 y) from ⟨(cell_setCells (by have := HXB.out; omega) _ 0).trans RD.out.1, (cell_setCells (by omega) _ 0).trans RD.out.2.1, by
  obtain ⟨q5, b5, o5, c5, e5, hq5, hz5⟩ := FZ.out.cores
  rw [ex] at e5
  cases e5
  have h5 := hq5 (by omega)
  cases h5
  have := hz5 n hnl2
  rw [HYZ.out] at this
  exact this⟩)
 clear cx6 cy hzx hqx hy BD T2 C3 HYY
 refine wp_region_F (S := fun Y => Y.cell? ⟨xb, 6, none⟩ = some (.slice (some ⟨bx, ox, none⟩) q.cores.length capx) ∧ Y.cell? ⟨w.heap.size + 1, 0, none⟩ = some (.int .i64 n) ∧ Y.cell? ⟨bx, ox + n, none⟩ = some (.int .i64 y)) (R := fun Y => Y.rangeAt xb 0 (arr11 X).toList) [6] (by kernel_rfl) RD.out RR.out (fun hS0 hR0 => ?_)
 have hS := hid hS0
 have hR := hid hR0
 clear hS0 hR0 RD RR
 refine wpAnyF_takeR (i := 0) (v := .agg (arr11 X)) rfl (by kernel_rfl) (by kernel_rfl) (by kernel_rfl) (by kernel_rfl) (by kernel_rfl) (by kernel_rfl) (fun _ _ _ h => h) (yieldsIf_load_mid (by rfl) _ _ rfl _ _ rfl ((arr11 X).toList) _ (fun _ h => h.2) Tryz.underlying28 rfl infoW) hS.out (fun _ => hR.out) ?_
 simp only [jj]
 refine wpAnyF_take (i := 1) (v := .pointer (some ⟨xb, 6, none⟩)) rfl (by kernel_rfl) (by kernel_rfl) (by kernel_rfl) (by kernel_rfl) (fun _ _ _ h => h) (Or.inl ⟨by rfl, fun W h => by clear h; go_simp⟩) hS.out (fun _ => hR.out) ?_
 simp only [jj]
 refine wpAnyF_take (i := 2) (v := .slice (some ⟨bx, ox, none⟩) q.cores.length capx) rfl (by kernel_rfl) (by kernel_rfl) (by kernel_rfl) (by kernel_rfl) (fun _ _ _ h => h) (Or.inl ⟨by rfl, fun W h => by have h3 := h.1; clear h; go_simp⟩) hS.out (fun _ => hR.out) ?_
 simp only [jj]
 refine wpAnyF_take (i := 3) (v := .int .i64 n) rfl (by kernel_rfl) (by kernel_rfl) (by kernel_rfl) (by kernel_rfl) (fun _ _ _ h => h) (Or.inl ⟨by rfl, fun W h => by have h3 := h.2.1; clear h; go_simp⟩) hS.out (fun _ => hR.out) ?_
 simp only [jj]
 refine wpAnyF_take (i := 4) (v := .pointer (some ⟨bx, ox + n, none⟩)) rfl (by kernel_rfl) (by kernel_rfl) (by kernel_rfl) (by kernel_rfl) (fun _ _ _ h => h) (Or.inl ⟨by rfl, fun W h => by clear h; go_simp⟩) hS.out (fun _ => hR.out) ?_
 simp only [jj]
 refine wpAnyF_take (i := 5) (v := .int .i64 y) rfl (by kernel_rfl) (by kernel_rfl) (by kernel_rfl) (by kernel_rfl) (fun _ _ _ h => h) (Or.inl ⟨by rfl, fun W h => by have h3 := h.2.2; clear h; go_simp⟩) hS.out (fun _ => hR.out) ?_
 simp only [jj]
 refine wpAnyF_ready (rs := [6]) (by kernel_rfl) (by simp) (AllReadyF.cons rfl (fun K hK => ?_) AllReadyF.nil)
 refine wp_store_mid 28 _ _ rfl (w.heap.size + 2) 0 (arr11 X) rfl rfl T3.out infoW one.out ?_
 generalize World.setCells _ _ _ _ = W4 at *
 refine hK.out _ _ SZ4.out (notClean (by kernel_rfl)) (fun _ _ => ?_)
 clear hK K
 try simp only [Act.put]
 refine wpAnyF_take (i := 7) (v := .int .i64 y) rfl (by kernel_rfl) (by kernel_rfl) (by kernel_rfl) (by kernel_rfl) (fun _ _ _ h => h) (Or.inl ⟨by rfl, fun W h => by clear h; go_simp⟩) SZ4.out (notClean (by kernel_rfl)) ?_
 simp only [jj]
 refine wpAnyF_take (i := 8) (v := .nilIface) rfl (by kernel_rfl) (by kernel_rfl) (by kernel_rfl) (by kernel_rfl) (fun _ _ _ h => h) (Or.inl ⟨by rfl, fun W h => by clear h; go_simp⟩) SZ4.out (notClean (by kernel_rfl)) ?_
 simp only [jj]
 refine wpAnyF_done (by kernel_rfl) ?_ _
 clear hS hR
 go_wp2_with fail
 exact bodyPost_ret (v := .tuple #[.agg (arr11 X), .int .i64 y, .nilIface]) (results_c3 rfl rfl (run_loadVar_mid _ (w.heap.size + 2) 0 28 (arr11 X).toList _ RZ.out Tryz.underlying28 rfl infoW) rfl rfl) rfl ⟨X, congrArg (fun z => Ending.returned (.tuple #[.agg (arr11 X), .int .i64 z, .nilIface])) HYZ.out.symm, FZ.out, BZ.out⟩
end Go.Proofs.YtakmaeohhclngaaGreatDoor.Wd
