/- What is done to worlds: deed.Do, walked, whatever is done. (Written by mk_do.py.) · deed.Do once more, with where the new world does not lie. (Written by mk_tc2.py.) · Whether a deed did what it should: keyholdref.Nothing, keyholdlaw.did; walked. (Written by mk_do.py.) -/
import Derived.Test.YtoebmjgkfkfhjaaGreatDoorGBx
import Derived.Test.YtoebmjgkfkfhjaaGreatDoorGSl
import Derived.BigGuard
import Derived.BigCall
namespace Go.Proofs.YtoebmjgkfkfhjaaGreatDoor.Wd
open Go.RowKit Go.Proofs.YtoebmjgkfkfhjaaGreatDoor.Mem Go.Proofs.YtoebmjgkfkfhjaaGreatDoor.Bw Go.Proofs.YtoebmjgkfkfhjaaGreatDoor.Nums Go.Proofs.YtoebmjgkfkfhjaaGreatDoor.Mmu
/-- The error of a world and a deed: no sound world, or the deed's. -/
def dE (p : PW) (e : Int) : Int := if sndB p then e else 8
def dP (p p' : PW) (e : Int) : PW := if dE p e = 0 then p' else noP
theorem eval_get (a : Act) (t : Nat) : a.eval (.tmp t) = a.tmps[t]?.getD undef := by simp [Act.eval, Array.getD_eq_getD_getElem?]
theorem results_c2 {fn : Func} {p u : Tmp} {ty : TypeId} (h : fn.results = #[.cell p ty, .tmp u]) {a : Act} {P : Program} {w : World} {b : Nat} {x y : Value} (hp : a.eval (.tmp p) = .pointer (some ⟨b, 0, none⟩)) (hl : (loadVar ty ⟨b, 0, none⟩).run P w = .ok x w) (hu : a.eval (.tmp u) = y) :
  (results fn a.tmps).run P w = .ok (.tuple #[x, y]) w := by
 rw [eval_get] at hp hu
 simp only [results, h]
 simp [Result.andThen, asAddr, hp, hu, hl]
theorem results_d2 {fn : Func} {p u : Tmp} {ty : TypeId} (h : fn.results = #[.cell p ty, .tmp u]) {tmps : Array Value} {P : Program} {w : World} {b : Nat} {x y : Value} (hp : tmps.getD p undef = .pointer (some ⟨b, 0, none⟩)) (hl : (loadVar ty ⟨b, 0, none⟩).run P w = .ok x w) (hu : tmps.getD u undef = y) :
  (results fn tmps).run P w = .ok (.tuple #[x, y]) w := results_c2 (a := ⟨tmps, []⟩) h hp hl hu
set_option maxRecDepth 100000 in
set_option maxHeartbeats 8000000 in
theorem do_far (N : Nat) (caps : Array Value) (ok : World → Prop) (V : Nat → Value) (p p' : PW) (e : Int) (w : World) (hv : WorldV w V p) (hp : p.Fits) (hN : ∀ args (W : World), (callFunc N args).run Tryz.prog W = .ok (.enter N args) W)
  (hok : ∀ W, Below w.heap.size w W → ok W) (hd : Snd p → DeedF N caps ok eV p p' e) :
  Calls Tryz.prog 28 #[.agg (arr11 V), .func (.func N) #[] caps] w fun r w' => ∃ X, r = .returned (.tuple #[.agg (arr11 X), eV (dE p e)]) ∧ FarV w' w.heap.size X (dP p p' e) ∧ Below w.heap.size w w' := by
 have RG1 := boxed w V 28
 have RG0 := hid (range_below RG1 (bal (Below.refl _ (w.alloc (.cells (arr11 V) 28))) (.cells #[.slice none 0 0, .slice none 0 0, .slice none 0 0, .slice none 0 0, .slice none 0 0, .slice none 0 0, .slice none 0 0, .slice none 0 0, .slice none 0 0, .slice none 0 0, .int .i64 0] 28)))
 have B0 := hid (bal (bal (Below.refl w.heap.size w) (.cells (arr11 V) 28)) (.cells #[.slice none 0 0, .slice none 0 0, .slice none 0 0, .slice none 0 0, .slice none 0 0, .slice none 0 0, .slice none 0 0, .slice none 0 0, .slice none 0 0, .slice none 0 0, .int .i64 0] 28))
 have T0 := hid (there_new (w.alloc (.cells (arr11 V) 28)) #[.slice none 0 0, .slice none 0 0, .slice none 0 0, .slice none 0 0, .slice none 0 0, .slice none 0 0, .slice none 0 0, .slice none 0 0, .slice none 0 0, .slice none 0 0, .int .i64 0] 28 (w.heap.size + 1) 11 (by simp) (by decide))
 have HV := hid hv
 have HP := hid hp
 have HD := hid hd
 have HK := hid hok
 have L0 := hid (show w.heap.size + 1 < ((w.alloc (.cells (arr11 V) 28)).alloc (.cells #[.slice none 0 0, .slice none 0 0, .slice none 0 0, .slice none 0 0, .slice none 0 0, .slice none 0 0, .slice none 0 0, .slice none 0 0, .slice none 0 0, .slice none 0 0, .int .i64 0] 28)).heap.size by simp)
 clear hv hp hd hok RG1
 go_enter Tryz.func28, Tryz.ntmps28
 go_wp2_with (first | ((with_reducible (show wpList _ _ _ (⟨_, Op.load 28 _, _, _, _, _⟩ :: _) _ _)); refine wp_ldWg (by rfl) _ rfl _ rfl V RG0.out ?_))
 generalize World.alloc _ _ = W0 at *
 refine (check_any V p W0 (HV.out.below B0.out) HP.out).mono ?_
 rintro r w1 ⟨x, rfl, hc, hb⟩
 have A1 := hid hb
 have B1 := hid (btr B0.out hb)
 have T1 := hid (there_belowO T0.out hb)
 have RG := hid (range_below RG0.out hb)
 have L1 := hid (Nat.lt_of_lt_of_le L0.out hb.size)
 have XV := hid (zero_world w1)
 have zo := hid (world_one (zero_world w1))
 cases hs : sndB p with
 | false =>
  have HE := hid (show dE p e = 8 by unfold dE; rw [hs]; rfl)
  have HQ := hid (show dP p p' e = noP by unfold dP; rw [HE.out]; rfl)
  have HX := hid (chk_not3 hc hs)
  have RX := hid (World.rangeAt_setCells_same w1 (w.heap.size + 1) 0 (arr11 zeroV).toList T1.out)
  have BX := hid (below_setCells B1.out (show w.heap.size ≤ w.heap.size + 1 by omega) (arr11 zeroV).toList 0)
  clear hb hc hs RG A1
  rcases HX.out with ⟨y, rfl⟩ | ⟨y, rfl⟩
  ·clear HX
   go_wp2_with (first | ((with_reducible (show wpList _ _ _ (⟨_, Op.store 28 _ _, _, _, _, _⟩ :: _) _ _)); refine wpList_store_mid rfl 28 _ _ rfl (w.heap.size + 1) 0 (arr11 zeroV) rfl rfl T1.out infoW zo.out ?_))
   exact bodyPost_ret (v := .tuple #[.agg (arr11 zeroV), .iface 35 (.int .i64 8)]) (results_d2 rfl rfl (run_loadVar_mid _ (w.heap.size + 1) 0 28 (arr11 zeroV).toList _ RX.out Tryz.underlying28 rfl infoW) rfl) rfl ⟨zeroV, by rw [HE.out]; rfl, by rw [HQ.out]; exact fun _ _ => zero_world _, BX.out⟩
  ·clear HX
   go_wp2_with (first | ((with_reducible (show wpList _ _ _ (⟨_, Op.store 28 _ _, _, _, _, _⟩ :: _) _ _)); refine wpList_store_mid rfl 28 _ _ rfl (w.heap.size + 1) 0 (arr11 zeroV) rfl rfl T1.out infoW zo.out ?_))
   exact bodyPost_ret (v := .tuple #[.agg (arr11 zeroV), .iface 35 (.int .i64 8)]) (results_d2 rfl rfl (run_loadVar_mid _ (w.heap.size + 1) 0 28 (arr11 zeroV).toList _ RX.out Tryz.underlying28 rfl infoW) rfl) rfl ⟨zeroV, by rw [HE.out]; rfl, by rw [HQ.out]; exact fun _ _ => zero_world _, BX.out⟩
 | true =>
 obtain rfl := chk_nil hc hs
 have HS := hid (snd_of hs)
 have HE := hid (show dE p e = e by unfold dE; rw [hs]; rfl)
 clear hb hc hs
 go_wp2_with (first | ((with_reducible (show wpList _ _ _ (⟨_, Op.load 28 _, _, _, _, _⟩ :: _) _ _)); refine wp_ldWg (by rfl) _ rfl _ rfl V RG.out ?_))
 refine (twin_any V p w1 (HV.out.below B1.out) HP.out).mono ?_
 rintro r w2 ⟨U, L, rfl, hO, hL0, hL1, hb⟩
 have TN := hid (there_new w2 #[.slice none 0 0, .slice none 0 0, .slice none 0 0, .slice none 0 0, .slice none 0 0, .slice none 0 0, .slice none 0 0, .slice none 0 0, .slice none 0 0, .slice none 0 0, .int .i64 0] 28 w2.heap.size 11 rfl (by decide))
 have B2 := hid (btr B1.out hb)
 have L2 := hid (show w.heap.size + 2 ≤ L 0 from Nat.le_trans (Nat.succ_le_of_lt L1.out) hL0)
 have T2 := hid (there_belowO T1.out hb)
 have one := hid (world_one (hO.v (tlbs_le HV.out.tlbs)))
 have BO := hid (show BoxO ((w2.alloc (.cells #[.slice none 0 0, .slice none 0 0, .slice none 0 0, .slice none 0 0, .slice none 0 0, .slice none 0 0, .slice none 0 0, .slice none 0 0, .slice none 0 0, .slice none 0 0, .int .i64 0] 28)).setCells w2.heap.size 0 (arr11 U).toList) w2.heap.size L U p from
  ⟨World.rangeAt_setCells_same _ w2.heap.size 0 (arr11 U).toList TN.out, there_sets _ 0 _ TN.out, worldO_over (hO.below (bal (Below.refl _ w2) (.cells #[.slice none 0 0, .slice none 0 0, .slice none 0 0, .slice none 0 0, .slice none 0 0, .slice none 0 0, .slice none 0 0, .slice none 0 0, .slice none 0 0, .slice none 0 0, .int .i64 0] 28))) hL1 _ 0, hL1, by rw [setCells_size]; simp⟩)
 have B3 := hid (below_setCells (bal B2.out (.cells #[.slice none 0 0, .slice none 0 0, .slice none 0 0, .slice none 0 0, .slice none 0 0, .slice none 0 0, .slice none 0 0, .slice none 0 0, .slice none 0 0, .slice none 0 0, .int .i64 0] 28)) B2.out.size (arr11 U).toList 0)
 have T3 := hid (there_sets (B := w2.heap.size) (arr11 U).toList 0 _ (there_belowO T2.out (bal (Below.refl _ w2) (.cells #[.slice none 0 0, .slice none 0 0, .slice none 0 0, .slice none 0 0, .slice none 0 0, .slice none 0 0, .slice none 0 0, .slice none 0 0, .slice none 0 0, .slice none 0 0, .int .i64 0] 28))))
 clear hb hO hL0 hL1 RG RG0 A1 T1 T0 B0
 go_wp2_with (first | ((with_reducible (show wpList _ _ _ (⟨_, Op.store 28 _ _, _, _, _, _⟩ :: _) _ _)); refine wpList_store_mid rfl 28 _ _ rfl w2.heap.size 0 (arr11 U) rfl rfl TN.out infoW one.out ?_))
 generalize World.setCells _ _ _ _ = W3 at *
 refine (HD.out HS.out W3 w2.heap.size L U BO.out (HK.out _ B3.out) (fun _ h => HK.out _ (B3.out.trans (h.mono (by have := L2.out; omega))))).mono ?_
 rintro r w4 ⟨rfl, h4, h5⟩
 have B4 := hid (show Below w.heap.size w w4 from B3.out.trans (h4.mono (by have := L2.out; omega)))
 have T4 := hid (there_N T3.out h4 (by have := L2.out; omega))
 have H5 := hid h5
 clear h4 h5 TN BO one HD
 by_cases he : e = 0
 rotate_left
 ·have HQ := hid (show dP p p' e = noP by unfold dP; rw [HE.out, if_neg he])
  have HX := hid (eV_n he)
  have RX := hid (World.rangeAt_setCells_same w4 (w.heap.size + 1) 0 (arr11 zeroV).toList T4.out)
  have BX := hid (below_setCells B4.out (show w.heap.size ≤ w.heap.size + 1 by omega) (arr11 zeroV).toList 0)
  rw [HX.out]
  clear he H5
  go_wp2_with (first | ((with_reducible (show wpList _ _ _ (⟨_, Op.store 28 _ _, _, _, _, _⟩ :: _) _ _)); refine wpList_store_mid rfl 28 _ _ rfl (w.heap.size + 1) 0 (arr11 zeroV) rfl rfl T4.out infoW zo.out ?_))
  exact bodyPost_ret (v := .tuple #[.agg (arr11 zeroV), .iface 35 (.int .i64 e)]) (results_d2 rfl rfl (run_loadVar_mid _ (w.heap.size + 1) 0 28 (arr11 zeroV).toList _ RX.out Tryz.underlying28 rfl infoW) rfl) rfl ⟨zeroV, by rw [HE.out, HX.out], by rw [HQ.out]; exact fun _ _ => zero_world _, BX.out⟩
 obtain ⟨X, bo⟩ := H5.out he
 have HX := hid (show eV e = .nilIface by rw [he]; rfl)
 have HQ := hid (show dP p p' e = p' by unfold dP; rw [HE.out, if_pos he])
 have one2 := hid (world_one bo.f.v0)
 have RGX := hid bo.r
 have RX := hid (World.rangeAt_setCells_same w4 (w.heap.size + 1) 0 (arr11 X).toList T4.out)
 have BX := hid (below_setCells B4.out (show w.heap.size ≤ w.heap.size + 1 by omega) (arr11 X).toList 0)
 have WX := hid ((bo.f.put (w.heap.size + 1) 0 (arr11 X).toList (by have := L2.out; omega)).mono (show w.heap.size ≤ L 0 by have := L2.out; omega))
 rw [HX.out]
 clear he H5 bo
 go_wp2_with (first | ((with_reducible (show wpList _ _ _ (⟨_, Op.load 28 _, _, _, _, _⟩ :: _) _ _)); refine wp_ldWg (by rfl) _ rfl _ rfl X RGX.out ?_) | ((with_reducible (show wpList _ _ _ (⟨_, Op.store 28 _ _, _, _, _, _⟩ :: _) _ _)); refine wpList_store_mid rfl 28 _ _ rfl (w.heap.size + 1) 0 (arr11 X) rfl rfl T4.out infoW one2.out ?_))
 exact bodyPost_ret (v := .tuple #[.agg (arr11 X), .nilIface]) (results_d2 rfl rfl (run_loadVar_mid _ (w.heap.size + 1) 0 28 (arr11 X).toList _ RX.out Tryz.underlying28 rfl infoW) rfl) rfl ⟨X, by rw [HE.out, HX.out], by rw [HQ.out]; exact WX.out, BX.out⟩
set_option maxRecDepth 100000 in
set_option maxHeartbeats 4000000 in
theorem nothing_any (X : Nat → Value) (w : World) (hv : WorldV w X noP) :
  Calls Tryz.prog 32 #[.agg (arr11 X)] w fun r w' => r = .returned (.bool true) ∧ Below w.heap.size w w' := by
 have RG := boxed w X 28
 have B0 := hid (bal (Below.refl w.heap.size w) (.cells (arr11 X) 28))
 obtain ⟨q0, _, _, c0, e0, -, -⟩ := hv.ram
 obtain ⟨q1, _, _, c1, e1, -, -⟩ := hv.kinds
 obtain ⟨q2, _, _, c2, e2, -, -⟩ := hv.slots
 obtain ⟨q3, _, _, c3, e3, -, -⟩ := hv.tasks
 obtain ⟨q4, _, _, c4, e4, -, -⟩ := hv.lines
 obtain ⟨q5, _, _, c5, e5, -, -⟩ := hv.bits
 obtain ⟨q6, _, _, c6, e6, -, -⟩ := hv.cores
 obtain ⟨q7, _, _, c7, e7, -, -⟩ := hv.ready
 obtain ⟨q8, _, _, c8, e8, -, -⟩ := hv.tlbs
 obtain ⟨q9, _, _, c9, e9, -, -⟩ := hv.doms
 have e10 := hv.time
 simp only [noP, List.length_nil] at e0 e1 e2 e3 e4 e5 e6 e7 e8 e9 e10
 have g0 : (w.alloc (.cells (arr11 X) 28)).cell? ⟨w.heap.size, 0, none⟩ = some (X 0) := range_cell RG rfl
 have g1 : (w.alloc (.cells (arr11 X) 28)).cell? ⟨w.heap.size, 1, none⟩ = some (X 1) := range_cell RG rfl
 have g2 : (w.alloc (.cells (arr11 X) 28)).cell? ⟨w.heap.size, 2, none⟩ = some (X 2) := range_cell RG rfl
 have g3 : (w.alloc (.cells (arr11 X) 28)).cell? ⟨w.heap.size, 3, none⟩ = some (X 3) := range_cell RG rfl
 have g4 : (w.alloc (.cells (arr11 X) 28)).cell? ⟨w.heap.size, 4, none⟩ = some (X 4) := range_cell RG rfl
 have g5 : (w.alloc (.cells (arr11 X) 28)).cell? ⟨w.heap.size, 5, none⟩ = some (X 5) := range_cell RG rfl
 have g6 : (w.alloc (.cells (arr11 X) 28)).cell? ⟨w.heap.size, 6, none⟩ = some (X 6) := range_cell RG rfl
 have g7 : (w.alloc (.cells (arr11 X) 28)).cell? ⟨w.heap.size, 7, none⟩ = some (X 7) := range_cell RG rfl
 have g8 : (w.alloc (.cells (arr11 X) 28)).cell? ⟨w.heap.size, 8, none⟩ = some (X 8) := range_cell RG rfl
 have g9 : (w.alloc (.cells (arr11 X) 28)).cell? ⟨w.heap.size, 9, none⟩ = some (X 9) := range_cell RG rfl
 have g10 : (w.alloc (.cells (arr11 X) 28)).cell? ⟨w.heap.size, 10, none⟩ = some (X 10) := range_cell RG rfl
 clear hv RG
 go_enter Tryz.func32, Tryz.ntmps32
 go_wp2_with fail
 go_ret
 exact ⟨rfl, B0.out⟩
theorem dE_eq {p : PW} {e : Int} (h : sndB p = true) : dE p e = e := by unfold dE; rw [h]; rfl
set_option maxRecDepth 100000 in
set_option maxHeartbeats 8000000 in
theorem did_any (N : Nat) (caps : Array Value) (ok : World → Prop) (V X : Nat → Value) (p p' : PW) (e : Int) (w : World) (hv : WorldV w V p) (hp : p.Fits) (hp' : p'.Fits) (hx : WorldV w X (dP p p' e)) (hN : ∀ args (W : World), (callFunc N args).run Tryz.prog W = .ok (.enter N args) W)
  (hok : ∀ W, Below w.heap.size w W → ok W) (hd : Snd p → DeedF N caps ok (fun e => .int .i64 e) p p' e) (hg : ETok w) :
  Calls Tryz.prog 9 #[.agg (arr11 X), eV (dE p e), .agg (arr11 V), .int .i64 (sndE p), .func (.func N) #[] caps] w fun r w' => r = .returned (.bool true) ∧ Below w.heap.size w w' := by
 have RX1 := boxed w X 28
 have RX0 := hid (range_below RX1 (bal (Below.refl _ (w.alloc (.cells (arr11 X) 28))) (.cells (arr11 V) 28)))
 have RV0 := hid (show ((w.alloc (.cells (arr11 X) 28)).alloc (.cells (arr11 V) 28)).rangeAt (w.heap.size + 1) 0 (arr11 V).toList by have := boxed (w.alloc (.cells (arr11 X) 28)) V 28; simpa using this)
 have B0 := hid (bal (bal (Below.refl w.heap.size w) (.cells (arr11 X) 28)) (.cells (arr11 V) 28))
 have L0 := hid (show w.heap.size + 1 < ((w.alloc (.cells (arr11 X) 28)).alloc (.cells (arr11 V) 28)).heap.size by simp)
 have HV := hid hv
 have HX := hid hx
 have HP := hid hp
 have HP' := hid hp'
 have HD := hid hd
 have HK := hid hok
 have HG := hid hg
 clear hv hx hp hp' hd hok hg RX1
 go_enter Tryz.func9, Tryz.ntmps9
 go_wp2_with (first | ((with_reducible (show wpList _ _ _ (⟨_, Op.load 28 _, _, _, _, _⟩ :: _) _ _)); refine wp_ldWg (by rfl) _ rfl _ rfl V RV0.out ?_))
 generalize World.alloc _ _ = W0 at *
 refine (copy_ref V p W0 (HV.out.below B0.out) HP.out).mono ?_
 rintro r w2 ⟨U, L, rfl, hO, hL0, hL1, hb⟩
 have TN := hid (there_new w2 #[.slice none 0 0, .slice none 0 0, .slice none 0 0, .slice none 0 0, .slice none 0 0, .slice none 0 0, .slice none 0 0, .slice none 0 0, .slice none 0 0, .slice none 0 0, .int .i64 0] 28 w2.heap.size 11 rfl (by decide))
 have B2 := hid (btr B0.out hb)
 have L2 := hid (show w.heap.size + 2 ≤ L 0 from Nat.le_trans (Nat.succ_le_of_lt L0.out) hL0)
 have S2 := hid (show w.heap.size + 2 ≤ w2.heap.size from Nat.le_trans (Nat.succ_le_of_lt L0.out) hb.size)
 have one := hid (world_one (hO.v (tlbs_le HV.out.tlbs)))
 have BO := hid (show BoxO ((w2.alloc (.cells #[.slice none 0 0, .slice none 0 0, .slice none 0 0, .slice none 0 0, .slice none 0 0, .slice none 0 0, .slice none 0 0, .slice none 0 0, .slice none 0 0, .slice none 0 0, .int .i64 0] 28)).setCells w2.heap.size 0 (arr11 U).toList) w2.heap.size L U p from
  ⟨World.rangeAt_setCells_same _ w2.heap.size 0 (arr11 U).toList TN.out, there_sets _ 0 _ TN.out, worldO_over (hO.below (bal (Below.refl _ w2) (.cells #[.slice none 0 0, .slice none 0 0, .slice none 0 0, .slice none 0 0, .slice none 0 0, .slice none 0 0, .slice none 0 0, .slice none 0 0, .slice none 0 0, .slice none 0 0, .int .i64 0] 28))) hL1 _ 0, hL1, by rw [setCells_size]; simp⟩)
 have B3 := hid (below_setCells (bal B2.out (.cells #[.slice none 0 0, .slice none 0 0, .slice none 0 0, .slice none 0 0, .slice none 0 0, .slice none 0 0, .slice none 0 0, .slice none 0 0, .slice none 0 0, .slice none 0 0, .int .i64 0] 28)) B2.out.size (arr11 U).toList 0)
 have RX3 := hid (range_N (range_below (range_below RX0.out hb) (bal (Below.refl _ w2) (.cells #[.slice none 0 0, .slice none 0 0, .slice none 0 0, .slice none 0 0, .slice none 0 0, .slice none 0 0, .slice none 0 0, .slice none 0 0, .slice none 0 0, .slice none 0 0, .int .i64 0] 28))) (below_setN (B := w2.heap.size) (arr11 U).toList 0 _ (Nat.le_refl _)) (by have := S2.out; omega))
 clear hb hO hL0 hL1 RX0 RV0 B0 L0
 go_upto_region 2 with (first | ((with_reducible (show wpList _ _ _ (⟨_, Op.store 28 _ _, _, _, _, _⟩ :: _) _ _)); refine wpList_store_mid rfl 28 _ _ rfl w2.heap.size 0 (arr11 U) rfl rfl TN.out infoW one.out ?_))
 generalize World.setCells _ _ _ _ = W3 at *
 clear TN one
 cases hs : sndB p with
 | false =>
  have HE := hid (show dE p e = 8 by unfold dE; rw [hs]; rfl)
  rw [HE.out, show sndE p = 8 by unfold sndE; rw [hs]; rfl]
  have HNX := hid (show WorldV w X noP by have h := HX.out; unfold dP at h; rw [HE.out] at h; exact h)
  have BY := B3
  have RXY := RX3
  clear hs HD BO HX
  go_wp2_with fail
  refine (err_any 8 _).mono ?_
  rintro r y1 ⟨rfl, hb⟩
  have Y1 := hid (show Below w.heap.size w y1 from btr BY.out hb)
  have RY1 := hid (range_below RXY.out hb)
  clear hb
  go_wp2_with fail
  refine (is_yes (eV 8) 8 (-1) y1 (HG.out.below Y1.out) (eV_tells 8)).mono ?_
  rintro r y2 ⟨rfl, hb⟩
  have Y2 := hid (show Below w.heap.size w y2 from btr Y1.out hb)
  have RY2 := hid (range_below RY1.out hb)
  clear hb
  go_wp2_with (first | ((with_reducible (show wpList _ _ _ (⟨_, Op.load 28 _, _, _, _, _⟩ :: _) _ _)); refine wp_ldWg (by rfl) _ rfl _ rfl X RY2.out ?_))
  refine (nothing_any X y2 (HNX.out.below Y2.out)).mono ?_
  rintro r y3 ⟨rfl, hb⟩
  have Y3 := hid (show Below w.heap.size w y3 from btr Y2.out hb)
  clear hb
  go_wp2_with fail
  go_ret
  exact ⟨rfl, Y3.out⟩
 | true =>
  have HE := hid (dE_eq (e := e) hs)
  have HS := hid (snd_of hs)
  rw [HE.out, show sndE p = 0 by unfold sndE; rw [hs]; rfl]
  clear hs
  go_wp2_with fail
  refine (HD.out HS.out W3 w2.heap.size L U BO.out (HK.out _ B3.out) (fun _ h => HK.out _ (B3.out.trans (h.mono (by have := L2.out; omega))))).mono ?_
  rintro r w4 ⟨rfl, h4, h5⟩
  have B4 := hid (show Below w.heap.size w w4 from B3.out.trans (h4.mono (by have := L2.out; omega)))
  have RX4 := hid (range_N RX3.out h4 (by have := L2.out; omega))
  have H5 := hid h5
  clear h4 h5 BO HD
  by_cases he : e = 0
  rotate_left
  ·have heb : (e != 0) = true := by simpa using he
   have HNX := hid (show WorldV w X noP by have h := HX.out; unfold dP at h; rw [HE.out, if_neg he] at h; exact h)
   have BY := B4
   have RXY := RX4
   clear he H5 HX
   go_wp2_with fail
   refine (err_any e _).mono ?_
   rintro r y1 ⟨rfl, hb⟩
   have Y1 := hid (show Below w.heap.size w y1 from btr BY.out hb)
   have RY1 := hid (range_below RXY.out hb)
   clear hb
   go_wp2_with fail
   refine (is_yes (eV e) e (-1) y1 (HG.out.below Y1.out) (eV_tells e)).mono ?_
   rintro r y2 ⟨rfl, hb⟩
   have Y2 := hid (show Below w.heap.size w y2 from btr Y1.out hb)
   have RY2 := hid (range_below RY1.out hb)
   clear hb
   go_wp2_with (first | ((with_reducible (show wpList _ _ _ (⟨_, Op.load 28 _, _, _, _, _⟩ :: _) _ _)); refine wp_ldWg (by rfl) _ rfl _ rfl X RY2.out ?_))
   refine (nothing_any X y2 (HNX.out.below Y2.out)).mono ?_
   rintro r y3 ⟨rfl, hb⟩
   have Y3 := hid (show Below w.heap.size w y3 from btr Y2.out hb)
   clear hb
   go_wp2_with fail
   go_ret
   exact ⟨rfl, Y3.out⟩
  obtain ⟨Y, bo⟩ := H5.out he
  have RY := hid bo.r
  have WY := hid bo.f.v0
  have WX := hid (show WorldV w4 X p' by have h := HX.out; unfold dP at h; rw [HE.out, if_pos he] at h; exact h.below B4.out)
  subst he
  rw [eV_0]
  clear H5 bo HX
  go_wp2_with (first | ((with_reducible (show wpList _ _ _ (⟨_, Op.load 28 _, _, _, _, _⟩ :: _) _ _)); refine wp_ldWg (by rfl) _ rfl _ rfl X RX4.out ?_) | ((with_reducible (show wpList _ _ _ (⟨_, Op.load 28 _, _, _, _, _⟩ :: _) _ _)); refine wp_ldWg (by rfl) _ rfl _ rfl Y RY.out ?_))
  refine (sameWorld_yes X Y p' w4 WX.out WY.out HP'.out).mono ?_
  rintro r w5 ⟨rfl, hb⟩
  have B5 := hid (btr B4.out hb)
  clear hb
  go_wp2_with fail
  go_ret
  exact ⟨rfl, B5.out⟩
end Go.Proofs.YtoebmjgkfkfhjaaGreatDoor.Wd
