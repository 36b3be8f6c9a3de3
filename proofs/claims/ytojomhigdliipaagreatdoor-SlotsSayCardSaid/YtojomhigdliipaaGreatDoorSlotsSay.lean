/- keyholdlaw.SlotsSay, walked. (Written by mk_slat.py.) -/
import Derived.Test.YtojomhigdliipaaGreatDoorGSlM2
import Derived.Test.YtojomhigdliipaaGreatDoorGSlMore
import Derived.Test.YtojomhigdliipaaGreatDoorGSlMore
namespace Go.Proofs.YtojomhigdliipaaGreatDoor.Wd
open Go.RowKit Go.Proofs.YtojomhigdliipaaGreatDoor.Mem Go.Proofs.YtojomhigdliipaaGreatDoor.Bw Go.Proofs.YtojomhigdliipaaGreatDoor.Nums Go.Proofs.YtojomhigdliipaaGreatDoor.Mmu
theorem bset6o {w W : World} {B : Nat} (hB : w.heap.size ≤ B) {v0 v1 v2 v3 v4 v5 : Value} (h : Below w.heap.size w W) : Below w.heap.size w ((((((W.setCell ⟨B, 0, none⟩ v0).setCell ⟨B, 1, none⟩ v1).setCell ⟨B, 2, none⟩ v2).setCell ⟨B, 3, none⟩ v3).setCell ⟨B, 4, none⟩ v4).setCell ⟨B, 5, none⟩ v5) :=
 bset (bset (bset (bset (bset (bset h hB _) hB _) hB _) hB _) hB _) hB _
theorem wp_eqKK {ops : Array Oper} {rest : List Oper} {op : Oper} {a : Act} {w : World} {Q : Exit → Act → World → Prop} (hw : Region.wanted op (yielded ops a.tmps) = true) (x y : Operand) (ty : TypeId) (ho : op.op = .binOp .eql 40 x y ty) (s : Nat → Int)
  (hx : a.eval x = .agg #[.int .i64 (s 0), .int .i64 (s 1), .int .i64 (s 2), .int .i64 (s 3), .int .i64 (s 4), .int .i64 (s 5)]) (hy : a.eval y = .agg #[.int .i64 (s 0), .int .i64 (s 1), .int .i64 (s 2), .int .i64 (s 3), .int .i64 (s 4), .int .i64 (s 5)]) (h : wpList Tryz.prog ops Q rest (a.put op.dst (.bool true)) w) : wpList Tryz.prog ops Q (op :: rest) a w :=
 BigFrame.wpList_want hw fun _ hK => by
  have hm : Tryz.prog.eqGuardType Tryz.prog.depth 40 = false := by kernel_rfl
  have hn : (binOp .eql 40 (.agg #[.int .i64 (s 0), .int .i64 (s 1), .int .i64 (s 2), .int .i64 (s 3), .int .i64 (s 4), .int .i64 (s 5)]) (.agg #[.int .i64 (s 0), .int .i64 (s 1), .int .i64 (s 2), .int .i64 (s 3), .int .i64 (s 4), .int .i64 (s 5)])).run Tryz.prog w = .ok (.bool true) w := by
   rw [run_eql_struct]
   have := key_eq s 9998 w
   rw [show (cf 6 s).toArray = #[.int .i64 (s 0), .int .i64 (s 1), .int .i64 (s 2), .int .i64 (s 3), .int .i64 (s 4), .int .i64 (s 5)] from rfl] at this
   rw [show (10000 : Nat) = 9998 + 2 from rfl, this]
   rfl
  unfold Oper.wp
  have e : (execOp a.eval op).run Tryz.prog w = .ok (.value (.bool true)) w := by
   unfold execOp
   simp only [ho, hx, hy, Sem.run_bind, run_eqGuard_agg (P := Tryz.prog) w .eql 40 x y #[.int .i64 (s 0), .int .i64 (s 1), .int .i64 (s 2), .int .i64 (s 3), .int .i64 (s 4), .int .i64 (s 5)] #[.int .i64 (s 0), .int .i64 (s 1), .int .i64 (s 2), .int .i64 (s 3), .int .i64 (s 4), .int .i64 (s 5)] hm, hn, Result.andThen_ok, Sem.run_pure]
  rw [e]
  exact hK _ _ h
set_option maxRecDepth 100000 in
set_option maxHeartbeats 8000000 in
theorem slotsSay_any (V : Nat → Value) (p : PW) (n a k r : Int) (w : World) (hv : WorldR w V p) (hr : -9223372036854775808 ≤ r ∧ r ≤ 9223372036854775807) (hg : ETok w) :
  Calls Tryz.prog 4 #[.agg (arr11 V), .int .i64 n, .int .i64 a, .int .i64 k, .int .i64 r] w fun x w' => x = .returned (.bool true) ∧ Below w.heap.size w w' := by
 have RGc := hid (boxed w V 28)
 have B0 := hid (bal (Below.refl w.heap.size w) (.cells (arr11 V) 28))
 have HH := hid (hugeWorld_any V p (w.alloc (.cells (arr11 V) 28)) (hv.below B0.out))
 by_cases hs : Small p
 rotate_left
 ·rw [huge_t hs] at HH
  clear hv hg hr hs
  go_enter Tryz.func4, Tryz.ntmps4
  go_wp2_with (first | ((with_reducible (show wpList _ _ _ (⟨_, Op.load 28 _, _, _, _, _⟩ :: _) _ _)); refine wp_ldWg (by rfl) _ rfl _ rfl V RGc.out ?_))
  refine HH.out.mono ?_
  rintro r1 w1 ⟨rfl, hb⟩
  have BB := hid (btr B0.out hb)
  clear hb
  go_wp2_with fail
  go_ret
  exact ⟨rfl, BB.out⟩
 rw [huge_f hs] at HH
 obtain ⟨hw, hp⟩ := small_world hv hs
 have HP := hid hp
 have HRR := hid hr
 have HVW0 := hid (fun W (hb : Below (w.alloc (.cells (arr11 V) 28)).heap.size (w.alloc (.cells (arr11 V) 28)) W) => hw.below (btr B0.out hb))
 have HG0 := hid (fun W (hb : Below (w.alloc (.cells (arr11 V) 28)).heap.size (w.alloc (.cells (arr11 V) 28)) W) => hg.below (btr B0.out hb))
 clear hv hg hr hs hw hp
 go_enter Tryz.func4, Tryz.ntmps4
 go_wp2_with (first | ((with_reducible (show wpList _ _ _ (⟨_, Op.load 28 _, _, _, _, _⟩ :: _) _ _)); refine wp_ldWg (by rfl) _ rfl _ rfl V RGc.out ?_))
 generalize World.alloc _ _ = W0 at *
 have KS := hid (fun W (hb : Below W0.heap.size W0 W) => range_below RGc.out hb)
 have HVW := hid (show ∀ W, Below W0.heap.size W0 W → WorldV W V p from HVW0.out)
 have HG := hid (show ∀ W, Below W0.heap.size W0 W → ETok W from HG0.out)
 clear HVW0 HG0
 refine HH.out.mono ?_
 rintro r1 w1 ⟨rfl, hb⟩
 have A1 := hid hb
 clear hb HH RGc
 have RGc := hid (KS.out w1 A1.out)
 go_wp2_with (first | ((with_reducible (show wpList _ _ _ (⟨_, Op.load 28 _, _, _, _, _⟩ :: _) _ _)); refine wp_ldWg (by rfl) _ rfl _ rfl V RGc.out ?_))
 refine (sound_law V p w1 (HVW.out w1 A1.out) HP.out).mono ?_
 rintro r2 w2 ⟨rfl, hb⟩
 have A2 := hid (btr A1.out hb)
 have L2 := hid (show W0.heap.size ≤ w2.heap.size from A2.out.size)
 clear hb A1 RGc
 cases hs : sndB p with
 | false =>
  rw [show sndE p = 8 by unfold sndE; rw [hs]; rfl]
  have HF1 := hid (show (fA p n a).1 = 0 by unfold fA; rw [hs]; rfl)
  have HF2 := hid (show (fA p n a).2 = 8 by unfold fA; rw [hs]; rfl)
  have HG1 := hid (show (gA p n a k r).1 = nkey by unfold gA; rw [hs]; rfl)
  have HG2 := hid (show (gA p n a k r).2 = 8 by unfold gA; rw [hs]; rfl)
  have CK := hid (cells_new w2 #[.int .i64 0, .int .i64 0, .int .i64 0, .int .i64 0, .int .i64 0, .int .i64 0] 40)
  have LK := hid (show w2.heap.size < (w2.alloc (.cells #[.int .i64 0, .int .i64 0, .int .i64 0, .int .i64 0, .int .i64 0, .int .i64 0] 40)).heap.size by simp)
  have A3 := hid (bal A2.out (.cells #[.int .i64 0, .int .i64 0, .int .i64 0, .int .i64 0, .int .i64 0, .int .i64 0] 40))
  have RGc := hid (KS.out _ A3.out)
  clear hs
  have h8 : ((8 : Int) == 0) = false := rfl
  generalize (8 : Int) = e at *
  have HFI := hid (find_any V p n a _ (HVW.out _ A3.out) HP.out)
  rw [HF1.out, HF2.out] at HFI
  go_wp2_with (first | ((with_reducible (show wpList _ _ _ (⟨_, Op.load 28 _, _, _, _, _⟩ :: _) _ _)); refine wp_ldWg (by rfl) _ rfl _ rfl V RGc.out ?_))
  refine HFI.out.mono ?_
  rintro r7 w7 ⟨rfl, hb⟩
  have CK7 := hid (cells_next CK.out LK.out hb)
  have A7 := hid (btr A3.out hb)
  have LK7 := hid (Nat.lt_of_lt_of_le LK.out hb.size)
  clear hb HFI CK LK RGc A3
  have RGc := hid (KS.out w7 A7.out)
  have HGE := hid (get_any V p n a k r w7 (HVW.out _ A7.out) HP.out HRR.out)
  rw [HG1.out, HG2.out] at HGE
  go_wp2_with (first | ((with_reducible (show wpList _ _ _ (⟨_, Op.load 28 _, _, _, _, _⟩ :: _) _ _)); refine wp_ldWg (by rfl) _ rfl _ rfl V RGc.out ?_))
  refine HGE.out.mono ?_
  rintro r8 w8 ⟨rfl, hb⟩
  have CK8 := hid (cells_next CK7.out LK7.out hb)
  have A8 := hid (btr A7.out hb)
  have LK8 := hid (Nat.lt_of_lt_of_le LK7.out hb.size)
  clear hb HGE CK7 LK7 A7 RGc HF1 HF2 HG1 HG2
  have CK9 := hid (cells_alloc CK8.out LK8.out (.cells #[.int .i64 0, .int .i64 0, .int .i64 0, .int .i64 0, .int .i64 0, .int .i64 0] 40))
  have CY9 := hid (cells_new w8 #[.int .i64 0, .int .i64 0, .int .i64 0, .int .i64 0, .int .i64 0, .int .i64 0] 40)
  have A9 := hid (bal A8.out (.cells #[.int .i64 0, .int .i64 0, .int .i64 0, .int .i64 0, .int .i64 0, .int .i64 0] 40))
  have S9 := hid (show (w8.alloc (.cells #[.int .i64 0, .int .i64 0, .int .i64 0, .int .i64 0, .int .i64 0, .int .i64 0] 40)).heap.size = w8.heap.size + 1 by simp)
  have EE := hid (fun W => err_any e W)
  have EF := hid (fun W => err_any e W)
  have IE := hid (fun W (hb : Below W0.heap.size W0 W) => is_yes (eV e) e (-1) W (HG.out W hb) (eV_tells e))
  have IF := hid (fun W (hb : Below W0.heap.size W0 W) => is_yes (eV e) e (-1) W (HG.out W hb) (eV_tells e))
  generalize eV e = ve at IE IF ⊢
  simp only [kv, nkey]
  go_wp2_with fail
  generalize World.alloc _ _ = w9 at CK9 CY9 A9 S9 ⊢
  refine (EE.out w9).mono ?_
  rintro r10 w10 ⟨rfl, h10⟩
  have A10 := hid (btr A9.out h10)
  go_wp2_with fail
  refine (IE.out w10 A10.out).mono ?_
  rintro r11 w11 ⟨rfl, h11⟩
  have A11 := hid (btr A10.out h11)
  go_wp2_with fail
  refine (EF.out w11).mono ?_
  rintro r12 w12 ⟨rfl, h12⟩
  have A12 := hid (btr A11.out h12)
  go_wp2_with fail
  refine (IF.out w12 A12.out).mono ?_
  rintro r13 w13 ⟨rfl, h13⟩
  have A13 := hid (btr A12.out h13)
  have h9 := btr (btr (btr h10 h11) h12) h13
  have ck := cells_next CK9.out (by rw [S9.out]; have := LK8.out; omega) h9
  have cy := cells_next CY9.out (by rw [S9.out]; omega) h9
  clear h9 h10 h11 h12 h13
  have k0 := ck 0
  have k1 := ck 1
  have k2 := ck 2
  have k3 := ck 3
  have k4 := ck 4
  have k5 := ck 5
  have y0 := cy 0
  have y1 := cy 1
  have y2 := cy 2
  have y3 := cy 3
  have y4 := cy 4
  have y5 := cy 5
  clear ck cy
  go_wp2_with ((with_reducible (show wpList _ _ _ (⟨_, Op.binOp .eql 40 _ _ _, _, _, _, _⟩ :: _) _ _)); refine wp_eqKK (by rfl) _ _ _ rfl nkey rfl rfl ?_)
  go_ret
  exact ⟨rfl, btr B0.out A13.out⟩
 | true =>
  have HS := hid (snd_of hs)
  have HF1 := hid (show (fA p n a).1 = (sAt p n a).1 by unfold fA; rw [hs]; rfl)
  have HF2 := hid (show (fA p n a).2 = (sAt p n a).2 by unfold fA; rw [hs]; rfl)
  have HG1 := hid (show (gA p n a k r).1 = (kAt p n a k r).1 by unfold gA; rw [hs]; rfl)
  have HG2 := hid (show (gA p n a k r).2 = (kAt p n a k r).2 by unfold gA; rw [hs]; rfl)
  rw [show sndE p = 0 by unfold sndE; rw [hs]; rfl]
  clear hs
  have CK3 := hid (cells_new w2 #[.int .i64 0, .int .i64 0, .int .i64 0, .int .i64 0, .int .i64 0, .int .i64 0] 40)
  have FK3 := hid (show ∀ o, (w2.alloc (.cells #[.int .i64 0, .int .i64 0, .int .i64 0, .int .i64 0, .int .i64 0, .int .i64 0] 40)).frozen? ⟨w2.heap.size, o, none⟩ = false from fun o => World.frozen?_alloc_at _ _ _ _ rfl)
  have LK3 := hid (show w2.heap.size < (w2.alloc (.cells #[.int .i64 0, .int .i64 0, .int .i64 0, .int .i64 0, .int .i64 0, .int .i64 0] 40)).heap.size by simp)
  have A3 := hid (bal A2.out (.cells #[.int .i64 0, .int .i64 0, .int .i64 0, .int .i64 0, .int .i64 0, .int .i64 0] 40))
  have KS1 := hid (fun W (hb : Below W0.heap.size W0 W) => slotAt_ref w.heap.size V p n a W ⟨KS.out W hb, HVW.out W hb, HP.out⟩ HS.out)
  have KS2 := hid (fun W (hb : Below W0.heap.size W0 W) => keyAt_ref w.heap.size V p n a k r W ⟨KS.out W hb, HVW.out W hb, HP.out⟩ HS.out)
  generalize (sAt p n a).1 = t at KS1 HF1
  generalize (sAt p n a).2 = e at KS1 HF2
  generalize (kAt p n a k r).1 = s at KS2 HG1
  generalize (kAt p n a k r).2 = f at KS2 HG2
  go_wp2_with fail
  refine (KS1.out _ A3.out).mono ?_
  rintro r4 w4 ⟨rfl, hb4⟩
  have A4 := hid (btr A3.out hb4)
  go_wp2_with fail
  refine (KS2.out _ A4.out).mono ?_
  rintro r5 w5 ⟨rfl, hb5⟩
  have A5 := hid (btr A4.out hb5)
  have hb := btr hb4 hb5
  have ck5 := cells_next CK3.out LK3.out hb
  have fk5 : ∀ o, w5.frozen? ⟨w2.heap.size, o, none⟩ = false := fun o => (hb.frozen (p := ⟨w2.heap.size, o, none⟩) LK3.out).trans (FK3.out o)
  have CK := hid (six_set (B := w2.heap.size) (v0 := .int .i64 (s 0)) (v1 := .int .i64 (s 1)) (v2 := .int .i64 (s 2)) (v3 := .int .i64 (s 3)) (v4 := .int .i64 (s 4)) (v5 := .int .i64 (s 5)) ck5)
  have LK := hid (show w2.heap.size < ((((((w5.setCell ⟨w2.heap.size, 0, none⟩ (.int .i64 (s 0))).setCell ⟨w2.heap.size, 1, none⟩ (.int .i64 (s 1))).setCell ⟨w2.heap.size, 2, none⟩ (.int .i64 (s 2))).setCell ⟨w2.heap.size, 3, none⟩ (.int .i64 (s 3))).setCell ⟨w2.heap.size, 4, none⟩ (.int .i64 (s 4))).setCell ⟨w2.heap.size, 5, none⟩ (.int .i64 (s 5))).heap.size by have := hb.size; have := LK3.out; simp only [World.size_setCell]; omega)
  have A6 := hid (bset6o (v0 := .int .i64 (s 0)) (v1 := .int .i64 (s 1)) (v2 := .int .i64 (s 2)) (v3 := .int .i64 (s 3)) (v4 := .int .i64 (s 4)) (v5 := .int .i64 (s 5)) L2.out A5.out)
  have RGc := hid (KS.out _ A6.out)
  clear hb hb4 hb5 CK3 FK3 LK3 KS1 KS2 A3 A4 A5
  simp only [kv]
  have HFI := hid (find_any V p n a _ (HVW.out _ A6.out) HP.out)
  rw [HF1.out, HF2.out] at HFI
  go_wp2_with (first | ((with_reducible (show wpList _ _ _ (⟨_, Op.load 28 _, _, _, _, _⟩ :: _) _ _)); refine wp_ldWg (by rfl) _ rfl _ rfl V RGc.out ?_))
  refine HFI.out.mono ?_
  rintro r7 w7 ⟨rfl, hb⟩
  have CK7 := hid (cells_next CK.out LK.out hb)
  have A7 := hid (btr A6.out hb)
  have LK7 := hid (Nat.lt_of_lt_of_le LK.out hb.size)
  clear hb HFI CK LK RGc A6
  have RGc := hid (KS.out w7 A7.out)
  have HGE := hid (get_any V p n a k r w7 (HVW.out _ A7.out) HP.out HRR.out)
  rw [HG1.out, HG2.out] at HGE
  go_wp2_with (first | ((with_reducible (show wpList _ _ _ (⟨_, Op.load 28 _, _, _, _, _⟩ :: _) _ _)); refine wp_ldWg (by rfl) _ rfl _ rfl V RGc.out ?_))
  refine HGE.out.mono ?_
  rintro r8 w8 ⟨rfl, hb⟩
  have CK8 := hid (cells_next CK7.out LK7.out hb)
  have A8 := hid (btr A7.out hb)
  have LK8 := hid (Nat.lt_of_lt_of_le LK7.out hb.size)
  clear hb HGE CK7 LK7 A7 RGc HF1 HF2 HG1 HG2
  have CK9 := hid (cells_alloc CK8.out LK8.out (.cells #[.int .i64 (s 0), .int .i64 (s 1), .int .i64 (s 2), .int .i64 (s 3), .int .i64 (s 4), .int .i64 (s 5)] 40))
  have CY9 := hid (cells_new w8 #[.int .i64 (s 0), .int .i64 (s 1), .int .i64 (s 2), .int .i64 (s 3), .int .i64 (s 4), .int .i64 (s 5)] 40)
  have A9 := hid (bal A8.out (.cells #[.int .i64 (s 0), .int .i64 (s 1), .int .i64 (s 2), .int .i64 (s 3), .int .i64 (s 4), .int .i64 (s 5)] 40))
  have S9 := hid (show (w8.alloc (.cells #[.int .i64 (s 0), .int .i64 (s 1), .int .i64 (s 2), .int .i64 (s 3), .int .i64 (s 4), .int .i64 (s 5)] 40)).heap.size = w8.heap.size + 1 by simp)
  have EE := hid (fun W => err_any e W)
  have EF := hid (fun W => err_any f W)
  have IE := hid (fun W (hb : Below W0.heap.size W0 W) => is_yes (eV e) e (-1) W (HG.out W hb) (eV_tells e))
  have IF := hid (fun W (hb : Below W0.heap.size W0 W) => is_yes (eV f) f (-1) W (HG.out W hb) (eV_tells f))
  generalize eV e = ve at IE ⊢
  generalize eV f = vf at IF ⊢
  simp only [kv]
  go_wp2_with fail
  generalize World.alloc _ _ = w9 at CK9 CY9 A9 S9 ⊢
  refine (EE.out w9).mono ?_
  rintro r10 w10 ⟨rfl, h10⟩
  have A10 := hid (btr A9.out h10)
  go_wp2_with fail
  refine (IE.out w10 A10.out).mono ?_
  rintro r11 w11 ⟨rfl, h11⟩
  have A11 := hid (btr A10.out h11)
  go_wp2_with fail
  refine (EF.out w11).mono ?_
  rintro r12 w12 ⟨rfl, h12⟩
  have A12 := hid (btr A11.out h12)
  go_wp2_with fail
  refine (IF.out w12 A12.out).mono ?_
  rintro r13 w13 ⟨rfl, h13⟩
  have A13 := hid (btr A12.out h13)
  have h9 := btr (btr (btr h10 h11) h12) h13
  have ck := cells_next CK9.out (by rw [S9.out]; have := LK8.out; omega) h9
  have cy := cells_next CY9.out (by rw [S9.out]; omega) h9
  clear h9 h10 h11 h12 h13
  have k0 := ck 0
  have k1 := ck 1
  have k2 := ck 2
  have k3 := ck 3
  have k4 := ck 4
  have k5 := ck 5
  have y0 := cy 0
  have y1 := cy 1
  have y2 := cy 2
  have y3 := cy 3
  have y4 := cy 4
  have y5 := cy 5
  clear ck cy
  go_wp2_with ((with_reducible (show wpList _ _ _ (⟨_, Op.binOp .eql 40 _ _ _, _, _, _, _⟩ :: _) _ _)); refine wp_eqKK (by rfl) _ _ _ rfl s rfl rfl ?_)
  go_ret
  exact ⟨rfl, btr B0.out A13.out⟩
end Go.Proofs.YtojomhigdliipaaGreatDoor.Wd
