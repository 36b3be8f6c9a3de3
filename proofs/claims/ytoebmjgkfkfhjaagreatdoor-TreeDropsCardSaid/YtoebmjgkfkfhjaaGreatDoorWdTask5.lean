/- Tasks, by the other text: keyholdref.taskWell, of a frame that is none; walked. (Written by mk_task5.py.) -/
import Derived.Test.YtoebmjgkfkfhjaaGreatDoorGSlot3
import Derived.Test.YtoebmjgkfkfhjaaGreatDoorWdLine2
import Derived.Deep.RegionHeld3
namespace Go.Proofs.YtoebmjgkfkfhjaaGreatDoor.Wd
open Go.RowKit Go.Proofs.YtoebmjgkfkfhjaaGreatDoor.Mem Go.Proofs.YtoebmjgkfkfhjaaGreatDoor.Bw Go.Proofs.YtoebmjgkfkfhjaaGreatDoor.Nums Go.Proofs.YtoebmjgkfkfhjaaGreatDoor.Mmu
theorem exec_elN {ρ : Operand → Value} {o : Oper} (x y : Operand) (ty : TypeId) (ho : o.op = .binOp .eql 85 x y ty) (f g : Nat → Int) (h : ¬ ∀ k, k < 20 → f k = g k) (hx : ρ x = .agg (cf 20 f).toArray) (hy : ρ y = .agg (cf 20 g).toArray) (W : World) : (execOp ρ o).run Tryz.prog W = .ok (.value (.bool false)) W := by
 have hm : Tryz.prog.eqGuardType Tryz.prog.depth 85 = false := by kernel_rfl
 have hn : (binOp .eql 85 (.agg (cf 20 f).toArray) (.agg (cf 20 g).toArray)).run Tryz.prog W = .ok (.bool false) W := by rw [run_eql_struct, task_ne f g h]; rfl
 unfold execOp
 simp only [ho, hx, hy, Sem.run_bind, run_eqGuard_agg (P := Tryz.prog) W .eql 85 x y (cf 20 f).toArray (cf 20 g).toArray hm, hn, Result.andThen_ok, Sem.run_pure]
theorem exec_elE {ρ : Operand → Value} {o : Oper} (x y : Operand) (ty : TypeId) (ho : o.op = .binOp .eql 85 x y ty) (f g : Nat → Int) (h : ∀ k, k < 20 → f k = g k) (hx : ρ x = .agg (cf 20 f).toArray) (hy : ρ y = .agg (cf 20 g).toArray) (W : World) : (execOp ρ o).run Tryz.prog W = .ok (.value (.bool true)) W := by
 rw [cf_ext h] at hx
 have hm : Tryz.prog.eqGuardType Tryz.prog.depth 85 = false := by kernel_rfl
 unfold execOp
 simp only [ho, hx, hy, Sem.run_bind, run_eqGuard_agg (P := Tryz.prog) W .eql 85 x y (cf 20 g).toArray (cf 20 g).toArray hm, task_eql g W, Result.andThen_ok, Sem.run_pure]
/-- Far, by the other word. -/
theorem farW (v most : Int) (w : World) : Calls Tryz.prog 36 #[.int .i64 v, .int .i64 most] w fun e w' => e = .returned (.bool (!within 0 most v)) ∧ w = w' :=
 (Isa.far_any v most w).mono fun r w' h => ⟨by
  rw [h.1]
  unfold within
  by_cases hh : 0 ≤ v ∧ v ≤ most
  ·rw [decide_eq_true hh, decide_eq_false (by omega)]; rfl
  ·rw [decide_eq_false hh, decide_eq_true (by omega)]; rfl, h.2⟩
set_option maxRecDepth 100000 in
set_option maxHeartbeats 4000000 in
theorem taskWell_none (V : Nat → Value) (p : PW) (n : Nat) (w : World) (hv : WorldV w V p) (hp : p.Fits) (hn : n < p.kinds.length) (ht : p.tasks.length = p.kinds.length) (h6 : ¬ p.kinds[n] = 6) :
  Calls Tryz.prog 96 #[.agg (arr11 V), .int .i64 n] w fun r w' => r = .returned (.bool (!btB p n p.kinds[n] (p.tasks[n]'(by omega)))) ∧ Below w.heap.size w w' := by
 have RG := hid (boxed w V 28)
 have B0 := hid (bal (Below.refl w.heap.size w) (.cells (arr11 V) 28))
 have hnt : n < p.tasks.length := by omega
 obtain ⟨q1, b1, off1, cap1, e1, hq1, hz1⟩ := hv.kinds
 obtain ⟨q3, b3, off3, cap3, e3, hq3, hz3⟩ := hv.tasks
 have hl1 : (p.kinds.length : Int) ≤ 1000 := by have := hp.kinds; omega
 have hl3 : (p.tasks.length : Int) ≤ 1000 := by have := hp.tasks; omega
 have hn2 : (n : Int) < (p.kinds.length : Int) := by omega
 have hnt2 : (n : Int) < (p.tasks.length : Int) := by omega
 obtain rfl := hq1 (by omega)
 obtain rfl := hq3 (by omega)
 have r3 : (w.alloc (.cells (arr11 V) 28)).cell? ⟨w.heap.size, 3, none⟩ = some (V 3) := range_cell RG.out rfl
 have X0 := hid (range_belowO (hz3 n hnt) B0.out)
 have HM := hid (fun W (h : Below w.heap.size w W) => (hz1.below h) n hn)
 have s1z : (w.alloc (.cells (arr11 V) 28)).heap.size = w.heap.size + 1 := by simp
 generalize p.tasks[n] = f at X0 ⊢
 generalize p.kinds[n] = kd at HM h6 ⊢
 clear hz1 hz3 hq1 hq3 hv ht
 have T5 := hid (there_new (w.alloc (.cells (arr11 V) 28)) #[.int .i64 0, .int .i64 0, .int .i64 0, .int .i64 0, .int .i64 0, .int .i64 0, .int .i64 0, .int .i64 0, .int .i64 0, .int .i64 0, .int .i64 0, .int .i64 0, .int .i64 0, .int .i64 0, .int .i64 0, .int .i64 0, .int .i64 0, .int .i64 0, .int .i64 0, .int .i64 0] 85 (w.heap.size + 1) 20 s1z.symm (by decide))
 have R5 := hid (World.rangeAt_setCells_same _ (w.heap.size + 1) 0 (cf 20 f) (by rw [cf_len]; exact T5.out))
 have B5 := hid (below_setCells (bal B0.out (.cells #[.int .i64 0, .int .i64 0, .int .i64 0, .int .i64 0, .int .i64 0, .int .i64 0, .int .i64 0, .int .i64 0, .int .i64 0, .int .i64 0, .int .i64 0, .int .i64 0, .int .i64 0, .int .i64 0, .int .i64 0, .int .i64 0, .int .i64 0, .int .i64 0, .int .i64 0, .int .i64 0] 85)) (show w.heap.size ≤ w.heap.size + 1 by omega) (cf 20 f) 0)
 have G5 := hid (below_setCells (bal (Below.refl _ (w.alloc (.cells (arr11 V) 28))) (.cells #[.int .i64 0, .int .i64 0, .int .i64 0, .int .i64 0, .int .i64 0, .int .i64 0, .int .i64 0, .int .i64 0, .int .i64 0, .int .i64 0, .int .i64 0, .int .i64 0, .int .i64 0, .int .i64 0, .int .i64 0, .int .i64 0, .int .i64 0, .int .i64 0, .int .i64 0, .int .i64 0] 85)) (show (w.alloc (.cells (arr11 V) 28)).heap.size ≤ w.heap.size + 1 by rw [s1z]; omega) (cf 20 f) 0)
 have hi5 : (Tryz.prog.info? 85).map (·.size) = some (cf 20 f).length := by rw [cf_len]; exact info20
 have HI5 := hid hi5
 have HS5 := hid (show (Tryz.prog.info? 85).map (·.size) = some (cf 20 f).toArray.size by rw [List.size_toArray]; exact hi5)
 have esz : (cf 20 f).toArray.size = 20 := by simp [cf_len]
 have T6 := hid (show ((w.alloc (.cells (arr11 V) 28)).alloc (.cells #[.int .i64 0, .int .i64 0, .int .i64 0, .int .i64 0, .int .i64 0, .int .i64 0, .int .i64 0, .int .i64 0, .int .i64 0, .int .i64 0, .int .i64 0, .int .i64 0, .int .i64 0, .int .i64 0, .int .i64 0, .int .i64 0, .int .i64 0, .int .i64 0, .int .i64 0, .int .i64 0] 85)).there (w.heap.size + 1) 0 (cf 20 f).toArray.size by rw [esz]; exact T5.out)
 clear esz hi5
 clear s1z
 have h62 : (kd != 6) = true := by simpa using h6
 cases hb : blB20 f with
 | true =>
  have HEQ := hid (blB20_iff.1 hb)
  have HN := hid (show (!btB p n kd f) = true by unfold btB; rw [if_neg h6, hb]; rfl)
  clear hb h6
  go_enter Tryz.func96, Tryz.ntmps96
  go_wp2_with (first
   | ((with_reducible (show wpList _ _ _ (⟨_, Op.store 85 _ _, _, _, _, _⟩ :: _) _ _)); refine wpList_store_mid rfl 85 _ _ rfl (w.heap.size + 1) 0 (cf 20 f).toArray rfl rfl T6.out HS5.out (all_oneCell_toArray (cf_one 20 f)) ?_; (generalize hW5 : World.setCells _ _ _ _ = W5 at R5 B5 G5 ⊢); clear hW5; have d1 : W5.cell? ⟨w.heap.size, 1, none⟩ = some (V 1) := range_cell (range_below RG.out G5.out) rfl; have cm := HM.out W5 B5.out)
   | ((with_reducible (show wpList _ _ _ (⟨_, Op.load 85 _, _, _, _, _⟩ :: _) _ _)); refine wpList_load_mid rfl 85 _ rfl b3 (off3 + n * 20) rfl (cf 20 f) _ X0.out Tryz.underlying85 rfl HI5.out ?_))
  have BD : Hid (Below W5.heap.size W5 W5.drew) := hid (below_drew W5 1)
  refine wp_region_held_drew (S := fun W => W.rangeAt (w.heap.size + 1) 0 (cf 20 f)) (by kernel_rfl) (range_below R5.out BD.out) (fun hH0 => ?_)
  have hH := hid hH0
  clear hH0
  refine tg 0 (.agg (cf 20 f).toArray) rfl (yieldsIf_load_mid (by rfl) _ _ rfl _ _ rfl (cf 20 f) _ (fun _ h => h) Tryz.underlying85 rfl HI5.out) hH.out ?_
  simp only [jj]
  refine wpAnyH_ready (rs := [1]) (by kernel_rfl) (by simp) (AllReadyH.cons rfl (fun K hK => ?_) AllReadyH.nil)
  go_simp
  refine (blank_ref _).mono ?_
  rintro r w1 ⟨rfl, hb⟩
  have A1 := hid (btr BD.out hb)
  clear hb
  go_wp2_with fail
  refine hK.out _ _ (range_below R5.out A1.out) (fun hH0 => ?_)
  have hH2 := hid hH0
  clear hK K hH0
  try simp only [Act.put, jD, jE, jF]
  refine tg 2 (.bool true) rfl (Or.inl ⟨by rfl, fun W _ => exec_elE _ _ _ rfl f bl HEQ.out rfl rfl W⟩) hH2.out ?_
  simp only [jj]
  refine tk 3 (.bool true) rfl hH2.out ?_
  simp only [jj]
  refine wpAnyH_done (by kernel_rfl) ?_ _
  clear hH hH2
  go_wp2_with fail
  go_ret
  exact ⟨by rw [HN.out]; rfl, btr B5.out A1.out⟩
 | false =>
  have HNE := hid (show ¬ ∀ k, k < 20 → f k = bl k from fun e => by rw [blB20_iff.2 e] at hb; cases hb)
  have HN := hid (show (!btB p n kd f) = false by unfold btB; rw [if_neg h6, hb]; rfl)
  clear hb h6
  go_enter Tryz.func96, Tryz.ntmps96
  go_wp2_with (first
   | ((with_reducible (show wpList _ _ _ (⟨_, Op.store 85 _ _, _, _, _, _⟩ :: _) _ _)); refine wpList_store_mid rfl 85 _ _ rfl (w.heap.size + 1) 0 (cf 20 f).toArray rfl rfl T6.out HS5.out (all_oneCell_toArray (cf_one 20 f)) ?_; (generalize hW5 : World.setCells _ _ _ _ = W5 at R5 B5 G5 ⊢); clear hW5; have d1 : W5.cell? ⟨w.heap.size, 1, none⟩ = some (V 1) := range_cell (range_below RG.out G5.out) rfl; have cm := HM.out W5 B5.out)
   | ((with_reducible (show wpList _ _ _ (⟨_, Op.load 85 _, _, _, _, _⟩ :: _) _ _)); refine wpList_load_mid rfl 85 _ rfl b3 (off3 + n * 20) rfl (cf 20 f) _ X0.out Tryz.underlying85 rfl HI5.out ?_))
  have BD : Hid (Below W5.heap.size W5 W5.drew) := hid (below_drew W5 1)
  refine wp_region_held_drew (S := fun W => W.rangeAt (w.heap.size + 1) 0 (cf 20 f)) (by kernel_rfl) (range_below R5.out BD.out) (fun hH0 => ?_)
  have hH := hid hH0
  clear hH0
  refine tg 0 (.agg (cf 20 f).toArray) rfl (yieldsIf_load_mid (by rfl) _ _ rfl _ _ rfl (cf 20 f) _ (fun _ h => h) Tryz.underlying85 rfl HI5.out) hH.out ?_
  simp only [jj]
  refine wpAnyH_ready (rs := [1]) (by kernel_rfl) (by simp) (AllReadyH.cons rfl (fun K hK => ?_) AllReadyH.nil)
  go_simp
  refine (blank_ref _).mono ?_
  rintro r w1 ⟨rfl, hb⟩
  have A1 := hid (btr BD.out hb)
  clear hb
  go_wp2_with fail
  refine hK.out _ _ (range_below R5.out A1.out) (fun hH0 => ?_)
  have hH2 := hid hH0
  clear hK K hH0
  try simp only [Act.put, jD, jE, jF]
  refine tg 2 (.bool false) rfl (Or.inl ⟨by rfl, fun W _ => exec_elN _ _ _ rfl f bl HNE.out rfl rfl W⟩) hH2.out ?_
  simp only [jj]
  refine tk 3 (.bool false) rfl hH2.out ?_
  simp only [jj]
  refine wpAnyH_done (by kernel_rfl) ?_ _
  clear hH hH2
  go_wp2_with fail
  go_ret
  exact ⟨by rw [HN.out]; rfl, btr B5.out A1.out⟩
end Go.Proofs.YtoebmjgkfkfhjaaGreatDoor.Wd
