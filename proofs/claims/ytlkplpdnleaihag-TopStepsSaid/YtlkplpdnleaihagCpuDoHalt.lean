/- cpu.do, walked: halt, sys. -/
import Derived.Test.YtlkplpdnleaihagCpuDo0
namespace Go.Proofs.Ytlkplpdnleaihag.Cpu
open Go.RowKit Go.Proofs.Ytlkplpdnleaihag.Mem Go.Proofs.Ytlkplpdnleaihag.Bw Go.Proofs.Ytlkplpdnleaihag.Nums

set_option maxHeartbeats 4000000 in
theorem do_halt {bus : Value} {M : Type} (X : BusOf bus M) (m : M) (f : Nat → Int) (A B : Nat) (i : Int) (w : World) (hX : X.Inv w m) (hA : A < 8) (hB : B < 8) (hf : ∀ k, k < 9 → 0 ≤ f k ∧ f k < 65536) :
    Calls Try.prog 18 #[.agg (tc f).toArray, .agg #[.int .i64 0, .int .i64 A, .int .i64 B, .int .i64 i], bus] w
      fun e w' => e = .returned (retV (f) (3) (0)) ∧ Kp X.T w w' ∧ X.Inv w' (m) := by
  have HX := hid hX
  clear hX
  have hA0 : (0 : Int) ≤ (A : Int) := by omega
  have hA1 : (A : Int) < 8 := by omega
  have hB0 : (0 : Int) ≤ (B : Int) := by omega
  have hB1 : (B : Int) < 8 := by omega
  have pc := hf 8 (by decide)
  have x8 := tc_at f 8 (by omega)
  go_enter Try.func18, Try.ntmps18
  go_wp2_with (first
    | ((with_reducible (show wpList _ _ _ (⟨_, Op.load 35 _, _, _, _, _⟩ :: _) _ _)); refine wp_ld rfl _ rfl _ rfl (tc f) (tc_len f) (World.rangeAt_alloc (World.rangeAt_alloc (range_new w _ _ _ rfl) _) _) ?_)
    | ((with_reducible (show wpList _ _ _ (⟨_, Op.store 35 _ _, _, _, _, _⟩ :: _) _ _)); refine wp_st rfl _ _ rfl _ rfl (tc f) rfl (tc_len f) (tc_one f) (there_new _ _ _ _ _ (by simp) (by decide)) ?_; have D := hid (dw_start w f 0 A B i #[.int .i64 0, .int .i64 0, .int .i64 0, .int .i64 0, .int .i64 0, .int .i64 0, .int .i64 0, .int .i64 0, .int .i64 0, .int .i64 0, .int .i64 0, .int .i64 0, .int .i64 0, .int .i64 0, .int .i64 0, .int .i64 0, .int .i64 0, .int .i64 0, .int .i64 0, .int .i64 0] rfl); generalize World.setCells _ _ _ _ = W at D ⊢; have c8 := range_cell D.out.t (tc_at f 8 (by decide)); have n8 := range_cell D.out.n (tc_at f 8 (by decide)); have z8 := (D.out.nt 8 (by decide)).2)
    | (go_at_call 15; refine (wrap_any _ _).mono ?_; rintro e w2 ⟨rfl, rfl⟩))
  have D2 := hid (D.out.set 8 (by decide) ((f 8 + 2) % 65536))
  generalize World.setCell _ _ _ = W2 at D2 ⊢
  clear D c8 n8 z8
  have i0 := D2.out.i0
  have i1 := D2.out.i1
  have i2 := D2.out.i2
  have i3 := D2.out.i3
  have cA := range_cell D2.out.t (tc_at f A (by omega))
  have cB := range_cell D2.out.t (tc_at f B (by omega))
  obtain ⟨a0, a1⟩ := hf A (by omega)
  obtain ⟨b0, b1⟩ := hf B (by omega)
  have eA : f A % 65536 = f A := by omega
  have eB : f B % 65536 = f B := by omega
  go_quiet (first | (go_at_call 15; refine Calls.quiet_of_same ((wrap_any _ _).mono fun _ _ h => ⟨h.1, h.2.symm⟩)))
  have D3 := hid (D2.out.drew nq)
  generalize World.drewN _ _ = W3 at D3 ⊢
  clear i0 i1 i2 i3 cA cB D2 x8 W W2
  have i0 := D3.out.i0
  have i1 := D3.out.i1
  have i3 := D3.out.i3
  have X3 := hid (X.stab HX.out D3.out.kp (fun _ _ h => h))
  go_wp2_with (first
    | ((with_reducible (show wpList _ _ _ (⟨_, Op.load 35 _, _, _, _, _⟩ :: _) _ _)); refine wp_ld rfl _ rfl _ rfl (tc (f)) (tc_len _) D3.out.t ?_)
    | ((with_reducible (show wpList _ _ _ (⟨_, Op.store 35 _ _, _, _, _, _⟩ :: _) _ _)); refine wp_st rfl _ _ rfl _ rfl (tc (f)) rfl (tc_len _) (tc_one _) D3.out.r ?_; have E := hid (D3.out.res (f)); generalize World.setCells _ _ _ _ = W9 at E ⊢))
  refine bodyPost_ret (v := retV (f) (3) (0)) (results_c3 rfl rfl (run_ld _ _ (tc (f)) E.out.1 (tc_len _)) rfl rfl) rfl ⟨rfl, E.out.2.wider (fun _ _ h => h.elim), X.stab HX.out E.out.2 (fun _ _ h => h)⟩
set_option maxHeartbeats 4000000 in
theorem do_sys {bus : Value} {M : Type} (X : BusOf bus M) (m : M) (f : Nat → Int) (A B : Nat) (i : Int) (w : World) (hX : X.Inv w m) (hA : A < 8) (hB : B < 8) (hf : ∀ k, k < 9 → 0 ≤ f k ∧ f k < 65536) :
    Calls Try.prog 18 #[.agg (tc f).toArray, .agg #[.int .i64 14, .int .i64 A, .int .i64 B, .int .i64 i], bus] w
      fun e w' => e = .returned (retV (upd f 8 ((f 8 + 2) % 65536)) (1) (i)) ∧ Kp X.T w w' ∧ X.Inv w' (m) := by
  have HX := hid hX
  clear hX
  have hA0 : (0 : Int) ≤ (A : Int) := by omega
  have hA1 : (A : Int) < 8 := by omega
  have hB0 : (0 : Int) ≤ (B : Int) := by omega
  have hB1 : (B : Int) < 8 := by omega
  have pc := hf 8 (by decide)
  have x8 := tc_at f 8 (by omega)
  go_enter Try.func18, Try.ntmps18
  go_wp2_with (first
    | ((with_reducible (show wpList _ _ _ (⟨_, Op.load 35 _, _, _, _, _⟩ :: _) _ _)); refine wp_ld rfl _ rfl _ rfl (tc f) (tc_len f) (World.rangeAt_alloc (World.rangeAt_alloc (range_new w _ _ _ rfl) _) _) ?_)
    | ((with_reducible (show wpList _ _ _ (⟨_, Op.store 35 _ _, _, _, _, _⟩ :: _) _ _)); refine wp_st rfl _ _ rfl _ rfl (tc f) rfl (tc_len f) (tc_one f) (there_new _ _ _ _ _ (by simp) (by decide)) ?_; have D := hid (dw_start w f 14 A B i #[.int .i64 0, .int .i64 0, .int .i64 0, .int .i64 0, .int .i64 0, .int .i64 0, .int .i64 0, .int .i64 0, .int .i64 0, .int .i64 0, .int .i64 0, .int .i64 0, .int .i64 0, .int .i64 0, .int .i64 0, .int .i64 0, .int .i64 0, .int .i64 0, .int .i64 0, .int .i64 0] rfl); generalize World.setCells _ _ _ _ = W at D ⊢; have c8 := range_cell D.out.t (tc_at f 8 (by decide)); have n8 := range_cell D.out.n (tc_at f 8 (by decide)); have z8 := (D.out.nt 8 (by decide)).2)
    | (go_at_call 15; refine (wrap_any _ _).mono ?_; rintro e w2 ⟨rfl, rfl⟩))
  have D2 := hid (D.out.set 8 (by decide) ((f 8 + 2) % 65536))
  generalize World.setCell _ _ _ = W2 at D2 ⊢
  clear D c8 n8 z8
  have i0 := D2.out.i0
  have i1 := D2.out.i1
  have i2 := D2.out.i2
  have i3 := D2.out.i3
  have cA := range_cell D2.out.t (tc_at f A (by omega))
  have cB := range_cell D2.out.t (tc_at f B (by omega))
  obtain ⟨a0, a1⟩ := hf A (by omega)
  obtain ⟨b0, b1⟩ := hf B (by omega)
  have eA : f A % 65536 = f A := by omega
  have eB : f B % 65536 = f B := by omega
  go_quiet (first | (go_at_call 15; refine Calls.quiet_of_same ((wrap_any _ _).mono fun _ _ h => ⟨h.1, h.2.symm⟩)))
  have D3 := hid (D2.out.drew nq)
  generalize World.drewN _ _ = W3 at D3 ⊢
  clear i0 i1 i2 i3 cA cB D2 x8 W W2
  have i0 := D3.out.i0
  have i1 := D3.out.i1
  have i3 := D3.out.i3
  have X3 := hid (X.stab HX.out D3.out.kp (fun _ _ h => h))
  go_wp2_with fail
  have T9 := D3.out.n
  have R6 := D3.out.r
  generalize hg : upd f 8 ((f 8 + 2) % 65536) = g at *
  have HG := hid hg
  clear hg
  have hu := Try.underlying35
  have hi : (Try.prog.info? 35).map (·.size) = some (tc g).length := by rw [tc_len]; exact info20
  have hl := tc_len g
  have h1 := tc_one g
  refine wp_region_held_drew (S := fun w' => w'.rangeAt (w.heap.size + 1 + 1 + 1) 0 (tc g) ∧ w'.cell? ⟨w.heap.size + 1, 3, none⟩ = some (.int .i64 i)) (by kernel_rfl) ⟨T9, i3⟩ (fun hH => ?_)
  refine wpAnyH_take (i := 0) (v := .agg (tc g).toArray) rfl (by kernel_rfl) (by kernel_rfl) (by kernel_rfl) (fun _ _ _ h => h) (yieldsIf_load_mid (by rfl) _ _ rfl _ _ rfl (tc g) _ (fun _ h => h.1) hu rfl hi) hH ?_
  simp only [Act.put, List.getElem_toArray, List.getElem_cons_zero, List.setIfInBounds_toArray, List.set_cons_zero, List.set_cons_succ]
  refine wpAnyH_take (i := 1) (v := .pointer (some ⟨w.heap.size + 1, 3, none⟩)) rfl (by kernel_rfl) (by kernel_rfl) (by kernel_rfl) (fun _ _ _ h => h) (Or.inl ⟨by rfl, fun W h => by go_simp⟩) hH ?_
  simp only [Act.put, List.getElem_toArray, List.getElem_cons_succ, List.getElem_cons_zero, List.setIfInBounds_toArray, List.set_cons_zero, List.set_cons_succ]
  refine wpAnyH_take (i := 2) (v := .int .i64 i) rfl (by kernel_rfl) (by kernel_rfl) (by kernel_rfl) (fun _ _ _ h => h) (Or.inl ⟨by rfl, fun W h => by have := h.2; go_simp⟩) hH ?_
  simp only [Act.put, List.getElem_toArray, List.getElem_cons_succ, List.getElem_cons_zero, List.setIfInBounds_toArray, List.set_cons_zero, List.set_cons_succ]
  refine wpAnyH_ready (rs := [3]) (by kernel_rfl) (by simp) (AllReadyH.cons rfl (fun K hK => ?_) AllReadyH.nil)
  rw [if_pos (by rfl)]
  refine wp_store_mid _ _ _ rfl _ _ (tc g).toArray rfl rfl (by simpa [hl] using R6) (by rw [info20]; simp [hl]) (all_oneCell_toArray h1) ?_
  simp only [Act.put, List.getElem_toArray, List.getElem_cons_succ, List.getElem_cons_zero]
  refine hK.out _ _ ⟨World.rangeAt_setCells_apart hH.1 _ _ _ (.inl (by omega)), by rw [cell_setCells (by omega)]; exact hH.2⟩ (fun hH2 => ?_)
  clear hK K
  have E := hid (DW.res D3.out.drw g)
  generalize World.setCells _ _ _ _ = W9 at E hH2 ⊢
  refine wpAnyH_take (i := 4) (v := .int .i64 1) rfl (by kernel_rfl) (by kernel_rfl) (by kernel_rfl) (fun _ _ _ h => h) (Or.inl ⟨by rfl, fun W h => by go_simp⟩) hH2 ?_
  simp only [Act.put, List.getElem_toArray, List.getElem_cons_succ, List.getElem_cons_zero, List.setIfInBounds_toArray, List.set_cons_zero, List.set_cons_succ]
  refine wpAnyH_take (i := 5) (v := .int .i64 i) rfl (by kernel_rfl) (by kernel_rfl) (by kernel_rfl) (fun _ _ _ h => h) (Or.inl ⟨by rfl, fun W h => by go_simp⟩) hH2 ?_
  simp only [Act.put, List.getElem_toArray, List.getElem_cons_succ, List.getElem_cons_zero, List.setIfInBounds_toArray, List.set_cons_zero, List.set_cons_succ]
  refine wpAnyH_done (by kernel_rfl) ?_ _
  go_wp2_with fail
  refine bodyPost_ret (v := retV (g) (1) (i)) (results_c3 rfl rfl (run_ld _ _ (tc (g)) E.out.1 (tc_len _)) rfl rfl) rfl ⟨by rw [HG.out], E.out.2.wider (fun _ _ h => h.elim), X.stab HX.out E.out.2 (fun _ _ h => h)⟩
end Go.Proofs.Ytlkplpdnleaihag.Cpu
