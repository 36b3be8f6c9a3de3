/- cpu.do, walked: alu. -/
import Derived.Test.YtlkplpdnleaihagCpuDo0
namespace Go.Proofs.Ytlkplpdnleaihag.Cpu
open Go.RowKit Go.Proofs.Ytlkplpdnleaihag.Mem Go.Proofs.Ytlkplpdnleaihag.Bw Go.Proofs.Ytlkplpdnleaihag.Nums

set_option maxHeartbeats 4000000 in
theorem do_alu {bus : Value} {M : Type} (X : BusOf bus M) (m : M) (f : Nat → Int) (A B : Nat) (o : Int) (i : Int) (w : World) (hX : X.Inv w m) (hA : A < 8) (hB : B < 8) (hf : ∀ k, k < 9 → 0 ≤ f k ∧ f k < 65536) (h0 : o ≠ 0) (h14 : o ≠ 14) (h1 : o ≠ 1) (h10 : o ≠ 10) (h11 : o ≠ 11) (h12 : o ≠ 12) (h13 : o ≠ 13) :
    Calls Try.prog 18 #[.agg (tc f).toArray, .agg #[.int .i64 o, .int .i64 A, .int .i64 B, .int .i64 i], bus] w
      fun e w' => e = .returned (retV (upd (upd f 8 ((f 8 + 2) % 65536)) A (comb o (f A) (f B) % 65536)) (0) (0)) ∧ Kp X.T w w' ∧ X.Inv w' (m) := by
  have HX := hid hX
  clear hX
  have hA0 : (0 : Int) ≤ (A : Int) := by omega
  have hA1 : (A : Int) < 8 := by omega
  have hB0 : (0 : Int) ≤ (B : Int) := by omega
  have hB1 : (B : Int) < 8 := by omega
  have pc := hf 8 (by decide)
  have x8 := tc_at f 8 (by omega)
  go_enter Try.func18, Try.ntmps18
  go_wp2_with (first
    | ((with_reducible (show wpList _ _ _ (⟨_, Op.load 35 _, _, _, _, _⟩ :: _) _ _)); refine wp_ld rfl _ rfl _ rfl (tc f) (tc_len f) (World.rangeAt_alloc (World.rangeAt_alloc (range_new w _ _ _ rfl) _) _) ?_)
    | ((with_reducible (show wpList _ _ _ (⟨_, Op.store 35 _ _, _, _, _, _⟩ :: _) _ _)); refine wp_st rfl _ _ rfl _ rfl (tc f) rfl (tc_len f) (tc_one f) (there_new _ _ _ _ _ (by simp) (by decide)) ?_; have D := hid (dw_start w f o A B i #[.int .i64 0, .int .i64 0, .int .i64 0, .int .i64 0, .int .i64 0, .int .i64 0, .int .i64 0, .int .i64 0, .int .i64 0, .int .i64 0, .int .i64 0, .int .i64 0, .int .i64 0, .int .i64 0, .int .i64 0, .int .i64 0, .int .i64 0, .int .i64 0, .int .i64 0, .int .i64 0] rfl); generalize World.setCells _ _ _ _ = W at D ⊢; have c8 := range_cell D.out.t (tc_at f 8 (by decide)); have n8 := range_cell D.out.n (tc_at f 8 (by decide)); have z8 := (D.out.nt 8 (by decide)).2)
    | (go_at_call 15; refine (wrap_any _ _).mono ?_; rintro e w2 ⟨rfl, rfl⟩))
  have D2 := hid (D.out.set 8 (by decide) ((f 8 + 2) % 65536))
  generalize World.setCell _ _ _ = W2 at D2 ⊢
  clear D c8 n8 z8
  have i0 := D2.out.i0
  have i1 := D2.out.i1
  have i2 := D2.out.i2
  have i3 := D2.out.i3
  have cA := range_cell D2.out.t (tc_at f A (by omega))
  have cB := range_cell D2.out.t (tc_at f B (by omega))
  obtain ⟨a0, a1⟩ := hf A (by omega)
  obtain ⟨b0, b1⟩ := hf B (by omega)
  have eA : f A % 65536 = f A := by omega
  have eB : f B % 65536 = f B := by omega
  go_quiet (first | (go_at_call 15; refine Calls.quiet_of_same ((wrap_any _ _).mono fun _ _ h => ⟨h.1, h.2.symm⟩)))
  have D3 := hid (D2.out.drew nq)
  generalize World.drewN _ _ = W3 at D3 ⊢
  clear i0 i1 i2 i3 cA cB D2 x8 W W2
  have i0 := D3.out.i0
  have i1 := D3.out.i1
  have i3 := D3.out.i3
  have X3 := hid (X.stab HX.out D3.out.kp (fun _ _ h => h))
  have g0 : (o == 0) = false := beq_eq_false_iff_ne.2 h0
  have g14 : (o == 14) = false := beq_eq_false_iff_ne.2 h14
  have g1 : (o == 1) = false := beq_eq_false_iff_ne.2 h1
  have g10 : (o == 10) = false := beq_eq_false_iff_ne.2 h10
  have g11 : (o == 11) = false := beq_eq_false_iff_ne.2 h11
  have g12 : (o == 12) = false := beq_eq_false_iff_ne.2 h12
  have g13 : (o == 13) = false := beq_eq_false_iff_ne.2 h13
  clear h0 h14 h1 h10 h11 h12 h13
  generalize hg : upd f 8 ((f 8 + 2) % 65536) = g at *
  have HG := hid hg
  clear hg
  have nA := range_cell D3.out.n (tc_at g A (by omega))
  have zA := (D3.out.nt A (by omega)).2
  rw [Nat.zero_add] at zA
  have HC := hid (combine_any o (f A) (f B) · a0 a1 b0 b1)
  go_wp2_with fail
  go_region_with (first | (go_at_call 15; refine (wrap_any _ _).mono ?_; rintro e w2 ⟨rfl, rfl⟩) | (go_at_call 36; refine (HC.out _).mono ?_; rintro e w2 ⟨rfl, rfl⟩))
  all_goals
    have D4 := hid (D3.out.set A (by omega) (comb o (f A) (f B) % 65536)).drw
    generalize hz : comb o (f A) (f B) % 65536 = z at *
    have HZ := hid hz
    clear hz
    generalize World.drew _ = W5 at D4 ⊢
    go_wp2_with (first
      | ((with_reducible (show wpList _ _ _ (⟨_, Op.load 35 _, _, _, _, _⟩ :: _) _ _)); refine wp_ld rfl _ rfl _ rfl (tc (upd g A z)) (tc_len _) D4.out.n ?_)
      | ((with_reducible (show wpList _ _ _ (⟨_, Op.store 35 _ _, _, _, _, _⟩ :: _) _ _)); refine wp_st rfl _ _ rfl _ rfl (tc (upd g A z)) rfl (tc_len _) (tc_one _) D4.out.r ?_; have E := hid (D4.out.res (upd g A z)); generalize World.setCells _ _ _ _ = W9 at E ⊢))
    refine bodyPost_ret (v := retV (upd g A z) (0) (0)) (results_c3 rfl rfl (run_ld _ _ (tc (upd g A z)) E.out.1 (tc_len _)) rfl rfl) rfl ⟨by rw [HG.out, HZ.out], E.out.2.wider (fun _ _ h => h.elim), X.stab HX.out E.out.2 (fun _ _ h => h)⟩
end Go.Proofs.Ytlkplpdnleaihag.Cpu
