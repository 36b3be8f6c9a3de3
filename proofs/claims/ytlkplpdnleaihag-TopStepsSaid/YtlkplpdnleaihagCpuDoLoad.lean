/- cpu.do, walked: load, load_no. -/
import Derived.Test.YtlkplpdnleaihagCpuDo0
namespace Go.Proofs.Ytlkplpdnleaihag.Cpu
open Go.RowKit Go.Proofs.Ytlkplpdnleaihag.Mem Go.Proofs.Ytlkplpdnleaihag.Bw Go.Proofs.Ytlkplpdnleaihag.Nums

set_option maxHeartbeats 4000000 in
theorem do_load {bus : Value} {M : Type} (X : BusOf bus M) (m : M) (f : Nat → Int) (A B : Nat) (i : Int) (w : World) (hX : X.Inv w m) (hA : A < 8) (hB : B < 8) (hf : ∀ k, k < 9 → 0 ≤ f k ∧ f k < 65536) (hi0 : -32768 ≤ i) (hi1 : i ≤ 32767) (hok : X.ok m ((f B + i) % 65536) = true) :
    Calls Try.prog 18 #[.agg (tc f).toArray, .agg #[.int .i64 10, .int .i64 A, .int .i64 B, .int .i64 i], bus] w
      fun e w' => e = .returned (retV (upd (upd f 8 ((f 8 + 2) % 65536)) A (X.ld m ((f B + i) % 65536))) (0) (0)) ∧ Kp X.T w w' ∧ X.Inv w' (m) := by
  have HX := hid hX
  clear hX
  have hA0 : (0 : Int) ≤ (A : Int) := by omega
  have hA1 : (A : Int) < 8 := by omega
  have hB0 : (0 : Int) ≤ (B : Int) := by omega
  have hB1 : (B : Int) < 8 := by omega
  have pc := hf 8 (by decide)
  have x8 := tc_at f 8 (by omega)
  go_enter Try.func18, Try.ntmps18
  go_wp2_with (first
    | ((with_reducible (show wpList _ _ _ (⟨_, Op.load 35 _, _, _, _, _⟩ :: _) _ _)); refine wp_ld rfl _ rfl _ rfl (tc f) (tc_len f) (World.rangeAt_alloc (World.rangeAt_alloc (range_new w _ _ _ rfl) _) _) ?_)
    | ((with_reducible (show wpList _ _ _ (⟨_, Op.store 35 _ _, _, _, _, _⟩ :: _) _ _)); refine wp_st rfl _ _ rfl _ rfl (tc f) rfl (tc_len f) (tc_one f) (there_new _ _ _ _ _ (by simp) (by decide)) ?_; have D := hid (dw_start w f 10 A B i #[.int .i64 0, .int .i64 0, .int .i64 0, .int .i64 0, .int .i64 0, .int .i64 0, .int .i64 0, .int .i64 0, .int .i64 0, .int .i64 0, .int .i64 0, .int .i64 0, .int .i64 0, .int .i64 0, .int .i64 0, .int .i64 0, .int .i64 0, .int .i64 0, .int .i64 0, .int .i64 0] rfl); generalize World.setCells _ _ _ _ = W at D ⊢; have c8 := range_cell D.out.t (tc_at f 8 (by decide)); have n8 := range_cell D.out.n (tc_at f 8 (by decide)); have z8 := (D.out.nt 8 (by decide)).2)
    | (go_at_call 15; refine (wrap_any _ _).mono ?_; rintro e w2 ⟨rfl, rfl⟩))
  have D2 := hid (D.out.set 8 (by decide) ((f 8 + 2) % 65536))
  generalize World.setCell _ _ _ = W2 at D2 ⊢
  clear D c8 n8 z8
  have i0 := D2.out.i0
  have i1 := D2.out.i1
  have i2 := D2.out.i2
  have i3 := D2.out.i3
  have cA := range_cell D2.out.t (tc_at f A (by omega))
  have cB := range_cell D2.out.t (tc_at f B (by omega))
  obtain ⟨a0, a1⟩ := hf A (by omega)
  obtain ⟨b0, b1⟩ := hf B (by omega)
  have eA : f A % 65536 = f A := by omega
  have eB : f B % 65536 = f B := by omega
  go_quiet (first | (go_at_call 15; refine Calls.quiet_of_same ((wrap_any _ _).mono fun _ _ h => ⟨h.1, h.2.symm⟩)))
  have D3 := hid (D2.out.drew nq)
  generalize World.drewN _ _ = W3 at D3 ⊢
  clear i0 i1 i2 i3 cA cB D2 x8 W W2
  have i0 := D3.out.i0
  have i1 := D3.out.i1
  have i3 := D3.out.i3
  have X3 := hid (X.stab HX.out D3.out.kp (fun _ _ h => h))
  have HOK := hid hok
  clear hok
  have at0 : 0 ≤ (f B + i) % 65536 := Int.emod_nonneg _ (by decide)
  have at1 : (f B + i) % 65536 < 65536 := Int.emod_lt_of_pos _ (by decide)
  generalize hg : upd f 8 ((f 8 + 2) % 65536) = g at *
  have HG := hid hg
  clear hg
  have nA := range_cell D3.out.n (tc_at g A (by omega))
  have zA := (D3.out.nt A (by omega)).2
  rw [Nat.zero_add] at zA
  go_wp2_with (first | (go_at_call 15; refine (wrap_any _ _).mono ?_; rintro e w2 ⟨rfl, rfl⟩))
  refine (X.load _ X3.out at0 at1).mono ?_
  rintro e w4 ⟨rfl, hb⟩
  rw [HOK.out]
  have D4 := hid (D3.out.below hb)
  clear D3 X3 i0 i1 i3 nA zA hb W3
  have i1 := D4.out.i1
  have nA := range_cell D4.out.n (tc_at g A (by omega))
  have zA := (D4.out.nt A (by omega)).2
  rw [Nat.zero_add] at zA
  generalize hz : X.ld m ((f B + i) % 65536) = z at *
  have HZ := hid hz
  clear hz
  go_wp2_with (first
    | ((with_reducible (show wpList _ _ _ (⟨_, Op.load 35 _, _, _, _, _⟩ :: _) _ _)); refine wp_ld rfl _ rfl _ rfl (tc (upd g A z)) (tc_len _) (D4.out.set A (by omega) z).n ?_)
    | ((with_reducible (show wpList _ _ _ (⟨_, Op.store 35 _ _, _, _, _, _⟩ :: _) _ _)); refine wp_st rfl _ _ rfl _ rfl (tc (upd g A z)) rfl (tc_len _) (tc_one _) (D4.out.set A (by omega) z).r ?_; have E := hid ((D4.out.set A (by omega) z).res (upd g A z)); generalize World.setCells _ _ _ _ = W9 at E ⊢))
  refine bodyPost_ret (v := retV (upd g A z) (0) (0)) (results_c3 rfl rfl (run_ld _ _ (tc (upd g A z)) E.out.1 (tc_len _)) rfl rfl) rfl ⟨by rw [HG.out, HZ.out], E.out.2.wider (fun _ _ h => h.elim), X.stab HX.out E.out.2 (fun _ _ h => h)⟩
set_option maxHeartbeats 4000000 in
theorem do_load_no {bus : Value} {M : Type} (X : BusOf bus M) (m : M) (f : Nat → Int) (A B : Nat) (i : Int) (w : World) (hX : X.Inv w m) (hA : A < 8) (hB : B < 8) (hf : ∀ k, k < 9 → 0 ≤ f k ∧ f k < 65536) (hi0 : -32768 ≤ i) (hi1 : i ≤ 32767) (hok : X.ok m ((f B + i) % 65536) = false) :
    Calls Try.prog 18 #[.agg (tc f).toArray, .agg #[.int .i64 10, .int .i64 A, .int .i64 B, .int .i64 i], bus] w
      fun e w' => e = .returned (retV (f) (2) ((f B + i) % 65536)) ∧ Kp X.T w w' ∧ X.Inv w' (m) := by
  have HX := hid hX
  clear hX
  have hA0 : (0 : Int) ≤ (A : Int) := by omega
  have hA1 : (A : Int) < 8 := by omega
  have hB0 : (0 : Int) ≤ (B : Int) := by omega
  have hB1 : (B : Int) < 8 := by omega
  have pc := hf 8 (by decide)
  have x8 := tc_at f 8 (by omega)
  go_enter Try.func18, Try.ntmps18
  go_wp2_with (first
    | ((with_reducible (show wpList _ _ _ (⟨_, Op.load 35 _, _, _, _, _⟩ :: _) _ _)); refine wp_ld rfl _ rfl _ rfl (tc f) (tc_len f) (World.rangeAt_alloc (World.rangeAt_alloc (range_new w _ _ _ rfl) _) _) ?_)
    | ((with_reducible (show wpList _ _ _ (⟨_, Op.store 35 _ _, _, _, _, _⟩ :: _) _ _)); refine wp_st rfl _ _ rfl _ rfl (tc f) rfl (tc_len f) (tc_one f) (there_new _ _ _ _ _ (by simp) (by decide)) ?_; have D := hid (dw_start w f 10 A B i #[.int .i64 0, .int .i64 0, .int .i64 0, .int .i64 0, .int .i64 0, .int .i64 0, .int .i64 0, .int .i64 0, .int .i64 0, .int .i64 0, .int .i64 0, .int .i64 0, .int .i64 0, .int .i64 0, .int .i64 0, .int .i64 0, .int .i64 0, .int .i64 0, .int .i64 0, .int .i64 0] rfl); generalize World.setCells _ _ _ _ = W at D ⊢; have c8 := range_cell D.out.t (tc_at f 8 (by decide)); have n8 := range_cell D.out.n (tc_at f 8 (by decide)); have z8 := (D.out.nt 8 (by decide)).2)
    | (go_at_call 15; refine (wrap_any _ _).mono ?_; rintro e w2 ⟨rfl, rfl⟩))
  have D2 := hid (D.out.set 8 (by decide) ((f 8 + 2) % 65536))
  generalize World.setCell _ _ _ = W2 at D2 ⊢
  clear D c8 n8 z8
  have i0 := D2.out.i0
  have i1 := D2.out.i1
  have i2 := D2.out.i2
  have i3 := D2.out.i3
  have cA := range_cell D2.out.t (tc_at f A (by omega))
  have cB := range_cell D2.out.t (tc_at f B (by omega))
  obtain ⟨a0, a1⟩ := hf A (by omega)
  obtain ⟨b0, b1⟩ := hf B (by omega)
  have eA : f A % 65536 = f A := by omega
  have eB : f B % 65536 = f B := by omega
  go_quiet (first | (go_at_call 15; refine Calls.quiet_of_same ((wrap_any _ _).mono fun _ _ h => ⟨h.1, h.2.symm⟩)))
  have D3 := hid (D2.out.drew nq)
  generalize World.drewN _ _ = W3 at D3 ⊢
  clear i0 i1 i2 i3 cA cB D2 x8 W W2
  have i0 := D3.out.i0
  have i1 := D3.out.i1
  have i3 := D3.out.i3
  have X3 := hid (X.stab HX.out D3.out.kp (fun _ _ h => h))
  have HOK := hid hok
  clear hok
  have at0 : 0 ≤ (f B + i) % 65536 := Int.emod_nonneg _ (by decide)
  have at1 : (f B + i) % 65536 < 65536 := Int.emod_lt_of_pos _ (by decide)
  go_wp2_with (first | (go_at_call 15; refine (wrap_any _ _).mono ?_; rintro e w2 ⟨rfl, rfl⟩))
  refine (X.load _ X3.out at0 at1).mono ?_
  rintro e w4 ⟨rfl, hb⟩
  rw [HOK.out]
  have D4 := hid (D3.out.below hb)
  clear D3 X3 i0 i1 i3 hb W3
  generalize ha : (f B + i) % 65536 = at_ at *
  have HA := hid ha
  clear ha
  go_wp2_with (first
    | ((with_reducible (show wpList _ _ _ (⟨_, Op.load 35 _, _, _, _, _⟩ :: _) _ _)); refine wp_ld rfl _ rfl _ rfl (tc (f)) (tc_len _) D4.out.t ?_)
    | ((with_reducible (show wpList _ _ _ (⟨_, Op.store 35 _ _, _, _, _, _⟩ :: _) _ _)); refine wp_st rfl _ _ rfl _ rfl (tc (f)) rfl (tc_len _) (tc_one _) D4.out.r ?_; have E := hid (D4.out.res (f)); generalize World.setCells _ _ _ _ = W9 at E ⊢))
  refine bodyPost_ret (v := retV (f) (2) (at_)) (results_c3 rfl rfl (run_ld _ _ (tc (f)) E.out.1 (tc_len _)) rfl rfl) rfl ⟨by rw [HA.out], E.out.2.wider (fun _ _ h => h.elim), X.stab HX.out E.out.2 (fun _ _ h => h)⟩
end Go.Proofs.Ytlkplpdnleaihag.Cpu
