/- keyholdref.Did over the flat memory, walked: and, or, xor. -/
import Derived.Test.YtlkplpdnleaihabRefDid0
namespace Go.Proofs.Ytlkplpdnleaihab.Cpu
open Go.RowKit Go.Proofs.Ytlkplpdnleaihab.Mem Go.Proofs.Ytlkplpdnleaihab.Bw Go.Proofs.Ytlkplpdnleaihab.Nums

set_option maxRecDepth 100000 in
set_option maxHeartbeats 4000000 in
theorem did_and (p b cap : Nat) (q : Option Addr) (zs : List Int) (low : Int) (f : Nat → Int) (w : World) (hF : FlatAt w p q b cap zs low) (hf : ∀ k, k < 9 → 0 ≤ f k ∧ f k < 65536) (HOK : Hid (okL zs (f 8) = true)) (HOK1 : Hid (okL zs (pc1 f) = true)) (HWD : Hid (IP.word (ldL zs (f 8)) (ldL zs (pc1 f)))) (HM : Hid ((IP.may (ldL zs (f 8) / 256) (ldL zs (f 8) / 16 % 16) (ldL zs (f 8) % 16) (IP.dI (ldL zs (pc1 f))) == 0) = true)) (A B : Nat) (i : Int) (ho : Hid (ldL zs (f 8) / 256 = 6)) (hA : Hid (ldL zs (f 8) / 16 % 16 = (A : Int))) (hB : Hid (ldL zs (f 8) % 16 = (B : Int))) (hi : Hid (IP.dI (ldL zs (pc1 f)) = i)) (bA : A < 8) (bB : B < 8) :
    Calls Try.prog 8 #[.agg (tc f).toArray, .func (.func 9) #[.pointer (some ⟨p, 0, none⟩)] #[], .func (.func 10) #[.pointer (some ⟨p, 0, none⟩)] #[]] w
      fun e w' => e = .returned (retV (upd (upd f 8 ((f 8 + 2) % 65536)) A ((bw 6 (f A).toNat (f B).toNat : Nat))) 0 0) ∧ Kp (fun _ => False) w w' ∧ FlatAt w' p q b cap (zs) low := by
  have HF := hid hF
  clear hF
  obtain ⟨p0, p1⟩ := hf 8 (by decide)
  have q0 : 0 ≤ pc1 f := Int.emod_nonneg _ (by decide)
  have q1 : pc1 f < 65536 := Int.emod_lt_of_pos _ (by decide)
  have HPC := hid (show (f 8 + 1) % 65536 = pc1 f from rfl)
  have T0 := hid (World.rangeAt_alloc (range_new w (tc f) 25 _ rfl) (.cells #[.int .i64 0, .int .i64 0, .int .i64 0, .int .i64 0, .int .i64 0, .int .i64 0, .int .i64 0, .int .i64 0, .int .i64 0, .int .i64 0, .int .i64 0, .int .i64 0, .int .i64 0, .int .i64 0, .int .i64 0, .int .i64 0, .int .i64 0, .int .i64 0, .int .i64 0, .int .i64 0] 25))
  have c8 := range_cell T0.out (tc_at f 8 (by decide))
  have F0 := hid (HF.out.below (bal (bal (Below.refl _ _) (.cells (tc f).toArray 25)) (.cells #[.int .i64 0, .int .i64 0, .int .i64 0, .int .i64 0, .int .i64 0, .int .i64 0, .int .i64 0, .int .i64 0, .int .i64 0, .int .i64 0, .int .i64 0, .int .i64 0, .int .i64 0, .int .i64 0, .int .i64 0, .int .i64 0, .int .i64 0, .int .i64 0, .int .i64 0, .int .i64 0] 25)))
  have R0 := hid (there_new (w.alloc (.cells (tc f).toArray 25)) #[.int .i64 0, .int .i64 0, .int .i64 0, .int .i64 0, .int .i64 0, .int .i64 0, .int .i64 0, .int .i64 0, .int .i64 0, .int .i64 0, .int .i64 0, .int .i64 0, .int .i64 0, .int .i64 0, .int .i64 0, .int .i64 0, .int .i64 0, .int .i64 0, .int .i64 0, .int .i64 0] 25 (w.heap.size + 1) 20 (by simp) (by decide))
  have K0 := hid (((Kp.refl (fun _ => False) w).alloc (.cells (tc f).toArray 25)).alloc (.cells #[.int .i64 0, .int .i64 0, .int .i64 0, .int .i64 0, .int .i64 0, .int .i64 0, .int .i64 0, .int .i64 0, .int .i64 0, .int .i64 0, .int .i64 0, .int .i64 0, .int .i64 0, .int .i64 0, .int .i64 0, .int .i64 0, .int .i64 0, .int .i64 0, .int .i64 0, .int .i64 0] 25))
  have G0 := hid (gw_start w · f · · · · #[.int .i64 0, .int .i64 0, .int .i64 0, .int .i64 0, .int .i64 0, .int .i64 0, .int .i64 0, .int .i64 0, .int .i64 0, .int .i64 0, .int .i64 0, .int .i64 0, .int .i64 0, .int .i64 0, .int .i64 0, .int .i64 0, .int .i64 0, .int .i64 0, .int .i64 0, .int .i64 0] rfl)
  have s0 : ((w.alloc (.cells (tc f).toArray 25)).alloc (.cells #[.int .i64 0, .int .i64 0, .int .i64 0, .int .i64 0, .int .i64 0, .int .i64 0, .int .i64 0, .int .i64 0, .int .i64 0, .int .i64 0, .int .i64 0, .int .i64 0, .int .i64 0, .int .i64 0, .int .i64 0, .int .i64 0, .int .i64 0, .int .i64 0, .int .i64 0, .int .i64 0] 25)).heap.size = w.heap.size + 1 + 1 := by simp
  go_enter Try.func8, Try.ntmps8
  go_wp2_with fail
  generalize World.alloc _ (.cells #[.int .i64 0, .int .i64 0, .int .i64 0, .int .i64 0, .int .i64 0, .int .i64 0, .int .i64 0, .int .i64 0, .int .i64 0, .int .i64 0, .int .i64 0, .int .i64 0, .int .i64 0, .int .i64 0, .int .i64 0, .int .i64 0, .int .i64 0, .int .i64 0, .int .i64 0, .int .i64 0] 25) = W at G0 T0 c8 F0 R0 K0 s0 ⊢
  rw [HPC.out]
  refine (flatLoad_any p b cap q zs low _ _ F0.out p0 p1).mono ?_
  rintro e w' ⟨rfl, rfl⟩
  rw [HOK.out]
  generalize hx : ldL zs (f 8) = x at *
  have HXX := hid hx
  clear hx
  go_wp2_with fail
  refine (flatLoad_any p b cap q zs low _ _ F0.out q0 q1).mono ?_
  rintro e w' ⟨rfl, rfl⟩
  rw [HOK1.out]
  generalize hy : ldL zs (pc1 f) = y at *
  have HYY := hid hy
  clear hy
  go_wp2_with fail
  refine (Isa.insOf_word x y _ HWD.out).mono ?_
  rintro e w1 ⟨rfl, hb⟩
  rw [HM.out, ho.out, hA.out, hB.out, hi.out]
  have HHB := hid hb
  have hs1 := hb.size
  rw [s0] at hs1
  clear hb
  have pc := hf 8 (by decide)
  have hA0 : (0 : Int) ≤ (A : Int) := by omega
  have hA1 : (A : Int) < 8 := by omega
  have hB0 : (0 : Int) ≤ (B : Int) := by omega
  have hB1 : (B : Int) < 8 := by omega
  have d8 := range_cell (World.rangeAt_alloc (World.rangeAt_alloc (range_below T0.out HHB.out) (.cells #[.int .i64 6, .int .i64 A, .int .i64 B, .int .i64 i] 48)) (.cells #[.int .i64 0, .int .i64 0, .int .i64 0, .int .i64 0, .int .i64 0, .int .i64 0, .int .i64 0, .int .i64 0, .int .i64 0, .int .i64 0, .int .i64 0, .int .i64 0, .int .i64 0, .int .i64 0, .int .i64 0, .int .i64 0, .int .i64 0, .int .i64 0, .int .i64 0, .int .i64 0] 25)) (tc_at f 8 (by decide))
  obtain ⟨a0, a1⟩ := hf A (by omega)
  obtain ⟨b0, b1⟩ := hf B (by omega)
  obtain ⟨_, _, y0, y1⟩ := HWD.out
  have hm0 : 0 ≤ f A * f B := Int.mul_nonneg a0 b0
  have hm1 : f A * f B < 4294967296 := Int.lt_of_le_of_lt (Int.mul_le_mul (show f A ≤ 65535 by omega) (show f B ≤ 65535 by omega) b0 (by decide)) (by decide)
  have at0 : 0 ≤ (f B + y) % 65536 := Int.emod_nonneg _ (by decide)
  have at1 : (f B + y) % 65536 < 65536 := Int.emod_lt_of_pos _ (by decide)
  go_wp2_with (first
    | (go_at_call 17; refine (bitwise_int 6 (by decide) _ _ _ a0 a1 b0 b1).mono ?_; rintro e w' ⟨rfl, rfl⟩)
    | ((with_reducible (show wpList _ _ _ (⟨_, Op.load 25 _, _, _, _, _⟩ :: _) _ _)); refine wp_ld rfl _ rfl _ rfl (tc (upd (upd f 8 ((f 8 + 2) % 65536)) A ((bw 6 (f A).toNat (f B).toNat : Nat)))) (tc_len _) (D2.out.set A (by omega) ((bw 6 (f A).toNat (f B).toNat : Nat))).n ?_)
    | ((with_reducible (show wpList _ _ _ (⟨_, Op.store 25 _ _, _, _, _, _⟩ :: _) _ _)); refine wp_st rfl _ _ rfl _ rfl (tc (upd (upd f 8 ((f 8 + 2) % 65536)) A ((bw 6 (f A).toNat (f B).toNat : Nat)))) rfl (tc_len _) (tc_one _) (D2.out.set A (by omega) ((bw 6 (f A).toNat (f B).toNat : Nat))).r ?_; have E := hid ((D2.out.set A (by omega) ((bw 6 (f A).toNat (f B).toNat : Nat))).res (upd (upd f 8 ((f 8 + 2) % 65536)) A ((bw 6 (f A).toNat (f B).toNat : Nat)))); generalize World.setCells _ _ _ _ = W9 at E ⊢)
    | ((with_reducible (show wpList _ _ _ (⟨_, Op.load 25 _, _, _, _, _⟩ :: _) _ _)); refine wp_ld rfl _ rfl _ rfl (tc f) (tc_len f) (World.rangeAt_alloc (range_below T0.out HHB.out) _) ?_)
    | ((with_reducible (show wpList _ _ _ (⟨_, Op.store 25 _ _, _, _, _, _⟩ :: _) _ _)); refine wp_st rfl _ _ rfl _ rfl (tc f) rfl (tc_len f) (tc_one f) (there_new _ _ _ _ _ (by simp) (by decide)) ?_; have D := hid (G0.out w1 6 A B i HHB.out); generalize World.setCells _ _ _ _ = W2 at D ⊢; have c8' := range_cell D.out.t (tc_at f 8 (by decide)); have n8 := range_cell D.out.n (tc_at f 8 (by decide)); have z8 := (D.out.nt 8 (by decide)).2; have i0 := D.out.i0; have i1 := D.out.i1; have i2 := D.out.i2; have i3 := D.out.i3; have cA := range_cell D.out.t (tc_at f A (by omega)); have cB := range_cell D.out.t (tc_at f B (by omega)); have D2 := hid (D.out.set 8 (by decide) ((f 8 + 2) % 65536)); have nA := range_cell D2.out.n (tc_at (upd f 8 ((f 8 + 2) % 65536)) A (by omega)); have zA := (D2.out.nt A (by omega)).2; rw [Nat.zero_add] at zA))
  refine bodyPost_ret (v := retV (upd (upd f 8 ((f 8 + 2) % 65536)) A ((bw 6 (f A).toNat (f B).toNat : Nat))) (0) (0)) (results_c3 rfl rfl (run_ld _ _ (tc (upd (upd f 8 ((f 8 + 2) % 65536)) A ((bw 6 (f A).toNat (f B).toNat : Nat)))) E.out.1 (tc_len _)) rfl rfl) rfl ⟨rfl, E.out.2.wider (fun _ _ h => h.elim), HF.out.kept E.out.2 id id⟩
set_option maxRecDepth 100000 in
set_option maxHeartbeats 4000000 in
theorem did_or (p b cap : Nat) (q : Option Addr) (zs : List Int) (low : Int) (f : Nat → Int) (w : World) (hF : FlatAt w p q b cap zs low) (hf : ∀ k, k < 9 → 0 ≤ f k ∧ f k < 65536) (HOK : Hid (okL zs (f 8) = true)) (HOK1 : Hid (okL zs (pc1 f) = true)) (HWD : Hid (IP.word (ldL zs (f 8)) (ldL zs (pc1 f)))) (HM : Hid ((IP.may (ldL zs (f 8) / 256) (ldL zs (f 8) / 16 % 16) (ldL zs (f 8) % 16) (IP.dI (ldL zs (pc1 f))) == 0) = true)) (A B : Nat) (i : Int) (ho : Hid (ldL zs (f 8) / 256 = 7)) (hA : Hid (ldL zs (f 8) / 16 % 16 = (A : Int))) (hB : Hid (ldL zs (f 8) % 16 = (B : Int))) (hi : Hid (IP.dI (ldL zs (pc1 f)) = i)) (bA : A < 8) (bB : B < 8) :
    Calls Try.prog 8 #[.agg (tc f).toArray, .func (.func 9) #[.pointer (some ⟨p, 0, none⟩)] #[], .func (.func 10) #[.pointer (some ⟨p, 0, none⟩)] #[]] w
      fun e w' => e = .returned (retV (upd (upd f 8 ((f 8 + 2) % 65536)) A ((bw 7 (f A).toNat (f B).toNat : Nat))) 0 0) ∧ Kp (fun _ => False) w w' ∧ FlatAt w' p q b cap (zs) low := by
  have HF := hid hF
  clear hF
  obtain ⟨p0, p1⟩ := hf 8 (by decide)
  have q0 : 0 ≤ pc1 f := Int.emod_nonneg _ (by decide)
  have q1 : pc1 f < 65536 := Int.emod_lt_of_pos _ (by decide)
  have HPC := hid (show (f 8 + 1) % 65536 = pc1 f from rfl)
  have T0 := hid (World.rangeAt_alloc (range_new w (tc f) 25 _ rfl) (.cells #[.int .i64 0, .int .i64 0, .int .i64 0, .int .i64 0, .int .i64 0, .int .i64 0, .int .i64 0, .int .i64 0, .int .i64 0, .int .i64 0, .int .i64 0, .int .i64 0, .int .i64 0, .int .i64 0, .int .i64 0, .int .i64 0, .int .i64 0, .int .i64 0, .int .i64 0, .int .i64 0] 25))
  have c8 := range_cell T0.out (tc_at f 8 (by decide))
  have F0 := hid (HF.out.below (bal (bal (Below.refl _ _) (.cells (tc f).toArray 25)) (.cells #[.int .i64 0, .int .i64 0, .int .i64 0, .int .i64 0, .int .i64 0, .int .i64 0, .int .i64 0, .int .i64 0, .int .i64 0, .int .i64 0, .int .i64 0, .int .i64 0, .int .i64 0, .int .i64 0, .int .i64 0, .int .i64 0, .int .i64 0, .int .i64 0, .int .i64 0, .int .i64 0] 25)))
  have R0 := hid (there_new (w.alloc (.cells (tc f).toArray 25)) #[.int .i64 0, .int .i64 0, .int .i64 0, .int .i64 0, .int .i64 0, .int .i64 0, .int .i64 0, .int .i64 0, .int .i64 0, .int .i64 0, .int .i64 0, .int .i64 0, .int .i64 0, .int .i64 0, .int .i64 0, .int .i64 0, .int .i64 0, .int .i64 0, .int .i64 0, .int .i64 0] 25 (w.heap.size + 1) 20 (by simp) (by decide))
  have K0 := hid (((Kp.refl (fun _ => False) w).alloc (.cells (tc f).toArray 25)).alloc (.cells #[.int .i64 0, .int .i64 0, .int .i64 0, .int .i64 0, .int .i64 0, .int .i64 0, .int .i64 0, .int .i64 0, .int .i64 0, .int .i64 0, .int .i64 0, .int .i64 0, .int .i64 0, .int .i64 0, .int .i64 0, .int .i64 0, .int .i64 0, .int .i64 0, .int .i64 0, .int .i64 0] 25))
  have G0 := hid (gw_start w · f · · · · #[.int .i64 0, .int .i64 0, .int .i64 0, .int .i64 0, .int .i64 0, .int .i64 0, .int .i64 0, .int .i64 0, .int .i64 0, .int .i64 0, .int .i64 0, .int .i64 0, .int .i64 0, .int .i64 0, .int .i64 0, .int .i64 0, .int .i64 0, .int .i64 0, .int .i64 0, .int .i64 0] rfl)
  have s0 : ((w.alloc (.cells (tc f).toArray 25)).alloc (.cells #[.int .i64 0, .int .i64 0, .int .i64 0, .int .i64 0, .int .i64 0, .int .i64 0, .int .i64 0, .int .i64 0, .int .i64 0, .int .i64 0, .int .i64 0, .int .i64 0, .int .i64 0, .int .i64 0, .int .i64 0, .int .i64 0, .int .i64 0, .int .i64 0, .int .i64 0, .int .i64 0] 25)).heap.size = w.heap.size + 1 + 1 := by simp
  go_enter Try.func8, Try.ntmps8
  go_wp2_with fail
  generalize World.alloc _ (.cells #[.int .i64 0, .int .i64 0, .int .i64 0, .int .i64 0, .int .i64 0, .int .i64 0, .int .i64 0, .int .i64 0, .int .i64 0, .int .i64 0, .int .i64 0, .int .i64 0, .int .i64 0, .int .i64 0, .int .i64 0, .int .i64 0, .int .i64 0, .int .i64 0, .int .i64 0, .int .i64 0] 25) = W at G0 T0 c8 F0 R0 K0 s0 ⊢
  rw [HPC.out]
  refine (flatLoad_any p b cap q zs low _ _ F0.out p0 p1).mono ?_
  rintro e w' ⟨rfl, rfl⟩
  rw [HOK.out]
  generalize hx : ldL zs (f 8) = x at *
  have HXX := hid hx
  clear hx
  go_wp2_with fail
  refine (flatLoad_any p b cap q zs low _ _ F0.out q0 q1).mono ?_
  rintro e w' ⟨rfl, rfl⟩
  rw [HOK1.out]
  generalize hy : ldL zs (pc1 f) = y at *
  have HYY := hid hy
  clear hy
  go_wp2_with fail
  refine (Isa.insOf_word x y _ HWD.out).mono ?_
  rintro e w1 ⟨rfl, hb⟩
  rw [HM.out, ho.out, hA.out, hB.out, hi.out]
  have HHB := hid hb
  have hs1 := hb.size
  rw [s0] at hs1
  clear hb
  have pc := hf 8 (by decide)
  have hA0 : (0 : Int) ≤ (A : Int) := by omega
  have hA1 : (A : Int) < 8 := by omega
  have hB0 : (0 : Int) ≤ (B : Int) := by omega
  have hB1 : (B : Int) < 8 := by omega
  have d8 := range_cell (World.rangeAt_alloc (World.rangeAt_alloc (range_below T0.out HHB.out) (.cells #[.int .i64 7, .int .i64 A, .int .i64 B, .int .i64 i] 48)) (.cells #[.int .i64 0, .int .i64 0, .int .i64 0, .int .i64 0, .int .i64 0, .int .i64 0, .int .i64 0, .int .i64 0, .int .i64 0, .int .i64 0, .int .i64 0, .int .i64 0, .int .i64 0, .int .i64 0, .int .i64 0, .int .i64 0, .int .i64 0, .int .i64 0, .int .i64 0, .int .i64 0] 25)) (tc_at f 8 (by decide))
  obtain ⟨a0, a1⟩ := hf A (by omega)
  obtain ⟨b0, b1⟩ := hf B (by omega)
  obtain ⟨_, _, y0, y1⟩ := HWD.out
  have hm0 : 0 ≤ f A * f B := Int.mul_nonneg a0 b0
  have hm1 : f A * f B < 4294967296 := Int.lt_of_le_of_lt (Int.mul_le_mul (show f A ≤ 65535 by omega) (show f B ≤ 65535 by omega) b0 (by decide)) (by decide)
  have at0 : 0 ≤ (f B + y) % 65536 := Int.emod_nonneg _ (by decide)
  have at1 : (f B + y) % 65536 < 65536 := Int.emod_lt_of_pos _ (by decide)
  go_wp2_with (first
    | (go_at_call 17; refine (bitwise_int 7 (by decide) _ _ _ a0 a1 b0 b1).mono ?_; rintro e w' ⟨rfl, rfl⟩)
    | ((with_reducible (show wpList _ _ _ (⟨_, Op.load 25 _, _, _, _, _⟩ :: _) _ _)); refine wp_ld rfl _ rfl _ rfl (tc (upd (upd f 8 ((f 8 + 2) % 65536)) A ((bw 7 (f A).toNat (f B).toNat : Nat)))) (tc_len _) (D2.out.set A (by omega) ((bw 7 (f A).toNat (f B).toNat : Nat))).n ?_)
    | ((with_reducible (show wpList _ _ _ (⟨_, Op.store 25 _ _, _, _, _, _⟩ :: _) _ _)); refine wp_st rfl _ _ rfl _ rfl (tc (upd (upd f 8 ((f 8 + 2) % 65536)) A ((bw 7 (f A).toNat (f B).toNat : Nat)))) rfl (tc_len _) (tc_one _) (D2.out.set A (by omega) ((bw 7 (f A).toNat (f B).toNat : Nat))).r ?_; have E := hid ((D2.out.set A (by omega) ((bw 7 (f A).toNat (f B).toNat : Nat))).res (upd (upd f 8 ((f 8 + 2) % 65536)) A ((bw 7 (f A).toNat (f B).toNat : Nat)))); generalize World.setCells _ _ _ _ = W9 at E ⊢)
    | ((with_reducible (show wpList _ _ _ (⟨_, Op.load 25 _, _, _, _, _⟩ :: _) _ _)); refine wp_ld rfl _ rfl _ rfl (tc f) (tc_len f) (World.rangeAt_alloc (range_below T0.out HHB.out) _) ?_)
    | ((with_reducible (show wpList _ _ _ (⟨_, Op.store 25 _ _, _, _, _, _⟩ :: _) _ _)); refine wp_st rfl _ _ rfl _ rfl (tc f) rfl (tc_len f) (tc_one f) (there_new _ _ _ _ _ (by simp) (by decide)) ?_; have D := hid (G0.out w1 7 A B i HHB.out); generalize World.setCells _ _ _ _ = W2 at D ⊢; have c8' := range_cell D.out.t (tc_at f 8 (by decide)); have n8 := range_cell D.out.n (tc_at f 8 (by decide)); have z8 := (D.out.nt 8 (by decide)).2; have i0 := D.out.i0; have i1 := D.out.i1; have i2 := D.out.i2; have i3 := D.out.i3; have cA := range_cell D.out.t (tc_at f A (by omega)); have cB := range_cell D.out.t (tc_at f B (by omega)); have D2 := hid (D.out.set 8 (by decide) ((f 8 + 2) % 65536)); have nA := range_cell D2.out.n (tc_at (upd f 8 ((f 8 + 2) % 65536)) A (by omega)); have zA := (D2.out.nt A (by omega)).2; rw [Nat.zero_add] at zA))
  refine bodyPost_ret (v := retV (upd (upd f 8 ((f 8 + 2) % 65536)) A ((bw 7 (f A).toNat (f B).toNat : Nat))) (0) (0)) (results_c3 rfl rfl (run_ld _ _ (tc (upd (upd f 8 ((f 8 + 2) % 65536)) A ((bw 7 (f A).toNat (f B).toNat : Nat)))) E.out.1 (tc_len _)) rfl rfl) rfl ⟨rfl, E.out.2.wider (fun _ _ h => h.elim), HF.out.kept E.out.2 id id⟩
set_option maxRecDepth 100000 in
set_option maxHeartbeats 4000000 in
theorem did_xor (p b cap : Nat) (q : Option Addr) (zs : List Int) (low : Int) (f : Nat → Int) (w : World) (hF : FlatAt w p q b cap zs low) (hf : ∀ k, k < 9 → 0 ≤ f k ∧ f k < 65536) (HOK : Hid (okL zs (f 8) = true)) (HOK1 : Hid (okL zs (pc1 f) = true)) (HWD : Hid (IP.word (ldL zs (f 8)) (ldL zs (pc1 f)))) (HM : Hid ((IP.may (ldL zs (f 8) / 256) (ldL zs (f 8) / 16 % 16) (ldL zs (f 8) % 16) (IP.dI (ldL zs (pc1 f))) == 0) = true)) (A B : Nat) (i : Int) (ho : Hid (ldL zs (f 8) / 256 = 8)) (hA : Hid (ldL zs (f 8) / 16 % 16 = (A : Int))) (hB : Hid (ldL zs (f 8) % 16 = (B : Int))) (hi : Hid (IP.dI (ldL zs (pc1 f)) = i)) (bA : A < 8) (bB : B < 8) :
    Calls Try.prog 8 #[.agg (tc f).toArray, .func (.func 9) #[.pointer (some ⟨p, 0, none⟩)] #[], .func (.func 10) #[.pointer (some ⟨p, 0, none⟩)] #[]] w
      fun e w' => e = .returned (retV (upd (upd f 8 ((f 8 + 2) % 65536)) A ((bw 8 (f A).toNat (f B).toNat : Nat))) 0 0) ∧ Kp (fun _ => False) w w' ∧ FlatAt w' p q b cap (zs) low := by
  have HF := hid hF
  clear hF
  obtain ⟨p0, p1⟩ := hf 8 (by decide)
  have q0 : 0 ≤ pc1 f := Int.emod_nonneg _ (by decide)
  have q1 : pc1 f < 65536 := Int.emod_lt_of_pos _ (by decide)
  have HPC := hid (show (f 8 + 1) % 65536 = pc1 f from rfl)
  have T0 := hid (World.rangeAt_alloc (range_new w (tc f) 25 _ rfl) (.cells #[.int .i64 0, .int .i64 0, .int .i64 0, .int .i64 0, .int .i64 0, .int .i64 0, .int .i64 0, .int .i64 0, .int .i64 0, .int .i64 0, .int .i64 0, .int .i64 0, .int .i64 0, .int .i64 0, .int .i64 0, .int .i64 0, .int .i64 0, .int .i64 0, .int .i64 0, .int .i64 0] 25))
  have c8 := range_cell T0.out (tc_at f 8 (by decide))
  have F0 := hid (HF.out.below (bal (bal (Below.refl _ _) (.cells (tc f).toArray 25)) (.cells #[.int .i64 0, .int .i64 0, .int .i64 0, .int .i64 0, .int .i64 0, .int .i64 0, .int .i64 0, .int .i64 0, .int .i64 0, .int .i64 0, .int .i64 0, .int .i64 0, .int .i64 0, .int .i64 0, .int .i64 0, .int .i64 0, .int .i64 0, .int .i64 0, .int .i64 0, .int .i64 0] 25)))
  have R0 := hid (there_new (w.alloc (.cells (tc f).toArray 25)) #[.int .i64 0, .int .i64 0, .int .i64 0, .int .i64 0, .int .i64 0, .int .i64 0, .int .i64 0, .int .i64 0, .int .i64 0, .int .i64 0, .int .i64 0, .int .i64 0, .int .i64 0, .int .i64 0, .int .i64 0, .int .i64 0, .int .i64 0, .int .i64 0, .int .i64 0, .int .i64 0] 25 (w.heap.size + 1) 20 (by simp) (by decide))
  have K0 := hid (((Kp.refl (fun _ => False) w).alloc (.cells (tc f).toArray 25)).alloc (.cells #[.int .i64 0, .int .i64 0, .int .i64 0, .int .i64 0, .int .i64 0, .int .i64 0, .int .i64 0, .int .i64 0, .int .i64 0, .int .i64 0, .int .i64 0, .int .i64 0, .int .i64 0, .int .i64 0, .int .i64 0, .int .i64 0, .int .i64 0, .int .i64 0, .int .i64 0, .int .i64 0] 25))
  have G0 := hid (gw_start w · f · · · · #[.int .i64 0, .int .i64 0, .int .i64 0, .int .i64 0, .int .i64 0, .int .i64 0, .int .i64 0, .int .i64 0, .int .i64 0, .int .i64 0, .int .i64 0, .int .i64 0, .int .i64 0, .int .i64 0, .int .i64 0, .int .i64 0, .int .i64 0, .int .i64 0, .int .i64 0, .int .i64 0] rfl)
  have s0 : ((w.alloc (.cells (tc f).toArray 25)).alloc (.cells #[.int .i64 0, .int .i64 0, .int .i64 0, .int .i64 0, .int .i64 0, .int .i64 0, .int .i64 0, .int .i64 0, .int .i64 0, .int .i64 0, .int .i64 0, .int .i64 0, .int .i64 0, .int .i64 0, .int .i64 0, .int .i64 0, .int .i64 0, .int .i64 0, .int .i64 0, .int .i64 0] 25)).heap.size = w.heap.size + 1 + 1 := by simp
  go_enter Try.func8, Try.ntmps8
  go_wp2_with fail
  generalize World.alloc _ (.cells #[.int .i64 0, .int .i64 0, .int .i64 0, .int .i64 0, .int .i64 0, .int .i64 0, .int .i64 0, .int .i64 0, .int .i64 0, .int .i64 0, .int .i64 0, .int .i64 0, .int .i64 0, .int .i64 0, .int .i64 0, .int .i64 0, .int .i64 0, .int .i64 0, .int .i64 0, .int .i64 0] 25) = W at G0 T0 c8 F0 R0 K0 s0 ⊢
  rw [HPC.out]
  refine (flatLoad_any p b cap q zs low _ _ F0.out p0 p1).mono ?_
  rintro e w' ⟨rfl, rfl⟩
  rw [HOK.out]
  generalize hx : ldL zs (f 8) = x at *
  have HXX := hid hx
  clear hx
  go_wp2_with fail
  refine (flatLoad_any p b cap q zs low _ _ F0.out q0 q1).mono ?_
  rintro e w' ⟨rfl, rfl⟩
  rw [HOK1.out]
  generalize hy : ldL zs (pc1 f) = y at *
  have HYY := hid hy
  clear hy
  go_wp2_with fail
  refine (Isa.insOf_word x y _ HWD.out).mono ?_
  rintro e w1 ⟨rfl, hb⟩
  rw [HM.out, ho.out, hA.out, hB.out, hi.out]
  have HHB := hid hb
  have hs1 := hb.size
  rw [s0] at hs1
  clear hb
  have pc := hf 8 (by decide)
  have hA0 : (0 : Int) ≤ (A : Int) := by omega
  have hA1 : (A : Int) < 8 := by omega
  have hB0 : (0 : Int) ≤ (B : Int) := by omega
  have hB1 : (B : Int) < 8 := by omega
  have d8 := range_cell (World.rangeAt_alloc (World.rangeAt_alloc (range_below T0.out HHB.out) (.cells #[.int .i64 8, .int .i64 A, .int .i64 B, .int .i64 i] 48)) (.cells #[.int .i64 0, .int .i64 0, .int .i64 0, .int .i64 0, .int .i64 0, .int .i64 0, .int .i64 0, .int .i64 0, .int .i64 0, .int .i64 0, .int .i64 0, .int .i64 0, .int .i64 0, .int .i64 0, .int .i64 0, .int .i64 0, .int .i64 0, .int .i64 0, .int .i64 0, .int .i64 0] 25)) (tc_at f 8 (by decide))
  obtain ⟨a0, a1⟩ := hf A (by omega)
  obtain ⟨b0, b1⟩ := hf B (by omega)
  obtain ⟨_, _, y0, y1⟩ := HWD.out
  have hm0 : 0 ≤ f A * f B := Int.mul_nonneg a0 b0
  have hm1 : f A * f B < 4294967296 := Int.lt_of_le_of_lt (Int.mul_le_mul (show f A ≤ 65535 by omega) (show f B ≤ 65535 by omega) b0 (by decide)) (by decide)
  have at0 : 0 ≤ (f B + y) % 65536 := Int.emod_nonneg _ (by decide)
  have at1 : (f B + y) % 65536 < 65536 := Int.emod_lt_of_pos _ (by decide)
  go_wp2_with (first
    | (go_at_call 17; refine (bitwise_int 8 (by decide) _ _ _ a0 a1 b0 b1).mono ?_; rintro e w' ⟨rfl, rfl⟩)
    | ((with_reducible (show wpList _ _ _ (⟨_, Op.load 25 _, _, _, _, _⟩ :: _) _ _)); refine wp_ld rfl _ rfl _ rfl (tc (upd (upd f 8 ((f 8 + 2) % 65536)) A ((bw 8 (f A).toNat (f B).toNat : Nat)))) (tc_len _) (D2.out.set A (by omega) ((bw 8 (f A).toNat (f B).toNat : Nat))).n ?_)
    | ((with_reducible (show wpList _ _ _ (⟨_, Op.store 25 _ _, _, _, _, _⟩ :: _) _ _)); refine wp_st rfl _ _ rfl _ rfl (tc (upd (upd f 8 ((f 8 + 2) % 65536)) A ((bw 8 (f A).toNat (f B).toNat : Nat)))) rfl (tc_len _) (tc_one _) (D2.out.set A (by omega) ((bw 8 (f A).toNat (f B).toNat : Nat))).r ?_; have E := hid ((D2.out.set A (by omega) ((bw 8 (f A).toNat (f B).toNat : Nat))).res (upd (upd f 8 ((f 8 + 2) % 65536)) A ((bw 8 (f A).toNat (f B).toNat : Nat)))); generalize World.setCells _ _ _ _ = W9 at E ⊢)
    | ((with_reducible (show wpList _ _ _ (⟨_, Op.load 25 _, _, _, _, _⟩ :: _) _ _)); refine wp_ld rfl _ rfl _ rfl (tc f) (tc_len f) (World.rangeAt_alloc (range_below T0.out HHB.out) _) ?_)
    | ((with_reducible (show wpList _ _ _ (⟨_, Op.store 25 _ _, _, _, _, _⟩ :: _) _ _)); refine wp_st rfl _ _ rfl _ rfl (tc f) rfl (tc_len f) (tc_one f) (there_new _ _ _ _ _ (by simp) (by decide)) ?_; have D := hid (G0.out w1 8 A B i HHB.out); generalize World.setCells _ _ _ _ = W2 at D ⊢; have c8' := range_cell D.out.t (tc_at f 8 (by decide)); have n8 := range_cell D.out.n (tc_at f 8 (by decide)); have z8 := (D.out.nt 8 (by decide)).2; have i0 := D.out.i0; have i1 := D.out.i1; have i2 := D.out.i2; have i3 := D.out.i3; have cA := range_cell D.out.t (tc_at f A (by omega)); have cB := range_cell D.out.t (tc_at f B (by omega)); have D2 := hid (D.out.set 8 (by decide) ((f 8 + 2) % 65536)); have nA := range_cell D2.out.n (tc_at (upd f 8 ((f 8 + 2) % 65536)) A (by omega)); have zA := (D2.out.nt A (by omega)).2; rw [Nat.zero_add] at zA))
  refine bodyPost_ret (v := retV (upd (upd f 8 ((f 8 + 2) % 65536)) A ((bw 8 (f A).toNat (f B).toNat : Nat))) (0) (0)) (results_c3 rfl rfl (run_ld _ _ (tc (upd (upd f 8 ((f 8 + 2) % 65536)) A ((bw 8 (f A).toNat (f B).toNat : Nat)))) E.out.1 (tc_len _)) rfl rfl) rfl ⟨rfl, E.out.2.wider (fun _ _ h => h.elim), HF.out.kept E.out.2 id id⟩
end Go.Proofs.Ytlkplpdnleaihab.Cpu
