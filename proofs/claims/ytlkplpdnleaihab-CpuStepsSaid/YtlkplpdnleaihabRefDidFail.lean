/- keyholdref.Did over the flat memory, walked: no0, no1, bad. -/
import Derived.Test.YtlkplpdnleaihabRefDid0
namespace Go.Proofs.Ytlkplpdnleaihab.Cpu
open Go.RowKit Go.Proofs.Ytlkplpdnleaihab.Mem Go.Proofs.Ytlkplpdnleaihab.Bw Go.Proofs.Ytlkplpdnleaihab.Nums

set_option maxRecDepth 100000 in
set_option maxHeartbeats 4000000 in
theorem did_no0 (p b cap : Nat) (q : Option Addr) (zs : List Int) (low : Int) (f : Nat → Int) (w : World) (hF : FlatAt w p q b cap zs low) (hf : ∀ k, k < 9 → 0 ≤ f k ∧ f k < 65536) (HOK : Hid (okL zs (f 8) = false)) :
    Calls Try.prog 8 #[.agg (tc f).toArray, .func (.func 9) #[.pointer (some ⟨p, 0, none⟩)] #[], .func (.func 10) #[.pointer (some ⟨p, 0, none⟩)] #[]] w
      fun e w' => e = .returned (retV f 2 (f 8)) ∧ Kp (fun _ => False) w w' ∧ FlatAt w' p q b cap (zs) low := by
  have HF := hid hF
  clear hF
  obtain ⟨p0, p1⟩ := hf 8 (by decide)
  have q0 : 0 ≤ pc1 f := Int.emod_nonneg _ (by decide)
  have q1 : pc1 f < 65536 := Int.emod_lt_of_pos _ (by decide)
  have HPC := hid (show (f 8 + 1) % 65536 = pc1 f from rfl)
  have T0 := hid (World.rangeAt_alloc (range_new w (tc f) 25 _ rfl) (.cells #[.int .i64 0, .int .i64 0, .int .i64 0, .int .i64 0, .int .i64 0, .int .i64 0, .int .i64 0, .int .i64 0, .int .i64 0, .int .i64 0, .int .i64 0, .int .i64 0, .int .i64 0, .int .i64 0, .int .i64 0, .int .i64 0, .int .i64 0, .int .i64 0, .int .i64 0, .int .i64 0] 25))
  have c8 := range_cell T0.out (tc_at f 8 (by decide))
  have F0 := hid (HF.out.below (bal (bal (Below.refl _ _) (.cells (tc f).toArray 25)) (.cells #[.int .i64 0, .int .i64 0, .int .i64 0, .int .i64 0, .int .i64 0, .int .i64 0, .int .i64 0, .int .i64 0, .int .i64 0, .int .i64 0, .int .i64 0, .int .i64 0, .int .i64 0, .int .i64 0, .int .i64 0, .int .i64 0, .int .i64 0, .int .i64 0, .int .i64 0, .int .i64 0] 25)))
  have R0 := hid (there_new (w.alloc (.cells (tc f).toArray 25)) #[.int .i64 0, .int .i64 0, .int .i64 0, .int .i64 0, .int .i64 0, .int .i64 0, .int .i64 0, .int .i64 0, .int .i64 0, .int .i64 0, .int .i64 0, .int .i64 0, .int .i64 0, .int .i64 0, .int .i64 0, .int .i64 0, .int .i64 0, .int .i64 0, .int .i64 0, .int .i64 0] 25 (w.heap.size + 1) 20 (by simp) (by decide))
  have K0 := hid (((Kp.refl (fun _ => False) w).alloc (.cells (tc f).toArray 25)).alloc (.cells #[.int .i64 0, .int .i64 0, .int .i64 0, .int .i64 0, .int .i64 0, .int .i64 0, .int .i64 0, .int .i64 0, .int .i64 0, .int .i64 0, .int .i64 0, .int .i64 0, .int .i64 0, .int .i64 0, .int .i64 0, .int .i64 0, .int .i64 0, .int .i64 0, .int .i64 0, .int .i64 0] 25))
  have G0 := hid (gw_start w · f · · · · #[.int .i64 0, .int .i64 0, .int .i64 0, .int .i64 0, .int .i64 0, .int .i64 0, .int .i64 0, .int .i64 0, .int .i64 0, .int .i64 0, .int .i64 0, .int .i64 0, .int .i64 0, .int .i64 0, .int .i64 0, .int .i64 0, .int .i64 0, .int .i64 0, .int .i64 0, .int .i64 0] rfl)
  have s0 : ((w.alloc (.cells (tc f).toArray 25)).alloc (.cells #[.int .i64 0, .int .i64 0, .int .i64 0, .int .i64 0, .int .i64 0, .int .i64 0, .int .i64 0, .int .i64 0, .int .i64 0, .int .i64 0, .int .i64 0, .int .i64 0, .int .i64 0, .int .i64 0, .int .i64 0, .int .i64 0, .int .i64 0, .int .i64 0, .int .i64 0, .int .i64 0] 25)).heap.size = w.heap.size + 1 + 1 := by simp
  go_enter Try.func8, Try.ntmps8
  go_wp2_with fail
  generalize World.alloc _ (.cells #[.int .i64 0, .int .i64 0, .int .i64 0, .int .i64 0, .int .i64 0, .int .i64 0, .int .i64 0, .int .i64 0, .int .i64 0, .int .i64 0, .int .i64 0, .int .i64 0, .int .i64 0, .int .i64 0, .int .i64 0, .int .i64 0, .int .i64 0, .int .i64 0, .int .i64 0, .int .i64 0] 25) = W at G0 T0 c8 F0 R0 K0 s0 ⊢
  rw [HPC.out]
  refine (flatLoad_any p b cap q zs low _ _ F0.out p0 p1).mono ?_
  rintro e w' ⟨rfl, rfl⟩
  rw [HOK.out]
  go_wp2_with (first
    | ((with_reducible (show wpList _ _ _ (⟨_, Op.load 25 _, _, _, _, _⟩ :: _) _ _)); refine wp_ld rfl _ rfl _ rfl (tc f) (tc_len _) T0.out ?_)
    | ((with_reducible (show wpList _ _ _ (⟨_, Op.store 25 _ _, _, _, _, _⟩ :: _) _ _)); refine wp_st rfl _ _ rfl _ rfl (tc f) rfl (tc_len _) (tc_one _) R0.out ?_; have E := hid (World.rangeAt_setCells_same W (w.heap.size + 1) 0 (tc f) (by rw [tc_len]; exact R0.out)); have K9 := hid (Kp.setCells (b := w.heap.size + 1) (.inr (by omega)) (tc f) 0 _ K0.out); generalize World.setCells _ _ _ _ = W9 at E K9 ⊢))
  refine bodyPost_ret (v := retV f 2 (f 8)) (results_c3 rfl rfl (run_ld _ _ (tc f) E.out (tc_len _)) rfl rfl) rfl ⟨rfl, K9.out.wider (fun _ _ h => h.elim), HF.out.kept K9.out id id⟩
set_option maxRecDepth 100000 in
set_option maxHeartbeats 4000000 in
theorem did_no1 (p b cap : Nat) (q : Option Addr) (zs : List Int) (low : Int) (f : Nat → Int) (w : World) (hF : FlatAt w p q b cap zs low) (hf : ∀ k, k < 9 → 0 ≤ f k ∧ f k < 65536) (HOK : Hid (okL zs (f 8) = true)) (HOK1 : Hid (okL zs (pc1 f) = false)) :
    Calls Try.prog 8 #[.agg (tc f).toArray, .func (.func 9) #[.pointer (some ⟨p, 0, none⟩)] #[], .func (.func 10) #[.pointer (some ⟨p, 0, none⟩)] #[]] w
      fun e w' => e = .returned (retV f 2 (pc1 f)) ∧ Kp (fun _ => False) w w' ∧ FlatAt w' p q b cap (zs) low := by
  have HF := hid hF
  clear hF
  obtain ⟨p0, p1⟩ := hf 8 (by decide)
  have q0 : 0 ≤ pc1 f := Int.emod_nonneg _ (by decide)
  have q1 : pc1 f < 65536 := Int.emod_lt_of_pos _ (by decide)
  have HPC := hid (show (f 8 + 1) % 65536 = pc1 f from rfl)
  have T0 := hid (World.rangeAt_alloc (range_new w (tc f) 25 _ rfl) (.cells #[.int .i64 0, .int .i64 0, .int .i64 0, .int .i64 0, .int .i64 0, .int .i64 0, .int .i64 0, .int .i64 0, .int .i64 0, .int .i64 0, .int .i64 0, .int .i64 0, .int .i64 0, .int .i64 0, .int .i64 0, .int .i64 0, .int .i64 0, .int .i64 0, .int .i64 0, .int .i64 0] 25))
  have c8 := range_cell T0.out (tc_at f 8 (by decide))
  have F0 := hid (HF.out.below (bal (bal (Below.refl _ _) (.cells (tc f).toArray 25)) (.cells #[.int .i64 0, .int .i64 0, .int .i64 0, .int .i64 0, .int .i64 0, .int .i64 0, .int .i64 0, .int .i64 0, .int .i64 0, .int .i64 0, .int .i64 0, .int .i64 0, .int .i64 0, .int .i64 0, .int .i64 0, .int .i64 0, .int .i64 0, .int .i64 0, .int .i64 0, .int .i64 0] 25)))
  have R0 := hid (there_new (w.alloc (.cells (tc f).toArray 25)) #[.int .i64 0, .int .i64 0, .int .i64 0, .int .i64 0, .int .i64 0, .int .i64 0, .int .i64 0, .int .i64 0, .int .i64 0, .int .i64 0, .int .i64 0, .int .i64 0, .int .i64 0, .int .i64 0, .int .i64 0, .int .i64 0, .int .i64 0, .int .i64 0, .int .i64 0, .int .i64 0] 25 (w.heap.size + 1) 20 (by simp) (by decide))
  have K0 := hid (((Kp.refl (fun _ => False) w).alloc (.cells (tc f).toArray 25)).alloc (.cells #[.int .i64 0, .int .i64 0, .int .i64 0, .int .i64 0, .int .i64 0, .int .i64 0, .int .i64 0, .int .i64 0, .int .i64 0, .int .i64 0, .int .i64 0, .int .i64 0, .int .i64 0, .int .i64 0, .int .i64 0, .int .i64 0, .int .i64 0, .int .i64 0, .int .i64 0, .int .i64 0] 25))
  have G0 := hid (gw_start w · f · · · · #[.int .i64 0, .int .i64 0, .int .i64 0, .int .i64 0, .int .i64 0, .int .i64 0, .int .i64 0, .int .i64 0, .int .i64 0, .int .i64 0, .int .i64 0, .int .i64 0, .int .i64 0, .int .i64 0, .int .i64 0, .int .i64 0, .int .i64 0, .int .i64 0, .int .i64 0, .int .i64 0] rfl)
  have s0 : ((w.alloc (.cells (tc f).toArray 25)).alloc (.cells #[.int .i64 0, .int .i64 0, .int .i64 0, .int .i64 0, .int .i64 0, .int .i64 0, .int .i64 0, .int .i64 0, .int .i64 0, .int .i64 0, .int .i64 0, .int .i64 0, .int .i64 0, .int .i64 0, .int .i64 0, .int .i64 0, .int .i64 0, .int .i64 0, .int .i64 0, .int .i64 0] 25)).heap.size = w.heap.size + 1 + 1 := by simp
  go_enter Try.func8, Try.ntmps8
  go_wp2_with fail
  generalize World.alloc _ (.cells #[.int .i64 0, .int .i64 0, .int .i64 0, .int .i64 0, .int .i64 0, .int .i64 0, .int .i64 0, .int .i64 0, .int .i64 0, .int .i64 0, .int .i64 0, .int .i64 0, .int .i64 0, .int .i64 0, .int .i64 0, .int .i64 0, .int .i64 0, .int .i64 0, .int .i64 0, .int .i64 0] 25) = W at G0 T0 c8 F0 R0 K0 s0 ⊢
  rw [HPC.out]
  refine (flatLoad_any p b cap q zs low _ _ F0.out p0 p1).mono ?_
  rintro e w' ⟨rfl, rfl⟩
  rw [HOK.out]
  generalize hx : ldL zs (f 8) = x at *
  have HXX := hid hx
  clear hx
  go_wp2_with fail
  refine (flatLoad_any p b cap q zs low _ _ F0.out q0 q1).mono ?_
  rintro e w' ⟨rfl, rfl⟩
  rw [HOK1.out]
  go_wp2_with (first
    | ((with_reducible (show wpList _ _ _ (⟨_, Op.load 25 _, _, _, _, _⟩ :: _) _ _)); refine wp_ld rfl _ rfl _ rfl (tc f) (tc_len _) T0.out ?_)
    | ((with_reducible (show wpList _ _ _ (⟨_, Op.store 25 _ _, _, _, _, _⟩ :: _) _ _)); refine wp_st rfl _ _ rfl _ rfl (tc f) rfl (tc_len _) (tc_one _) R0.out ?_; have E := hid (World.rangeAt_setCells_same W (w.heap.size + 1) 0 (tc f) (by rw [tc_len]; exact R0.out)); have K9 := hid (Kp.setCells (b := w.heap.size + 1) (.inr (by omega)) (tc f) 0 _ K0.out); generalize World.setCells _ _ _ _ = W9 at E K9 ⊢))
  refine bodyPost_ret (v := retV f 2 (pc1 f)) (results_c3 rfl rfl (run_ld _ _ (tc f) E.out (tc_len _)) rfl rfl) rfl ⟨rfl, K9.out.wider (fun _ _ h => h.elim), HF.out.kept K9.out id id⟩
set_option maxRecDepth 100000 in
set_option maxHeartbeats 4000000 in
theorem did_bad (p b cap : Nat) (q : Option Addr) (zs : List Int) (low : Int) (f : Nat → Int) (w : World) (hF : FlatAt w p q b cap zs low) (hf : ∀ k, k < 9 → 0 ≤ f k ∧ f k < 65536) (HOK : Hid (okL zs (f 8) = true)) (HOK1 : Hid (okL zs (pc1 f) = true)) (HWD : Hid (IP.word (ldL zs (f 8)) (ldL zs (pc1 f)))) (HM : Hid ((IP.may (ldL zs (f 8) / 256) (ldL zs (f 8) / 16 % 16) (ldL zs (f 8) % 16) (IP.dI (ldL zs (pc1 f))) == 0) = false)) :
    Calls Try.prog 8 #[.agg (tc f).toArray, .func (.func 9) #[.pointer (some ⟨p, 0, none⟩)] #[], .func (.func 10) #[.pointer (some ⟨p, 0, none⟩)] #[]] w
      fun e w' => e = .returned (retV f 2 (-1)) ∧ Kp (fun _ => False) w w' ∧ FlatAt w' p q b cap (zs) low := by
  have HF := hid hF
  clear hF
  obtain ⟨p0, p1⟩ := hf 8 (by decide)
  have q0 : 0 ≤ pc1 f := Int.emod_nonneg _ (by decide)
  have q1 : pc1 f < 65536 := Int.emod_lt_of_pos _ (by decide)
  have HPC := hid (show (f 8 + 1) % 65536 = pc1 f from rfl)
  have T0 := hid (World.rangeAt_alloc (range_new w (tc f) 25 _ rfl) (.cells #[.int .i64 0, .int .i64 0, .int .i64 0, .int .i64 0, .int .i64 0, .int .i64 0, .int .i64 0, .int .i64 0, .int .i64 0, .int .i64 0, .int .i64 0, .int .i64 0, .int .i64 0, .int .i64 0, .int .i64 0, .int .i64 0, .int .i64 0, .int .i64 0, .int .i64 0, .int .i64 0] 25))
  have c8 := range_cell T0.out (tc_at f 8 (by decide))
  have F0 := hid (HF.out.below (bal (bal (Below.refl _ _) (.cells (tc f).toArray 25)) (.cells #[.int .i64 0, .int .i64 0, .int .i64 0, .int .i64 0, .int .i64 0, .int .i64 0, .int .i64 0, .int .i64 0, .int .i64 0, .int .i64 0, .int .i64 0, .int .i64 0, .int .i64 0, .int .i64 0, .int .i64 0, .int .i64 0, .int .i64 0, .int .i64 0, .int .i64 0, .int .i64 0] 25)))
  have R0 := hid (there_new (w.alloc (.cells (tc f).toArray 25)) #[.int .i64 0, .int .i64 0, .int .i64 0, .int .i64 0, .int .i64 0, .int .i64 0, .int .i64 0, .int .i64 0, .int .i64 0, .int .i64 0, .int .i64 0, .int .i64 0, .int .i64 0, .int .i64 0, .int .i64 0, .int .i64 0, .int .i64 0, .int .i64 0, .int .i64 0, .int .i64 0] 25 (w.heap.size + 1) 20 (by simp) (by decide))
  have K0 := hid (((Kp.refl (fun _ => False) w).alloc (.cells (tc f).toArray 25)).alloc (.cells #[.int .i64 0, .int .i64 0, .int .i64 0, .int .i64 0, .int .i64 0, .int .i64 0, .int .i64 0, .int .i64 0, .int .i64 0, .int .i64 0, .int .i64 0, .int .i64 0, .int .i64 0, .int .i64 0, .int .i64 0, .int .i64 0, .int .i64 0, .int .i64 0, .int .i64 0, .int .i64 0] 25))
  have G0 := hid (gw_start w · f · · · · #[.int .i64 0, .int .i64 0, .int .i64 0, .int .i64 0, .int .i64 0, .int .i64 0, .int .i64 0, .int .i64 0, .int .i64 0, .int .i64 0, .int .i64 0, .int .i64 0, .int .i64 0, .int .i64 0, .int .i64 0, .int .i64 0, .int .i64 0, .int .i64 0, .int .i64 0, .int .i64 0] rfl)
  have s0 : ((w.alloc (.cells (tc f).toArray 25)).alloc (.cells #[.int .i64 0, .int .i64 0, .int .i64 0, .int .i64 0, .int .i64 0, .int .i64 0, .int .i64 0, .int .i64 0, .int .i64 0, .int .i64 0, .int .i64 0, .int .i64 0, .int .i64 0, .int .i64 0, .int .i64 0, .int .i64 0, .int .i64 0, .int .i64 0, .int .i64 0, .int .i64 0] 25)).heap.size = w.heap.size + 1 + 1 := by simp
  go_enter Try.func8, Try.ntmps8
  go_wp2_with fail
  generalize World.alloc _ (.cells #[.int .i64 0, .int .i64 0, .int .i64 0, .int .i64 0, .int .i64 0, .int .i64 0, .int .i64 0, .int .i64 0, .int .i64 0, .int .i64 0, .int .i64 0, .int .i64 0, .int .i64 0, .int .i64 0, .int .i64 0, .int .i64 0, .int .i64 0, .int .i64 0, .int .i64 0, .int .i64 0] 25) = W at G0 T0 c8 F0 R0 K0 s0 ⊢
  rw [HPC.out]
  refine (flatLoad_any p b cap q zs low _ _ F0.out p0 p1).mono ?_
  rintro e w' ⟨rfl, rfl⟩
  rw [HOK.out]
  generalize hx : ldL zs (f 8) = x at *
  have HXX := hid hx
  clear hx
  go_wp2_with fail
  refine (flatLoad_any p b cap q zs low _ _ F0.out q0 q1).mono ?_
  rintro e w' ⟨rfl, rfl⟩
  rw [HOK1.out]
  generalize hy : ldL zs (pc1 f) = y at *
  have HYY := hid hy
  clear hy
  go_wp2_with fail
  refine (Isa.insOf_word x y _ HWD.out).mono ?_
  rintro e w1 ⟨rfl, hb⟩
  rw [HM.out]
  have hs1 := hb.size
  rw [s0] at hs1
  have B1 := hid (bal hb (.cells #[.int .i64 (x / 256), .int .i64 (x / 16 % 16), .int .i64 (x % 16), .int .i64 (IP.dI y)] 48))
  have T1 := hid (range_below T0.out B1.out)
  have R1 := hid (there_kp (T := fun _ => False) R0.out (.of_below B1.out) id)
  have K1 := hid (K0.out.trans (.of_below B1.out))
  clear hb G0 T0 R0 K0 B1
  go_wp2_with (first
    | ((with_reducible (show wpList _ _ _ (⟨_, Op.load 25 _, _, _, _, _⟩ :: _) _ _)); refine wp_ld rfl _ rfl _ rfl (tc f) (tc_len _) T1.out ?_)
    | ((with_reducible (show wpList _ _ _ (⟨_, Op.store 25 _ _, _, _, _, _⟩ :: _) _ _)); refine wp_st rfl _ _ rfl _ rfl (tc f) rfl (tc_len _) (tc_one _) R1.out ?_; have E := hid (World.rangeAt_setCells_same _ (w.heap.size + 1) 0 (tc f) (by rw [tc_len]; exact R1.out)); have K9 := hid (Kp.setCells (b := w.heap.size + 1) (.inr (by omega)) (tc f) 0 _ K1.out); generalize World.setCells _ _ _ _ = W9 at E K9 ⊢))
  refine bodyPost_ret (v := retV f 2 (-1)) (results_c3 rfl rfl (run_ld _ _ (tc f) E.out (tc_len _)) rfl rfl) rfl ⟨rfl, K9.out.wider (fun _ _ h => h.elim), HF.out.kept K9.out id id⟩
end Go.Proofs.Ytlkplpdnleaihab.Cpu
