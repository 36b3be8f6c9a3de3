/- cpu.Step, walked. -/
import Derived.Test.YtlkplpdnleaihagCpuDo
import Derived.Test.YtlkplpdnleaihagDecOf
namespace Go.Proofs.Ytlkplpdnleaihag.Cpu
open Go.RowKit Go.Proofs.Ytlkplpdnleaihag.Mem Go.Proofs.Ytlkplpdnleaihag.Bw Go.Proofs.Ytlkplpdnleaihag.Nums

/-- The world behind Step's first statements. -/
structure SW (w W : World) (f : Nat → Int) (x y : Int) : Prop where
  t : W.rangeAt w.heap.size 0 (tc f)
  r : W.there (w.heap.size + 1) 0 20
  c0 : W.cell? ⟨w.heap.size + 1 + 1, 0, none⟩ = some (.int .i64 x)
  c1 : W.cell? ⟨w.heap.size + 1 + 1, 1, none⟩ = some (.int .i64 y)
  z0 : W.frozen? ⟨w.heap.size + 1 + 1, 0, none⟩ = false
  z1 : W.frozen? ⟨w.heap.size + 1 + 1, 1, none⟩ = false
  kp : Kp (fun _ => False) w W
  sz : w.heap.size + 1 + 1 < W.heap.size
theorem SW.start (w : World) (f : Nat → Int) (z : Array Value) (hz : z.size = 20) : SW w (((w.alloc (.cells (tc f).toArray 35)).alloc (.cells z 35)).alloc (.cells #[.int .i64 0, .int .i64 0] 48)) f 0 0 := by
  have q := cells_at ((w.alloc (.cells (tc f).toArray 35)).alloc (.cells z 35)) #[.int .i64 0, .int .i64 0] 48 (w.heap.size + 1 + 1) (by simp)
  have hf := there_new ((w.alloc (.cells (tc f).toArray 35)).alloc (.cells z 35)) #[.int .i64 0, .int .i64 0] 48 (w.heap.size + 1 + 1) 2 (by simp) (by decide)
  exact ⟨World.rangeAt_alloc (World.rangeAt_alloc (range_new w _ _ _ rfl) _) _, World.there_alloc (there_new _ _ _ _ _ (by simp) (by omega)) _, q 0, q 1, (hf 0 (by decide)).2, (hf 1 (by decide)).2, (((Kp.refl _ w).alloc _).alloc _).alloc _, by simp⟩
theorem SW.below {w W W' : World} {f : Nat → Int} {x y : Int} (h : SW w W f x y) (hb : Below W.heap.size W W') : SW w W' f x y := by
  have hs := h.sz
  exact ⟨range_below h.t hb, there_kp h.r (T := fun _ => False) (.of_below hb) id, (hb.cell (by simp; omega)).trans h.c0, (hb.cell (by simp; omega)).trans h.c1, (hb.frozen (by simp; omega)).trans h.z0, (hb.frozen (by simp; omega)).trans h.z1, h.kp.trans (.of_below hb), by have := hb.size; omega⟩
theorem SW.set0 {w W : World} {f : Nat → Int} {x y : Int} (h : SW w W f x y) (v : Int) : SW w (W.setCell ⟨w.heap.size + 1 + 1, 0, none⟩ (.int .i64 v)) f v y :=
  ⟨range_far h.t (by omega) _, there_set h.r _ _, World.cell?_setCell_same W _ _ h.c0, (World.cell?_setCell_other W _ _ _ (by intro e; cases e)).trans h.c1, by rw [World.frozen?_setCell]; exact h.z0, by rw [World.frozen?_setCell]; exact h.z1, h.kp.setCell (.inr (by omega)) _, by rw [show (W.setCell ⟨w.heap.size + 1 + 1, 0, none⟩ (.int .i64 v)).heap.size = W.heap.size by simp [World.setCell]]; exact h.sz⟩
theorem SW.set1 {w W : World} {f : Nat → Int} {x y : Int} (h : SW w W f x y) (v : Int) : SW w (W.setCell ⟨w.heap.size + 1 + 1, 1, none⟩ (.int .i64 v)) f x v :=
  ⟨range_far h.t (by omega) _, there_set h.r _ _, (World.cell?_setCell_other W _ _ _ (by intro e; cases e)).trans h.c0, World.cell?_setCell_same W _ _ h.c1, by rw [World.frozen?_setCell]; exact h.z0, by rw [World.frozen?_setCell]; exact h.z1, h.kp.setCell (.inr (by omega)) _, by rw [show (W.setCell ⟨w.heap.size + 1 + 1, 1, none⟩ (.int .i64 v)).heap.size = W.heap.size by simp [World.setCell]]; exact h.sz⟩
theorem SW.res {w W : World} {f : Nat → Int} {x y : Int} (h : SW w W f x y) (e : Nat → Int) : (W.setCells (w.heap.size + 1) 0 (tc e)).rangeAt (w.heap.size + 1) 0 (tc e) ∧ Kp (fun _ => False) w (W.setCells (w.heap.size + 1) 0 (tc e)) :=
  ⟨World.rangeAt_setCells_same _ _ _ _ (by rw [tc_len]; exact h.r), Kp.setCells (.inr (by omega)) _ _ _ h.kp⟩
def pc1 (f : Nat → Int) : Int := (f 8 + 1) % 65536
set_option maxHeartbeats 4000000 in
theorem step_no0 {bus : Value} {M : Type} (X : BusOf bus M) (m : M) (f : Nat → Int) (w : World) (hX : X.Inv w m) (hf : ∀ k, k < 9 → 0 ≤ f k ∧ f k < 65536) (HOK : Hid (X.ok m (f 8) = false)) :
    Calls Try.prog 10 #[.agg (tc f).toArray, bus] w
      fun e w' => e = .returned (retV f 2 (f 8)) ∧ Kp X.T w w' ∧ X.Inv w' m := by
  have HX := hid hX
  clear hX
  obtain ⟨p0, p1⟩ := hf 8 (by decide)
  have ep : f 8 % 65536 = f 8 := by omega
  have S0 := hid (SW.start w f #[.int .i64 0, .int .i64 0, .int .i64 0, .int .i64 0, .int .i64 0, .int .i64 0, .int .i64 0, .int .i64 0, .int .i64 0, .int .i64 0, .int .i64 0, .int .i64 0, .int .i64 0, .int .i64 0, .int .i64 0, .int .i64 0, .int .i64 0, .int .i64 0, .int .i64 0, .int .i64 0] rfl)
  have c8 := range_cell S0.out.t (tc_at f 8 (by decide))
  have X0 := hid (X.stab HX.out S0.out.kp (fun _ _ h => h))
  go_enter Try.func10, Try.ntmps10
  go_wp2_with fail
  generalize World.alloc _ _ = W at S0 X0 c8 ⊢
  refine wp_loop_rounds 3 ?_
  rw [rounds_succ]
  go_wp2_with (first | (go_at_call 15; refine (wrap_any _ _).mono ?_; rintro e w2 ⟨rfl, rfl⟩))
  refine (X.load _ X0.out p0 p1).mono ?_
  rintro e w4 ⟨rfl, hb⟩
  rw [HOK.out]
  have S1 := hid (S0.out.below hb)
  clear S0 X0 c8 hb W
  go_wp2_with (first
    | (refine wp_ld rfl _ rfl _ rfl (tc f) (tc_len _) S1.out.t ?_)
    | (refine wp_st rfl _ _ rfl _ rfl (tc f) rfl (tc_len _) (tc_one _) S1.out.r ?_; have E := hid (S1.out.res f); generalize World.setCells _ _ _ _ = W9 at E ⊢))
  refine bodyPost_ret (v := retV f 2 (f 8)) (results_c3 rfl rfl (run_ld _ _ (tc f) E.out.1 (tc_len _)) rfl rfl) rfl ⟨rfl, E.out.2.wider (fun _ _ h => h.elim), X.stab HX.out E.out.2 (fun _ _ h => h)⟩
set_option maxHeartbeats 4000000 in
theorem step_no1 {bus : Value} {M : Type} (X : BusOf bus M) (m : M) (f : Nat → Int) (w : World) (hX : X.Inv w m) (hf : ∀ k, k < 9 → 0 ≤ f k ∧ f k < 65536) (HOK : Hid (X.ok m (f 8) = true)) (HOK1 : Hid (X.ok m (pc1 f) = false)) :
    Calls Try.prog 10 #[.agg (tc f).toArray, bus] w
      fun e w' => e = .returned (retV f 2 (pc1 f)) ∧ Kp X.T w w' ∧ X.Inv w' m := by
  have HX := hid hX
  clear hX
  obtain ⟨p0, p1⟩ := hf 8 (by decide)
  have ep : f 8 % 65536 = f 8 := by omega
  have S0 := hid (SW.start w f #[.int .i64 0, .int .i64 0, .int .i64 0, .int .i64 0, .int .i64 0, .int .i64 0, .int .i64 0, .int .i64 0, .int .i64 0, .int .i64 0, .int .i64 0, .int .i64 0, .int .i64 0, .int .i64 0, .int .i64 0, .int .i64 0, .int .i64 0, .int .i64 0, .int .i64 0, .int .i64 0] rfl)
  have c8 := range_cell S0.out.t (tc_at f 8 (by decide))
  have X0 := hid (X.stab HX.out S0.out.kp (fun _ _ h => h))
  go_enter Try.func10, Try.ntmps10
  go_wp2_with fail
  generalize World.alloc _ _ = W at S0 X0 c8 ⊢
  refine wp_loop_rounds 3 ?_
  rw [rounds_succ]
  go_wp2_with (first | (go_at_call 15; refine (wrap_any _ _).mono ?_; rintro e w2 ⟨rfl, rfl⟩))
  refine (X.load _ X0.out p0 p1).mono ?_
  rintro e w4 ⟨rfl, hb⟩
  rw [HOK.out]
  have S1 := hid (S0.out.below hb)
  clear S0 X0 c8 hb W
  have c0 := S1.out.c0
  have z0 := S1.out.z0
  generalize hx : X.ld m (f 8) = x at *
  have HXX := hid hx
  clear hx
  have S2 := hid (S1.out.set0 x)
  have c8 := range_cell S2.out.t (tc_at f 8 (by decide))
  have q0 : 0 ≤ pc1 f := Int.emod_nonneg _ (by decide)
  have q1 : pc1 f < 65536 := Int.emod_lt_of_pos _ (by decide)
  have HPC := hid (show (f 8 + 1) % 65536 = pc1 f from rfl)
  have X2 := hid (X.stab HX.out S2.out.kp (fun _ _ h => h))
  go_wp2_with fail
  rw [rounds_succ]
  go_wp2_with (first | (go_at_call 15; refine (wrap_any _ _).mono ?_; rintro e w2 ⟨rfl, rfl⟩))
  rw [HPC.out]
  generalize World.setCell _ _ _ = W at S2 X2 c8 ⊢
  refine (X.load _ X2.out q0 q1).mono ?_
  rintro e w5 ⟨rfl, hb⟩
  rw [HOK1.out]
  have S3 := hid (S2.out.below hb)
  clear S1 S2 X2 c8 c0 z0 hb W
  go_wp2_with (first
    | (refine wp_ld rfl _ rfl _ rfl (tc f) (tc_len _) S3.out.t ?_)
    | (refine wp_st rfl _ _ rfl _ rfl (tc f) rfl (tc_len _) (tc_one _) S3.out.r ?_; have E := hid (S3.out.res f); generalize World.setCells _ _ _ _ = W9 at E ⊢))
  refine bodyPost_ret (v := retV f 2 (pc1 f)) (results_c3 rfl rfl (run_ld _ _ (tc f) E.out.1 (tc_len _)) rfl rfl) rfl ⟨rfl, E.out.2.wider (fun _ _ h => h.elim), X.stab HX.out E.out.2 (fun _ _ h => h)⟩
set_option maxHeartbeats 4000000 in
theorem step_bad {bus : Value} {M : Type} (X : BusOf bus M) (m : M) (f : Nat → Int) (w : World) (hX : X.Inv w m) (hf : ∀ k, k < 9 → 0 ≤ f k ∧ f k < 65536) (HOK : Hid (X.ok m (f 8) = true)) (HOK1 : Hid (X.ok m (pc1 f) = true)) (hm : Hid (¬ isIns (X.ld m (f 8)) (X.ld m (pc1 f)))) :
    Calls Try.prog 10 #[.agg (tc f).toArray, bus] w
      fun e w' => e = .returned (retV f 2 (-1)) ∧ Kp X.T w w' ∧ X.Inv w' m := by
  have HWD := hid (show IP.word (X.ld m (f 8)) (X.ld m (pc1 f)) from ⟨(X.word _ hX).1, by have := (X.word (f 8) hX).2; omega, (X.word _ hX).1, by have := (X.word (pc1 f) hX).2; omega⟩)
  have HX := hid hX
  clear hX
  obtain ⟨p0, p1⟩ := hf 8 (by decide)
  have ep : f 8 % 65536 = f 8 := by omega
  have S0 := hid (SW.start w f #[.int .i64 0, .int .i64 0, .int .i64 0, .int .i64 0, .int .i64 0, .int .i64 0, .int .i64 0, .int .i64 0, .int .i64 0, .int .i64 0, .int .i64 0, .int .i64 0, .int .i64 0, .int .i64 0, .int .i64 0, .int .i64 0, .int .i64 0, .int .i64 0, .int .i64 0, .int .i64 0] rfl)
  have c8 := range_cell S0.out.t (tc_at f 8 (by decide))
  have X0 := hid (X.stab HX.out S0.out.kp (fun _ _ h => h))
  go_enter Try.func10, Try.ntmps10
  go_wp2_with fail
  generalize World.alloc _ _ = W at S0 X0 c8 ⊢
  refine wp_loop_rounds 3 ?_
  rw [rounds_succ]
  go_wp2_with (first | (go_at_call 15; refine (wrap_any _ _).mono ?_; rintro e w2 ⟨rfl, rfl⟩))
  refine (X.load _ X0.out p0 p1).mono ?_
  rintro e w4 ⟨rfl, hb⟩
  rw [HOK.out]
  have S1 := hid (S0.out.below hb)
  clear S0 X0 c8 hb W
  have c0 := S1.out.c0
  have z0 := S1.out.z0
  generalize hx : X.ld m (f 8) = x at *
  have HXX := hid hx
  clear hx
  have S2 := hid (S1.out.set0 x)
  have c8 := range_cell S2.out.t (tc_at f 8 (by decide))
  have q0 : 0 ≤ pc1 f := Int.emod_nonneg _ (by decide)
  have q1 : pc1 f < 65536 := Int.emod_lt_of_pos _ (by decide)
  have HPC := hid (show (f 8 + 1) % 65536 = pc1 f from rfl)
  have X2 := hid (X.stab HX.out S2.out.kp (fun _ _ h => h))
  go_wp2_with fail
  rw [rounds_succ]
  go_wp2_with (first | (go_at_call 15; refine (wrap_any _ _).mono ?_; rintro e w2 ⟨rfl, rfl⟩))
  rw [HPC.out]
  generalize World.setCell _ _ _ = W at S2 X2 c8 ⊢
  refine (X.load _ X2.out q0 q1).mono ?_
  rintro e w5 ⟨rfl, hb⟩
  rw [HOK1.out]
  have S3 := hid (S2.out.below hb)
  clear S1 S2 X2 c8 c0 z0 hb W
  have c1 := S3.out.c1
  have z1 := S3.out.z1
  generalize hy : X.ld m (pc1 f) = y at *
  have HYY := hid hy
  clear hy
  have S4 := hid (S3.out.set1 y)
  have d0 := S4.out.c0
  have d1 := S4.out.c1
  go_wp2_with fail
  rw [rounds_succ]
  go_wp2_with fail
  generalize World.setCell _ _ _ = W at S4 d0 d1 ⊢
  clear S3 c1 z1
  refine (decode_no _ _ _ HWD.out hm.out).mono ?_
  rintro e w6 ⟨rfl, hb⟩
  have S5 := hid ((S4.out.below hb).below (bal (Below.refl _ _) (.cells #[.int .i64 0, .int .i64 0, .int .i64 0, .int .i64 0] 45)))
  clear S4 d0 d1 hb
  go_wp2_with (first
    | (refine wp_ld rfl _ rfl _ rfl (tc f) (tc_len _) S5.out.t ?_)
    | (refine wp_st rfl _ _ rfl _ rfl (tc f) rfl (tc_len _) (tc_one _) S5.out.r ?_; have E := hid (S5.out.res f); generalize World.setCells _ _ _ _ = W9 at E ⊢))
  refine bodyPost_ret (v := retV f 2 (-1)) (results_c3 rfl rfl (run_ld _ _ (tc f) E.out.1 (tc_len _)) rfl rfl) rfl ⟨rfl, E.out.2.wider (fun _ _ h => h.elim), X.stab HX.out E.out.2 (fun _ _ h => h)⟩
set_option maxHeartbeats 4000000 in
theorem step_do {bus : Value} {M : Type} (X : BusOf bus M) (m : M) (f : Nat → Int) (w : World) (hX : X.Inv w m) (hf : ∀ k, k < 9 → 0 ≤ f k ∧ f k < 65536) (HOK : Hid (X.ok m (f 8) = true)) (HOK1 : Hid (X.ok m (pc1 f) = true)) (hm : Hid (isIns (X.ld m (f 8)) (X.ld m (pc1 f)))) (o : Int) (A B : Nat) (ho : Hid (X.ld m (f 8) / 256 = o)) (hA : Hid (X.ld m (f 8) / 16 % 16 = (A : Int))) (hB : Hid (X.ld m (f 8) % 16 = (B : Int))) (i : Int) (hi : Hid (IP.dI (X.ld m (pc1 f)) = i)) (bA : A < 8) (bB : B < 8) (i0 : -32768 ≤ i) (i1 : i ≤ 32767) :
    Calls Try.prog 10 #[.agg (tc f).toArray, bus] w
      fun e w' => e = .returned (retV (doR X m f o A B i).1 (doR X m f o A B i).2.1 (doR X m f o A B i).2.2.1) ∧ Kp X.T w w' ∧ X.Inv w' (doR X m f o A B i).2.2.2 := by
  have HWD := hid (show IP.word (X.ld m (f 8)) (X.ld m (pc1 f)) from ⟨(X.word _ hX).1, by have := (X.word (f 8) hX).2; omega, (X.word _ hX).1, by have := (X.word (pc1 f) hX).2; omega⟩)
  have HX := hid hX
  clear hX
  obtain ⟨p0, p1⟩ := hf 8 (by decide)
  have ep : f 8 % 65536 = f 8 := by omega
  have S0 := hid (SW.start w f #[.int .i64 0, .int .i64 0, .int .i64 0, .int .i64 0, .int .i64 0, .int .i64 0, .int .i64 0, .int .i64 0, .int .i64 0, .int .i64 0, .int .i64 0, .int .i64 0, .int .i64 0, .int .i64 0, .int .i64 0, .int .i64 0, .int .i64 0, .int .i64 0, .int .i64 0, .int .i64 0] rfl)
  have c8 := range_cell S0.out.t (tc_at f 8 (by decide))
  have X0 := hid (X.stab HX.out S0.out.kp (fun _ _ h => h))
  go_enter Try.func10, Try.ntmps10
  go_wp2_with fail
  generalize World.alloc _ _ = W at S0 X0 c8 ⊢
  refine wp_loop_rounds 3 ?_
  rw [rounds_succ]
  go_wp2_with (first | (go_at_call 15; refine (wrap_any _ _).mono ?_; rintro e w2 ⟨rfl, rfl⟩))
  refine (X.load _ X0.out p0 p1).mono ?_
  rintro e w4 ⟨rfl, hb⟩
  rw [HOK.out]
  have S1 := hid (S0.out.below hb)
  clear S0 X0 c8 hb W
  have c0 := S1.out.c0
  have z0 := S1.out.z0
  generalize hx : X.ld m (f 8) = x at *
  have HXX := hid hx
  clear hx
  have S2 := hid (S1.out.set0 x)
  have c8 := range_cell S2.out.t (tc_at f 8 (by decide))
  have q0 : 0 ≤ pc1 f := Int.emod_nonneg _ (by decide)
  have q1 : pc1 f < 65536 := Int.emod_lt_of_pos _ (by decide)
  have HPC := hid (show (f 8 + 1) % 65536 = pc1 f from rfl)
  have X2 := hid (X.stab HX.out S2.out.kp (fun _ _ h => h))
  go_wp2_with fail
  rw [rounds_succ]
  go_wp2_with (first | (go_at_call 15; refine (wrap_any _ _).mono ?_; rintro e w2 ⟨rfl, rfl⟩))
  rw [HPC.out]
  generalize World.setCell _ _ _ = W at S2 X2 c8 ⊢
  refine (X.load _ X2.out q0 q1).mono ?_
  rintro e w5 ⟨rfl, hb⟩
  rw [HOK1.out]
  have S3 := hid (S2.out.below hb)
  clear S1 S2 X2 c8 c0 z0 hb W
  have c1 := S3.out.c1
  have z1 := S3.out.z1
  generalize hy : X.ld m (pc1 f) = y at *
  have HYY := hid hy
  clear hy
  have S4 := hid (S3.out.set1 y)
  have d0 := S4.out.c0
  have d1 := S4.out.c1
  go_wp2_with fail
  rw [rounds_succ]
  go_wp2_with fail
  generalize World.setCell _ _ _ = W at S4 d0 d1 ⊢
  clear S3 c1 z1
  refine (decode_ok _ _ _ HWD.out hm.out).mono ?_
  rintro e w6 ⟨rfl, hb⟩
  rw [ho.out, hA.out, hB.out, hi.out]
  have S5 := hid ((S4.out.below hb).below (bal (Below.refl _ _) (.cells #[.int .i64 o, .int .i64 A, .int .i64 B, .int .i64 i] 45)))
  have q6 := cells_new w6 #[.int .i64 o, .int .i64 A, .int .i64 B, .int .i64 i] 45
  clear S4 d0 d1 hb
  have X5 := hid (X.stab HX.out S5.out.kp (fun _ _ h => h))
  have HT := hid (fun k (h : X.T k) => X.flt HX.out (X.tf k h))
  go_wp2_with (first | (refine wp_ld rfl _ rfl _ rfl (tc f) (tc_len _) S5.out.t ?_))
  refine (do_any X m f A B o i _ X5.out bA bB hf i0 i1).mono ?_
  rintro e w8 ⟨rfl, hk, hv⟩
  generalize hr : doR X m f o A B i = R at hk hv ⊢
  have HR := hid hr
  obtain ⟨g, ev, n, m'⟩ := R
  have R8 := hid (there_kp S5.out.r hk (fun e => by have := HT.out _ e; omega))
  have K8 := hid ((S5.out.kp.wider (U := X.T) (fun _ _ h => h.elim)).trans hk)
  have V8 := hid hv
  clear hr hk hv S5 q6 X5
  unfold retV
  go_wp2_with (first | (refine wp_st rfl _ _ rfl _ rfl (tc g) rfl (tc_len _) (tc_one _) R8.out ?_; have E := hid (World.rangeAt_setCells_same w8 (w.heap.size + 1) 0 (tc g) (by rw [tc_len]; exact R8.out)); have K9 := hid (Kp.setCells (b := w.heap.size + 1) (.inr (by omega)) (tc g) 0 _ K8.out); have P := hid (Kp.setCells (T := (· = w.heap.size + 1)) (b := w.heap.size + 1) (.inl rfl) (tc g) 0 _ (Kp.refl _ w8)); generalize World.setCells _ _ _ _ = W9 at E K9 P ⊢))
  refine bodyPost_ret (v := retV g ev n) (results_c3 rfl rfl (run_ld _ _ (tc g) E.out (tc_len _)) rfl rfl) rfl ⟨by rw [HR.out], K9.out, by rw [HR.out]; exact X.stab V8.out P.out (fun k h e => by have := X.flt HX.out h; omega)⟩
end Go.Proofs.Ytlkplpdnleaihag.Cpu
