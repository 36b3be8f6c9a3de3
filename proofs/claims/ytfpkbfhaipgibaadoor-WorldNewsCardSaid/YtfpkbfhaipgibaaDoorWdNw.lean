/- keyholdref.NewWorld, walked. -/
import Derived.Test.YtfpkbfhaipgibaaDoorWdNw0
import Derived.Deep.DeepCutAuto
namespace Go.Proofs.YtfpkbfhaipgibaaDoor.Wd
open Go.RowKit Go.Proofs.YtfpkbfhaipgibaaDoor.Mem Go.Proofs.YtfpkbfhaipgibaaDoor.Bw Go.Proofs.YtfpkbfhaipgibaaDoor.Nums Go.Proofs.YtfpkbfhaipgibaaDoor.Mmu

theorem step_val {P : Program} {o : Oper} {a : Act} {w w2 : World} {v : Value} {K : Act → World → Prop} {Q : Exit → Act → World → Prop} (h : (execOp a.eval o).run P w = .ok (.value v) w2) (hk : K (a.put o.dst v) w2) : o.wp P a w K Q := wp_val h hk
set_option maxRecDepth 100000 in
set_option maxHeartbeats 8000000 in
theorem newWorld_yes (f c : Nat) (dv : Value) (zs : List Int) (w : World) (hd : IntsIn w dv zs) (f0 : 1 ≤ f) (f1 : f ≤ 24) (c0 : 1 ≤ c) (c1 : c ≤ 4) (z0 : 1 ≤ zs.length) (z1 : zs.length ≤ 8) (hz : zs.findIdx nd = zs.length) :
    Calls Tryd.prog 29 #[.int .i64 f, .int .i64 c, dv] w fun r w' => ∃ V, r = .returned (.tuple #[.agg (arr11 V), .agg #[.int .i64 0, .int .i64 (-1)]]) ∧ WorldV w' V (newP f c zs) ∧ Below w.heap.size w w' := by
  obtain ⟨i0, hi0, hz0, hz1, hz2⟩ := info_get infoI
  obtain ⟨iS, hiS, hs0, hs1, hs2⟩ := info_get infoSlot
  obtain ⟨iT, hiT, ht0, ht1, ht2⟩ := info_get infoTask
  obtain ⟨q, b, off, cap, rfl, hq, hi⟩ := hd
  have HQ := hid hq
  have HI := hid hi
  have f2 : (f : Int) ≤ 24 := by omega
  have f3 : 1 ≤ (f : Int) := by omega
  have c2 : (c : Int) ≤ 4 := by omega
  have c3 : 1 ≤ (c : Int) := by omega
  have z2 : (zs.length : Int) ≤ 8 := by omega
  have z3 : 1 ≤ (zs.length : Int) := by omega
  have wf : IntKind.i64.wrap ((f : Int) * 16) = (f : Int) * 16 := wraps_i64 _ (by omega) (by omega)
  have wc : IntKind.i64.wrap ((c : Int) * 4) = (c : Int) * 4 := wraps_i64 _ (by omega) (by omega)
  have HZ := hid (show ∀ j (hj : j < zs.length), decide (zs[j] < 0 ∨ 3 < zs[j]) = false from fun j hj => by
    have := List.findIdx_eq_length.1 hz zs[j] (List.getElem_mem hj)
    unfold nd at this
    rw [decide_eq_false_iff_not]
    have h2 : decide (0 ≤ zs[j] ∧ zs[j] ≤ 3) = true := by simpa using this
    have := of_decide_eq_true h2
    omega)
  clear hz hq hi
  have B0 := hid (bal (bal (Below.refl w.heap.size w) (.cells #[.slice none 0 0, .slice none 0 0, .slice none 0 0, .slice none 0 0, .slice none 0 0, .slice none 0 0, .slice none 0 0, .slice none 0 0, .slice none 0 0, .slice none 0 0, .int .i64 0] 68)) (.cells #[.int .i64 0, .int .i64 0] 25))
  have Z6 := hid (there_belowO (there_new w #[.slice none 0 0, .slice none 0 0, .slice none 0 0, .slice none 0 0, .slice none 0 0, .slice none 0 0, .slice none 0 0, .slice none 0 0, .slice none 0 0, .slice none 0 0, .int .i64 0] 68 w.heap.size 11 rfl (by decide)) (bal (Below.refl _ _) (.cells #[.int .i64 0, .int .i64 0] 25)))
  have Z7 := hid (there_new (w.alloc (.cells #[.slice none 0 0, .slice none 0 0, .slice none 0 0, .slice none 0 0, .slice none 0 0, .slice none 0 0, .slice none 0 0, .slice none 0 0, .slice none 0 0, .slice none 0 0, .int .i64 0] 68)) #[.int .i64 0, .int .i64 0] 25 (w.heap.size + 1) 2 (by simp) (by decide))
  have Y6 := hid ((ty_below (bal (Below.refl _ _) (.cells #[.int .i64 0, .int .i64 0] 25)) (by simp)).trans (ty_new w #[.slice none 0 0, .slice none 0 0, .slice none 0 0, .slice none 0 0, .slice none 0 0, .slice none 0 0, .slice none 0 0, .slice none 0 0, .slice none 0 0, .slice none 0 0, .int .i64 0] 68 w.heap.size rfl))
  have Y7 := hid (ty_new (w.alloc (.cells #[.slice none 0 0, .slice none 0 0, .slice none 0 0, .slice none 0 0, .slice none 0 0, .slice none 0 0, .slice none 0 0, .slice none 0 0, .slice none 0 0, .slice none 0 0, .int .i64 0] 68)) #[.int .i64 0, .int .i64 0] 25 (w.heap.size + 1) (by simp))
  go_enter Tryd.func29, Tryd.ntmps29
  go_wp2_with fail
  generalize World.alloc _ _ = W0 at B0 Z6 Z7 Y6 Y7 ⊢
  go_loopw [8] (fun i wr => ∃ k : Nat, k ≤ zs.length ∧ i = .int .i64 k ∧ Hid (W0 = wr)) (fun i _ => zs.length - (intOf i).toNat)
  case atStart => exact ⟨0, by omega, rfl, hid rfl⟩
  case round =>
    obtain ⟨k, hk, rfl, HW⟩ := hrel
    obtain rfl := HW.out
    clear HW
    by_cases hlt : k < zs.length
    · have hlt2 : (k : Int) < (zs.length : Int) := by omega
      have hqe := HQ.out (by omega)
      subst hqe
      have c9 := (HI.out.below B0.out) k hlt
      have HN := hid (HZ.out k hlt)
      generalize zs[k] = z at c9 HN
      go_wp2_with fail
      refine (Isa.far_any z 3 W0).mono ?_
      rintro e w1 ⟨rfl, rfl⟩
      rw [HN.out]
      go_wp2_with fail
      exact ⟨⟨k + 1, by omega, by go_num, hid trivial⟩, by simp [intOf]; omega⟩
    · obtain rfl : k = zs.length := by omega
      have hge : ¬ ((zs.length : Int) < (zs.length : Int)) := by omega
      go_wp2_with fail
      refine wp_head (R := nwRel W0.heap.size f c zs (.slice q zs.length cap)) (n1 := 19) (N := 106) (by kernel_rfl) (by kernel_rfl) (by simp) (Array.replicate 19 true ++ Array.replicate 1 false) rfl (show ∀ i, i < 20 → (Array.replicate 19 true ++ Array.replicate 1 false).getD i false = decide (i < 19) by decide) (nwRel_mono W0.heap.size f c zs _) ?_ ?_
      · intro i o hi ho listed a' w' hh hdep
        match i, hi, ho with
        | 0, _, ho =>
          simp only [List.getElem?_toArray, List.getElem?_cons_zero, Option.some.injEq] at ho
          subst ho
          have e0 : a'.tmps[0]?.getD undef = .int .i64 f := (eval_get a' 0).symm.trans (hh.oldB 0 (by kernel_rfl))
          exact wp_val (v := .int .i64 f) (w2 := w') (by go_simp) ⟨_, rfl, rfl, Below.refl _ _⟩
        | 1, _, ho =>
          simp only [List.getElem?_toArray, List.getElem?_cons_zero, List.getElem?_cons_succ, Option.some.injEq] at ho
          subst ho
          have e53 : a'.tmps[53]?.getD undef = .int .i64 f := (eval_get a' 53) ▸ (hh.gotB 0 53 rfl (hdep ⟨0, .data⟩ (by simp) rfl) : nwRel W0.heap.size f c zs (.slice q zs.length cap) 0 (a'.eval (.tmp 53)) w')
          exact wp_val (v := .int .i64 ((f : Int) * 16)) (w2 := w') (by go_simp) ⟨_, rfl, val_eq (by omega), Below.refl _ _⟩
        | 2, _, ho =>
          simp only [List.getElem?_toArray, List.getElem?_cons_zero, List.getElem?_cons_succ, Option.some.injEq] at ho
          subst ho
          have e54 : a'.tmps[54]?.getD undef = .int .i64 ((f * 16 : Nat) : Int) := (eval_get a' 54) ▸ (hh.gotB 1 54 rfl (hdep ⟨1, .data⟩ (by simp) rfl) : nwRel W0.heap.size f c zs (.slice q zs.length cap) 1 (a'.eval (.tmp 54)) w')
          obtain ⟨W2, hm, hr, hb⟩ := make_ints GT (f * 16) (by omega) w' (fun arr => gt_new w' arr _ (by decide) (by decide))
          rw [show ((f * 16 : Nat) : Int) = (f : Int) * 16 by omega] at hm
          exact wp_val (w2 := W2) (by go_simp) ⟨_, rfl, hr, hb⟩
        | 3, _, ho =>
          simp only [List.getElem?_toArray, List.getElem?_cons_zero, List.getElem?_cons_succ, Option.some.injEq] at ho
          subst ho
          have e0 : a'.tmps[0]?.getD undef = .int .i64 f := (eval_get a' 0).symm.trans (hh.oldB 0 (by kernel_rfl))
          exact wp_val (v := .int .i64 f) (w2 := w') (by go_simp) ⟨_, rfl, rfl, Below.refl _ _⟩
        | 4, _, ho =>
          simp only [List.getElem?_toArray, List.getElem?_cons_zero, List.getElem?_cons_succ, Option.some.injEq] at ho
          subst ho
          have e56 : a'.tmps[56]?.getD undef = .int .i64 f := (eval_get a' 56) ▸ (hh.gotB 3 56 rfl (hdep ⟨3, .data⟩ (by simp) rfl) : nwRel W0.heap.size f c zs (.slice q zs.length cap) 3 (a'.eval (.tmp 56)) w')
          obtain ⟨W2, hm, hr, hb⟩ := make_ints GT (f) (by omega) w' (fun arr => gt_new w' arr _ (by decide) (by decide))
          exact wp_val (w2 := W2) (by go_simp) ⟨_, rfl, hr, hb⟩
        | 5, _, ho =>
          simp only [List.getElem?_toArray, List.getElem?_cons_zero, List.getElem?_cons_succ, Option.some.injEq] at ho
          subst ho
          have e0 : a'.tmps[0]?.getD undef = .int .i64 f := (eval_get a' 0).symm.trans (hh.oldB 0 (by kernel_rfl))
          exact wp_val (v := .int .i64 f) (w2 := w') (by go_simp) ⟨_, rfl, rfl, Below.refl _ _⟩
        | 6, _, ho =>
          simp only [List.getElem?_toArray, List.getElem?_cons_zero, List.getElem?_cons_succ, Option.some.injEq] at ho
          subst ho
          have e58 : a'.tmps[58]?.getD undef = .int .i64 f := (eval_get a' 58) ▸ (hh.gotB 5 58 rfl (hdep ⟨5, .data⟩ (by simp) rfl) : nwRel W0.heap.size f c zs (.slice q zs.length cap) 5 (a'.eval (.tmp 58)) w')
          obtain ⟨W2, hm, hr, hb⟩ := make_ints GT (f) (by omega) w' (fun arr => gt_new w' arr _ (by decide) (by decide))
          exact wp_val (w2 := W2) (by go_simp) ⟨_, rfl, hr, hb⟩
        | 7, _, ho =>
          simp only [List.getElem?_toArray, List.getElem?_cons_zero, List.getElem?_cons_succ, Option.some.injEq] at ho
          subst ho
          have e0 : a'.tmps[0]?.getD undef = .int .i64 f := (eval_get a' 0).symm.trans (hh.oldB 0 (by kernel_rfl))
          exact wp_val (v := .int .i64 f) (w2 := w') (by go_simp) ⟨_, rfl, rfl, Below.refl _ _⟩
        | 8, _, ho =>
          simp only [List.getElem?_toArray, List.getElem?_cons_zero, List.getElem?_cons_succ, Option.some.injEq] at ho
          subst ho
          have e60 : a'.tmps[60]?.getD undef = .int .i64 f := (eval_get a' 60) ▸ (hh.gotB 7 60 rfl (hdep ⟨7, .data⟩ (by simp) rfl) : nwRel W0.heap.size f c zs (.slice q zs.length cap) 7 (a'.eval (.tmp 60)) w')
          obtain ⟨W2, hm, hr, hb⟩ := make_lists GT (f) (by omega) w' (fun arr => gt_new w' arr _ (by decide) (by decide))
          exact wp_val (w2 := W2) (by go_simp) ⟨_, rfl, hr, hb⟩
        | 9, _, ho =>
          simp only [List.getElem?_toArray, List.getElem?_cons_zero, List.getElem?_cons_succ, Option.some.injEq] at ho
          subst ho
          have e1 : a'.tmps[1]?.getD undef = .int .i64 c := (eval_get a' 1).symm.trans (hh.oldB 1 (by kernel_rfl))
          exact wp_val (v := .int .i64 c) (w2 := w') (by go_simp) ⟨_, rfl, rfl, Below.refl _ _⟩
        | 10, _, ho =>
          simp only [List.getElem?_toArray, List.getElem?_cons_zero, List.getElem?_cons_succ, Option.some.injEq] at ho
          subst ho
          have e62 : a'.tmps[62]?.getD undef = .int .i64 c := (eval_get a' 62) ▸ (hh.gotB 9 62 rfl (hdep ⟨9, .data⟩ (by simp) rfl) : nwRel W0.heap.size f c zs (.slice q zs.length cap) 9 (a'.eval (.tmp 62)) w')
          exact wp_val (v := .int .i64 ((c : Int) * 4)) (w2 := w') (by go_simp) ⟨_, rfl, val_eq (by omega), Below.refl _ _⟩
        | 11, _, ho =>
          simp only [List.getElem?_toArray, List.getElem?_cons_zero, List.getElem?_cons_succ, Option.some.injEq] at ho
          subst ho
          have e63 : a'.tmps[63]?.getD undef = .int .i64 ((c * 4 : Nat) : Int) := (eval_get a' 63) ▸ (hh.gotB 10 63 rfl (hdep ⟨10, .data⟩ (by simp) rfl) : nwRel W0.heap.size f c zs (.slice q zs.length cap) 10 (a'.eval (.tmp 63)) w')
          obtain ⟨W2, hm, hr, hb⟩ := make_lists GT (c * 4) (by omega) w' (fun arr => gt_new w' arr _ (by decide) (by decide))
          rw [show ((c * 4 : Nat) : Int) = (c : Int) * 4 by omega] at hm
          exact wp_val (w2 := W2) (by go_simp) ⟨_, rfl, hr, hb⟩
        | 12, _, ho =>
          simp only [List.getElem?_toArray, List.getElem?_cons_zero, List.getElem?_cons_succ, Option.some.injEq] at ho
          subst ho
          have e1 : a'.tmps[1]?.getD undef = .int .i64 c := (eval_get a' 1).symm.trans (hh.oldB 1 (by kernel_rfl))
          exact wp_val (v := .int .i64 c) (w2 := w') (by go_simp) ⟨_, rfl, rfl, Below.refl _ _⟩
        | 13, _, ho =>
          simp only [List.getElem?_toArray, List.getElem?_cons_zero, List.getElem?_cons_succ, Option.some.injEq] at ho
          subst ho
          have e65 : a'.tmps[65]?.getD undef = .int .i64 c := (eval_get a' 65) ▸ (hh.gotB 12 65 rfl (hdep ⟨12, .data⟩ (by simp) rfl) : nwRel W0.heap.size f c zs (.slice q zs.length cap) 12 (a'.eval (.tmp 65)) w')
          obtain ⟨W2, hm, hr, hb⟩ := make_tlbs GT (c) (by omega) w' (fun arr => gt_new w' arr _ (by decide) (by decide))
          exact wp_val (w2 := W2) (by go_simp) ⟨_, rfl, hr, hb⟩
        | 14, _, ho =>
          simp only [List.getElem?_toArray, List.getElem?_cons_zero, List.getElem?_cons_succ, Option.some.injEq] at ho
          subst ho
          exact wp_val (v := .slice (some ⟨w'.heap.size, 0, none⟩) 0 0) (w2 := w'.alloc (.cells #[] 3)) (by go_simp) ⟨_, rfl, ⟨w'.heap.size, rfl⟩, bal (Below.refl _ _) _⟩
        | 15, _, ho =>
          simp only [List.getElem?_toArray, List.getElem?_cons_zero, List.getElem?_cons_succ, Option.some.injEq] at ho
          subst ho
          have e2 : a'.tmps[2]?.getD undef = .slice q zs.length cap := (eval_get a' 2).symm.trans (hh.oldB 2 (by kernel_rfl))
          exact wp_val (v := .slice q zs.length cap) (w2 := w') (by go_simp) ⟨_, rfl, rfl, Below.refl _ _⟩
        | 16, _, ho =>
          simp only [List.getElem?_toArray, List.getElem?_cons_zero, List.getElem?_cons_succ, Option.some.injEq] at ho
          subst ho
          obtain ⟨b0, e67⟩ := (eval_get a' 67) ▸ (hh.gotB 14 67 rfl (hdep ⟨14, .data⟩ (by simp) rfl) : nwRel W0.heap.size f c zs (.slice q zs.length cap) 14 (a'.eval (.tmp 67)) w')
          have e68 : a'.tmps[68]?.getD undef = .slice q zs.length cap := (eval_get a' 68) ▸ (hh.gotB 15 68 rfl (hdep ⟨15, .data⟩ (by simp) rfl) : nwRel W0.heap.size f c zs (.slice q zs.length cap) 15 (a'.eval (.tmp 68)) w')
          obtain ⟨ad, had, hcells⟩ : ∃ ad, q = some ad ∧ ∀ j u, (ints zs)[j]? = some u → w'.cell? (ad.add j) = some u := ⟨⟨b, off, none⟩, HQ.out (by omega), ints_at ((HI.out.below (btr B0.out (below_drew W0 1))).below hh.bel)⟩
          subst had
          obtain ⟨v', w2, hrun, hown, hgrow⟩ := run_append_arg_grows (P := Tryd.prog) w' 36 36 3 i0 (.int .i64 0) 1 8 Tryd.underlying36 hi0 hz0 hz1 hz2 rfl (by decide) ⟨b0, 0, none⟩ 0 0 [] rfl (fun j u h => by simp at h) ad zs.length cap (ints zs) (ints_len zs) hcells (by omega) (by unfold maxLen; omega) (by omega)
          rw [Nat.zero_add, List.nil_append] at hown
          refine step_val ?_ ⟨_, rfl, own_intsF hown (fun g cur _ hg => gt_heap hg (by decide) (by decide)), (Below.refl w'.heap.size w').grown hgrow (Nat.le_refl _) (fun k hk => by cases hk)⟩
          simp [execOp, resolve, invoke, builtin, eval_get, e67, e68, hrun, Result.andThen]
        | 17, _, ho =>
          simp only [List.getElem?_toArray, List.getElem?_cons_zero, List.getElem?_cons_succ, Option.some.injEq] at ho
          subst ho
          have h0 := (eval_get a' 55) ▸ (hh.gotB 2 55 rfl (hdep ⟨2, .data⟩ (by simp) rfl) : nwRel W0.heap.size f c zs (.slice q zs.length cap) 2 (a'.eval (.tmp 55)) w')
          obtain ⟨q0, k0, e55⟩ := h0.slice
          rw [e55] at h0
          have h1 := (eval_get a' 57) ▸ (hh.gotB 4 57 rfl (hdep ⟨4, .data⟩ (by simp) rfl) : nwRel W0.heap.size f c zs (.slice q zs.length cap) 4 (a'.eval (.tmp 57)) w')
          obtain ⟨q1, k1, e57⟩ := h1.slice
          rw [e57] at h1
          have h5 := (eval_get a' 59) ▸ (hh.gotB 6 59 rfl (hdep ⟨6, .data⟩ (by simp) rfl) : nwRel W0.heap.size f c zs (.slice q zs.length cap) 6 (a'.eval (.tmp 59)) w')
          obtain ⟨q5, k5, e59⟩ := h5.slice
          rw [e59] at h5
          have h4 := (eval_get a' 61) ▸ (hh.gotB 8 61 rfl (hdep ⟨8, .data⟩ (by simp) rfl) : nwRel W0.heap.size f c zs (.slice q zs.length cap) 8 (a'.eval (.tmp 61)) w')
          obtain ⟨q4, k4, e61⟩ := h4.slice
          rw [e61] at h4
          have h7 := (eval_get a' 64) ▸ (hh.gotB 11 64 rfl (hdep ⟨11, .data⟩ (by simp) rfl) : nwRel W0.heap.size f c zs (.slice q zs.length cap) 11 (a'.eval (.tmp 64)) w')
          obtain ⟨q7, k7, e64⟩ := h7.slice
          rw [e64] at h7
          have h8 := (eval_get a' 66) ▸ (hh.gotB 13 66 rfl (hdep ⟨13, .data⟩ (by simp) rfl) : nwRel W0.heap.size f c zs (.slice q zs.length cap) 13 (a'.eval (.tmp 66)) w')
          obtain ⟨q8, k8, e66⟩ := h8.slice
          rw [e66] at h8
          have h9 := (eval_get a' 69) ▸ (hh.gotB 16 69 rfl (hdep ⟨16, .data⟩ (by simp) rfl) : nwRel W0.heap.size f c zs (.slice q zs.length cap) 16 (a'.eval (.tmp 69)) w')
          obtain ⟨q9, k9, e69⟩ := h9.slice
          rw [e69] at h9
          refine wp_val (w2 := w') (v := .agg (arr11 (v11 (.slice q0 _ k0) (.slice q1 _ k1) (.slice none 0 0) (.slice none 0 0) (.slice q4 _ k4) (.slice q5 _ k5) (.slice none 0 0) (.slice q7 _ k7) (.slice q8 _ k8) (.slice q9 _ k9) (.int .i64 0)))) (by go_simp; simp [v11]) ⟨_, rfl, ⟨(v11 (.slice q0 _ k0) (.slice q1 _ k1) (.slice none 0 0) (.slice none 0 0) (.slice q4 _ k4) (.slice q5 _ k5) (.slice none 0 0) (.slice q7 _ k7) (.slice q8 _ k8) (.slice q9 _ k9) (.int .i64 0)), rfl, ⟨h0, h1, ⟨none, 0, 0, 0, rfl, fun e => by simp [midP] at e, fun j hj => by simp [midP] at hj, by decide⟩, ⟨none, 0, 0, 0, rfl, fun e => by simp [midP] at e, fun j hj => by simp [midP] at hj, by decide⟩, h4, h5, ints_from_nil _ _, h7, h8, h9, rfl⟩, ⟨rfl, rfl, rfl⟩, ?_⟩, Below.refl _ _⟩
          intro k
          exact one11 _ _ _ _ _ _ _ _ _ _ _ k (fun x hx => by simp at hx; rcases hx with rfl | rfl | rfl | rfl | rfl | rfl | rfl | rfl | rfl | rfl | rfl <;> rfl)
        | 18, _, ho =>
          simp only [List.getElem?_toArray, List.getElem?_cons_zero, List.getElem?_cons_succ, Option.some.injEq] at ho
          subst ho
          exact wp_val (v := .pointer (some ⟨w'.heap.size, 0, none⟩)) (w2 := w'.alloc (.cells #[.slice none 0 0, .slice none 0 0, .slice none 0 0, .slice none 0 0, .slice none 0 0, .slice none 0 0, .slice none 0 0, .slice none 0 0, .slice none 0 0, .slice none 0 0, .int .i64 0] 68)) (by go_simp) ⟨_, rfl, ⟨w'.heap.size, rfl, hh.bel.size, there_new _ _ _ _ _ rfl (by decide), ty_new _ _ _ _ rfl⟩, bal (Below.refl _ _) _⟩
        | _ + 19, hi, _ => omega
      · intro a' w' hh
        have e0 : a'.eval (.tmp 0) = .int .i64 f := hh.oldB 0 (by kernel_rfl)
        have e1 : a'.eval (.tmp 1) = .int .i64 c := hh.oldB 1 (by kernel_rfl)
        have e6 : a'.eval (.tmp 6) = .pointer (some ⟨w.heap.size, 0, none⟩) := hh.oldB 6 (by kernel_rfl)
        have e7 : a'.eval (.tmp 7) = .pointer (some ⟨w.heap.size + 1, 0, none⟩) := hh.oldB 7 (by kernel_rfl)
        obtain ⟨b9, e9, hb9, ht9, hy9⟩ : nwRel W0.heap.size f c zs (.slice q zs.length cap) 18 (a'.eval (.tmp 9)) w' := hh.gotB 18 9 rfl rfl
        obtain ⟨V, e70, hV, ⟨v2, v3, v6⟩, h1⟩ : nwRel W0.heap.size f c zs (.slice q zs.length cap) 17 (a'.eval (.tmp 70)) w' := hh.gotB 17 70 rfl rfl
        have one : ∀ x ∈ arr11 V, x.oneCell' = true := fun x hx => by
          simp only [List.mem_toArray, List.mem_cons, List.not_mem_nil, or_false] at hx
          rcases hx with rfl | rfl | rfl | rfl | rfl | rfl | rfl | rfl | rfl | rfl | rfl <;> exact h1 _
        have bel0 := hh.bel
        have szz : a'.tmps.size = 106 := hh.ts.trans (by simp)
        have dff : a'.defers = [] := hh.df
        change wpAny _ _ _ _ (0 + 1) _ _ _
        refine wpAny_all (rs := [19]) (by kernel_rfl) (by simp) ?_
        intro i hi
        obtain rfl := List.mem_singleton.1 hi
        unfold wpOp
        simp only [List.getElem?_toArray, List.getElem?_cons_zero, List.getElem?_cons_succ]
        rw [if_pos (by rfl)]
        refine Or.inl (wp_store_mid 68 _ _ rfl b9 0 (arr11 V) e9 e70 ht9 info11 (Array.all_eq_true'.2 one) ?_)
        refine wpAny_done (by kernel_rfl) ?_ _
        clear hh hi one
        have kp0 : Kp (fun k => k = b9) w' (w'.setCells b9 0 (arr11 V).toList) := Kp.setCells (T := fun k => k = b9) (.inl rfl) _ _ _ (Kp.refl _ _)
        have sw : w.heap.size + 1 < W0.heap.size := ty_lt Y7.out
        have sd : W0.heap.size ≤ w'.heap.size := bel0.size
        have bW := btr B0.out (below_drew W0 1)
        have z6' := there_belowO (there_belowO Z6.out (below_drew W0 1)) bel0
        have z7' := there_belowO (there_belowO Z7.out (below_drew W0 1)) bel0
        have y6' := (ty_below bel0 (show w.heap.size < W0.heap.size by omega)).trans Y6.out
        have y7' := (ty_below bel0 (show w.heap.size + 1 < W0.heap.size by omega)).trans Y7.out
        have Z6b := hid (there_kp z6' kp0 (by omega))
        have Z7b := hid (there_kp z7' kp0 (by omega))
        have Y6b := hid ((ty_setCells b9 w.heap.size (arr11 V).toList 0 w').trans y6')
        have Y7b := hid ((ty_setCells b9 (w.heap.size + 1) (arr11 V).toList 0 w').trans y7')
        have Y9b := hid ((ty_setCells b9 b9 (arr11 V).toList 0 w').trans hy9)
        have FW := hid (hV.keep (keepsT_kp (.inl hy9) kp0))
        have BW := hid (kp0.below (btr bW bel0) (by have := (btr bW bel0).size; omega) (fun k hk => by omega))
        have N2 := hid (show NW (w'.setCells b9 0 (arr11 V).toList) b9 V (.slice none 0 0) (.slice none 0 0) (.slice none 0 0) (w'.setCells b9 0 (arr11 V).toList) from
          ⟨Kp.refl _ _, by rw [setCells_size]; exact ty_lt hy9, by rw [show [V 0, V 1, .slice none 0 0, .slice none 0 0, V 4, V 5, .slice none 0 0, V 7, V 8, V 9, V 10] = (arr11 V).toList by simp [v2, v3, v6]]; exact World.rangeAt_setCells_same w' b9 0 (arr11 V).toList ht9, World.there_setCells ht9 _ _ _, (ty_setCells b9 b9 (arr11 V).toList 0 w').trans hy9⟩)
        have h9 : w.heap.size + 1 < b9 := by omega
        generalize w'.setCells b9 0 (arr11 V).toList = W2 at Z6b Z7b Y6b Y7b Y9b FW BW N2 ⊢
        clear kp0 bW z6' z7' y6' y7' hy9 ht9 hV v2 v3 v6 e70 bel0 sd sw hb9 Z6 Z7 Y6 Y7
        obtain ⟨tm, df⟩ := a'
        have hdf : df = [] := dff
        subst hdf
        obtain ⟨y, rfl⟩ := litF tm szz
        have g0 : y 0 = .int .i64 f := e0
        have g1 : y 1 = .int .i64 c := e1
        have g6 : y 6 = .pointer (some ⟨w.heap.size, 0, none⟩) := e6
        have g7 : y 7 = .pointer (some ⟨w.heap.size + 1, 0, none⟩) := e7
        have g9 : y 9 = .pointer (some ⟨b9, 0, none⟩) := e9
        clear e0 e1 e6 e7 e9 szz dff
        rw [g0, g1, g6, g7, g9]
        clear g0 g1 g6 g7 g9 HQ HI HZ
        go_wp2_with fail
        go_loopw [10] (fun i wr => ∃ (k : Nat) (x : Value), k ≤ f * 16 ∧ i = .int .i64 k ∧ Hid (NW W2 b9 V x (.slice none 0 0) (.slice none 0 0) wr) ∧ Hid (wr.ownsRow W2.heap.size 115 7 x k (rep k (cf 7 sl)))) (fun i _ => f * 16 - (intOf i).toNat)
        case atStart => exact ⟨0, _, by omega, rfl, N2, hid (World.ownsRow_nil _ _ _ _)⟩
        case round =>
          obtain ⟨k, x, hk, rfl, HN, HO⟩ := hrel
          have cx : wr.cell? ⟨b9, 2, none⟩ = some x := range_cell HN.out.r rfl
          by_cases hlt : k < f * 16
          · have hlt2 : (k : Int) < (f : Int) * 16 := by omega
            go_wp2_with (at_builtin; refine wpList_append_own _ rfl _ _ 63 rfl W2.heap.size 115 iS (.agg #[.int .i64 0, .int .i64 0, .int .i64 0, .int .i64 0, .int .i64 0, .int .i64 0, .int .i64 0]) 7 56 Tryd.underlying63 hiS hs0 hs1 hs2 rfl (by decide) _ _ _ rfl (HO.out.alloc _) ⟨_, 0, none⟩ 1 1 [.int .i64 0, .int .i64 0, .int .i64 0, .int .i64 0, .int .i64 0, .int .i64 0, .int .i64 (-1)] rfl rfl (list_new _ _ _ _ rfl) (cf_one 7 sl) (by unfold maxLen; omega) (by omega) (by have := HN.out.kp.size; simp; omega) ?_; intro v' w5 hown hgrow _; obtain ⟨sq, sc, rfl⟩ := own_form hown; have N5 := hid ((HN.out.below (bal (Below.refl _ _) _)).grown hgrow (fun k hk => (HO.out.lt k hk).1)); have O5 := hid hown; have c5 := range_cell N5.out.r (k := 2) rfl; have f5 := (N5.out.t 2 (by decide)).2; clear hown hgrow)
            have e1 : rep k (cf 7 sl) ++ [.int .i64 0, .int .i64 0, .int .i64 0, .int .i64 0, .int .i64 0, .int .i64 0, .int .i64 (-1)] = rep (k + 1) (cf 7 sl) := rep_snoc k (cf 7 sl)
            refine ⟨⟨k + 1, _, by omega, by go_num, hid (N5.out.set2 _), hid ?_⟩, by simp [intOf]; omega⟩
            have O6 := O5.out
            rw [e1] at O6
            exact ownsRow_setCell_below O6 (a := ⟨b9, 2, none⟩) N5.out.lt _
          · obtain rfl : k = f * 16 := by omega
            have hge : ¬ ((f : Int) * 16 < (f : Int) * 16) := by omega
            have FW3 := hid (FW.out.keep (keepsT_kp (.inl Y9b.out) HN.out.kp))
            have RS3 := hid (own_rowsF (G := GT) (by decide) HO.out (fun g cur _ hg => gt_heap hg (by decide) (by decide)))
            have BW3 := hid (HN.out.kp.below BW.out BW.out.size (fun k hk => by omega))
            have Z63 := hid (there_kp Z6b.out HN.out.kp (by omega))
            have Z73 := hid (there_kp Z7b.out HN.out.kp (by omega))
            have Y63 := hid ((ty_block (HN.out.kp.block _ (ty_lt Y6b.out) (by omega))).trans Y6b.out)
            have Y73 := hid ((ty_block (HN.out.kp.block _ (ty_lt Y7b.out) (by omega))).trans Y7b.out)
            have Y93 := hid HN.out.ty
            have N3 := hid HN.out.again
            go_wp2_with fail
            clear HN HO FW BW Z6b Z7b Y6b Y7b Y9b N2 hge hlt hk cx
            generalize wr = W3 at FW3 RS3 BW3 Z63 Z73 Y63 Y73 Y93 N3 ⊢
            generalize x = xs at RS3 N3
            go_loopw [11] (fun i wr => ∃ (k : Nat) (x : Value), k ≤ f ∧ i = .int .i64 k ∧ Hid (NW W3 b9 V xs x (.slice none 0 0) wr) ∧ Hid (wr.ownsRow W3.heap.size 118 20 x k (rep k (cf 20 bl)))) (fun i _ => f - (intOf i).toNat)
            case atStart => exact ⟨0, _, by omega, rfl, N3, hid (World.ownsRow_nil _ _ _ _)⟩
            case round =>
              obtain ⟨k, x, hk, rfl, HN, HO⟩ := hrel
              have cx : wr.cell? ⟨b9, 3, none⟩ = some x := range_cell HN.out.r rfl
              by_cases hlt : k < f
              · have hlt2 : (k : Int) < (f : Int) := by omega
                have BE := hid (below_drew wr 1)
                have L1 : k + 1 ≤ maxLen := by unfold maxLen; omega
                have L2 : (k + 1) * 160 ≤ 140737488355328 := by omega
                go_wp2_with fail
                go_region_law (first
                  | (refine step_append_ownW rfl (.tmp 89) (.tmp 91) 64 rfl W3.heap.size 118 iT (.agg #[.int .i64 0, .int .i64 0, .int .i64 0, .int .i64 0, .int .i64 0, .int .i64 0, .int .i64 0, .int .i64 0, .int .i64 0, .int .i64 0, .int .i64 0, .int .i64 0, .int .i64 0, .int .i64 0, .int .i64 0, .int .i64 0, .int .i64 0, .int .i64 0, .int .i64 0, .int .i64 0]) 20 160 Tryd.underlying64 hiT ht0 ht1 ht2 rfl (by decide) _ _ _ rfl (O4.out.alloc _) ⟨_, 0, none⟩ 1 1 [.int .i64 0, .int .i64 0, .int .i64 0, .int .i64 0, .int .i64 0, .int .i64 0, .int .i64 0, .int .i64 0, .int .i64 0, .int .i64 0, .int .i64 0, .int .i64 (-1), .int .i64 (-1), .int .i64 (-1), .int .i64 (-1), .int .i64 0, .int .i64 0, .int .i64 (-1), .int .i64 0, .int .i64 0] rfl rfl (list_new _ _ _ _ rfl) (cf_one 20 bl) L1 L2 (N4.out.below (bal (Below.refl _ _) _)).kp.size ?_; intro v' w5 hown hgrow; obtain ⟨sq, sc, rfl⟩ := own_form hown; have N5 := hid ((N4.out.below (bal (Below.refl _ _) _)).grown hgrow (fun k hk => (O4.out.lt k hk).1)); have O5 := hid hown; have c5 := range_cell N5.out.r (k := 3) rfl; have f5 := (N5.out.t 3 (by decide)).2; clear hown hgrow)
                  | (rw [if_pos (by rfl)]; go_simp; refine (blank_refL _).mono ?_; rintro e w4 ⟨rfl, hb⟩; have N4 := hid (HN.out.below (btr BE.out hb)); have O4 := hid (own_below HO.out (btr BE.out hb)); have c4 := range_cell N4.out.r (k := 3) rfl; have c4b := range_cell (N4.out.below (bal (Below.refl w4.heap.size w4) (.cells #[.int .i64 0, .int .i64 0, .int .i64 0, .int .i64 0, .int .i64 0, .int .i64 0, .int .i64 0, .int .i64 0, .int .i64 0, .int .i64 0, .int .i64 0, .int .i64 (-1), .int .i64 (-1), .int .i64 (-1), .int .i64 (-1), .int .i64 0, .int .i64 0, .int .i64 (-1), .int .i64 0, .int .i64 0] 118))).r (k := 3) rfl; clear hb))
                all_goals
                  go_wp2_with fail
                  have e1 : rep k (cf 20 bl) ++ [.int .i64 0, .int .i64 0, .int .i64 0, .int .i64 0, .int .i64 0, .int .i64 0, .int .i64 0, .int .i64 0, .int .i64 0, .int .i64 0, .int .i64 0, .int .i64 (-1), .int .i64 (-1), .int .i64 (-1), .int .i64 (-1), .int .i64 0, .int .i64 0, .int .i64 (-1), .int .i64 0, .int .i64 0] = rep (k + 1) (cf 20 bl) := rep_snoc k (cf 20 bl)
                  refine ⟨⟨k + 1, _, by omega, by go_num, hid (N5.out.set3 _), hid ?_⟩, by simp [intOf]; omega⟩
                  have O6 := O5.out
                  rw [e1] at O6
                  exact ownsRow_setCell_below O6 (a := ⟨b9, 3, none⟩) N5.out.lt _
              · obtain rfl : k = f := by omega
                have hge : ¬ ((k : Int) < (k : Int)) := by omega
                have FW4 := hid (FW3.out.keep (keepsT_kp (.inl Y93.out) HN.out.kp))
                have RS4 := hid (RS3.out.keep (keepsT_kp (.inl Y93.out) HN.out.kp))
                have RT4 := hid (own_rowsF (G := GT) (by decide) HO.out (fun g cur _ hg => gt_heap hg (by decide) (by decide)))
                have BW4 := hid (HN.out.kp.below BW3.out BW3.out.size (fun k hk => by omega))
                have Z64 := hid (there_kp Z63.out HN.out.kp (by omega))
                have Z74 := hid (there_kp Z73.out HN.out.kp (by omega))
                have Y64 := hid ((ty_block (HN.out.kp.block _ (ty_lt Y63.out) (by omega))).trans Y63.out)
                have Y74 := hid ((ty_block (HN.out.kp.block _ (ty_lt Y73.out) (by omega))).trans Y73.out)
                have Y94 := hid HN.out.ty
                have N4 := hid HN.out.again
                go_wp2_with fail
                clear HN HO FW3 BW3 Z63 Z73 Y63 Y73 Y93 N3 RS3 hge hlt hk cx
                generalize wr = W4 at FW4 RS4 RT4 BW4 Z64 Z74 Y64 Y74 Y94 N4 ⊢
                generalize x = xt at RT4 N4
                go_loopw [12] (fun i wr => ∃ (j : Nat) (x : Value), j ≤ c ∧ i = .int .i64 j ∧ Hid (NW W4 b9 V xs xt x wr) ∧ Hid (wr.ownsRow W4.heap.size 3 1 x j (rep j [.int .i64 (-1)]))) (fun i _ => c - (intOf i).toNat)
                case atStart => exact ⟨0, _, by omega, rfl, N4, hid (World.ownsRow_nil _ _ _ _)⟩
                case round =>
                  obtain ⟨j, x, hj, rfl, HN, HO⟩ := hrel
                  have cx : wr.cell? ⟨b9, 6, none⟩ = some x := range_cell HN.out.r rfl
                  by_cases hlt : j < c
                  · have hlt2 : (j : Int) < (c : Int) := by omega
                    go_wp2_with (at_builtin; refine wpList_append_own _ rfl _ _ 36 rfl W4.heap.size 3 i0 (.int .i64 0) 1 8 Tryd.underlying36 hi0 hz0 hz1 hz2 rfl (by decide) _ _ _ rfl (HO.out.alloc _) ⟨_, 0, none⟩ 1 1 [.int .i64 (-1)] rfl rfl (list_new _ _ _ _ rfl) (int1 (-1)) (by unfold maxLen; omega) (by omega) (by have := HN.out.kp.size; simp; omega) ?_; intro v' w5 hown hgrow _; obtain ⟨sq, sc, rfl⟩ := own_form hown; have N5 := hid ((HN.out.below (bal (Below.refl _ _) _)).grown hgrow (fun k hk => (HO.out.lt k hk).1)); have O5 := hid hown; have c5 := range_cell N5.out.r (k := 6) rfl; have f5 := (N5.out.t 6 (by decide)).2; clear hown hgrow)
                    have e1 : rep j [.int .i64 (-1)] ++ [.int .i64 (-1)] = rep (j + 1) [.int .i64 (-1)] := rep_snoc j [.int .i64 (-1)]
                    refine ⟨⟨j + 1, _, by omega, by go_num, hid (N5.out.set6 _), hid ?_⟩, by simp [intOf]; omega⟩
                    have O6 := O5.out
                    rw [e1] at O6
                    exact ownsRow_setCell_below O6 (a := ⟨b9, 6, none⟩) N5.out.lt _
                  · obtain rfl : j = c := by omega
                    have hge : ¬ ((j : Int) < (j : Int)) := by omega
                    have KG := keepsT_kp (.inl Y94.out) HN.out.kp
                    have FW5 := FW4.out.keep KG
                    have FV := hid (show WorldF GT wr (v11 (V 0) (V 1) xs xt (V 4) (V 5) x (V 7) (V 8) (V 9) (V 10)) (newP k j zs) from
                      ⟨FW5.ram, FW5.kinds, RS4.out.keep KG, RT4.out.keep KG, FW5.lines, FW5.bits, own_repF HO.out (fun g cur _ hg => gt_heap hg (by decide) (by decide)), FW5.ready, FW5.tlbs, FW5.doms, FW5.time⟩)
                    have BW5 := hid (HN.out.kp.below BW4.out BW4.out.size (fun k hk => by omega))
                    have Z65 := hid (there_kp Z64.out HN.out.kp (by omega))
                    have Z75 := hid (there_kp Z74.out HN.out.kp (by omega))
                    have Y65 := hid ((ty_block (HN.out.kp.block _ (ty_lt Y64.out) (by omega))).trans Y64.out)
                    have Y75 := hid ((ty_block (HN.out.kp.block _ (ty_lt Y74.out) (by omega))).trans Y74.out)
                    have R5 := hid HN.out.r
                    have os : ∀ z ∈ [V 0, V 1, xs, xt, V 4, V 5, x, V 7, V 8, V 9, V 10], z.oneCell' = true := by
                      have a1 : xs.oneCell' = true := by obtain ⟨q, c, e⟩ := RS4.out.slice; rw [e]; rfl
                      have a2 : xt.oneCell' = true := by obtain ⟨q, c, e⟩ := RT4.out.slice; rw [e]; rfl
                      have a3 : x.oneCell' = true := by obtain ⟨q, c, e⟩ := own_form HO.out; rw [e]; rfl
                      intro z hz
                      simp only [List.mem_cons, List.not_mem_nil, or_false] at hz
                      rcases hz with rfl | rfl | rfl | rfl | rfl | rfl | rfl | rfl | rfl | rfl | rfl <;> first | exact h1 _ | assumption
                    have OS := hid os
                    go_wp2_with fail
                    clear HN HO FW4 RS4 RT4 BW4 Z64 Z74 Y64 Y74 Y94 N4 FW5 KG os h1
                    have BE := hid (below_drew wr 1)
                    refine wp_region_held_drew (S := fun W => W.rangeAt b9 0 [V 0, V 1, xs, xt, V 4, V 5, x, V 7, V 8, V 9, V 10]) (by kernel_rfl) R5.out (fun hH => ?_)
                    refine wpAnyH_take (i := 0) (v := .agg ([V 0, V 1, xs, xt, V 4, V 5, x, V 7, V 8, V 9, V 10] : List Value).toArray) rfl (by kernel_rfl) (by kernel_rfl) (by kernel_rfl) (fun _ _ _ h => h) (yieldsIf_load_mid (by rfl) _ _ rfl _ _ rfl [V 0, V 1, xs, xt, V 4, V 5, x, V 7, V 8, V 9, V 10] _ (fun _ h => h) Tryd.underlying68 rfl info11) hH ?_
                    simp only [Act.put, List.getElem_toArray, List.getElem_cons_zero, List.setIfInBounds_toArray, List.set_cons_zero, List.set_cons_succ]
                    refine wpAnyH_ready (rs := [1]) (by kernel_rfl) (by simp) (AllReadyH.cons rfl (fun K hK => ?_) AllReadyH.nil)
                    rw [if_pos (by rfl)]
                    simp only [List.getElem_toArray, List.getElem_cons_succ, List.getElem_cons_zero]
                    go_simp
                    refine (fine_any _).mono ?_
                    rintro e w6 ⟨rfl, hb⟩
                    have B6 := hid (btr BW5.out (btr BE.out hb))
                    have F6 := hid (FV.out.keep (keepsT_below (btr BE.out hb)))
                    have Z66 := hid (there_belowO Z65.out (btr BE.out hb))
                    have Z76 := hid (there_belowO Z75.out (btr BE.out hb))
                    have Y66 := hid ((ty_below (btr BE.out hb) (ty_lt Y65.out)).trans Y65.out)
                    have Y76 := hid ((ty_below (btr BE.out hb) (ty_lt Y75.out)).trans Y75.out)
                    have R6 := hid (range_below R5.out (btr BE.out hb))
                    clear hb
                    refine hK.out _ _ R6.out (fun _ => ?_)
                    clear hK K
                    have kp7 : Kp (fun k => k = w.heap.size) w6 (w6.setCells w.heap.size 0 [V 0, V 1, xs, xt, V 4, V 5, x, V 7, V 8, V 9, V 10]) := Kp.setCells (T := fun k => k = w.heap.size) (.inl rfl) _ _ _ (Kp.refl _ _)
                    have F7 := hid (F6.out.keep (keepsT_kp (.inl Y66.out) kp7))
                    have B7 := hid (below_setCells B6.out (Nat.le_refl _) [V 0, V 1, xs, xt, V 4, V 5, x, V 7, V 8, V 9, V 10] 0)
                    have Z77 := hid (there_kp Z76.out kp7 (by omega))
                    have Y77 := hid ((ty_setCells w.heap.size (w.heap.size + 1) [V 0, V 1, xs, xt, V 4, V 5, x, V 7, V 8, V 9, V 10] 0 w6).trans Y76.out)
                    have R7 := hid (World.rangeAt_setCells_apart R6.out w.heap.size 0 [V 0, V 1, xs, xt, V 4, V 5, x, V 7, V 8, V 9, V 10] (.inl (by omega)))
                    have Q7 := hid (World.rangeAt_setCells_same w6 w.heap.size 0 [V 0, V 1, xs, xt, V 4, V 5, x, V 7, V 8, V 9, V 10] Z66.out)
                    clear kp7
                    refine wpAnyH_ready (rs := [2]) (by kernel_rfl) (by simp) (AllReadyH.cons rfl (fun K hK => ?_) AllReadyH.nil)
                    rw [if_pos (by rfl)]
                    simp only [List.getElem_toArray, List.getElem_cons_succ, List.getElem_cons_zero]
                    refine wp_store_mid 68 _ _ rfl w.heap.size 0 ([V 0, V 1, xs, xt, V 4, V 5, x, V 7, V 8, V 9, V 10] : List Value).toArray rfl rfl Z66.out info11 (all_oneCell_toArray OS.out) ?_
                    generalize w6.setCells w.heap.size 0 [V 0, V 1, xs, xt, V 4, V 5, x, V 7, V 8, V 9, V 10] = W7 at F7 B7 Z77 Y77 R7 Q7 ⊢
                    refine hK.out _ _ R7.out (fun _ => ?_)
                    clear hK K
                    have kp8 : Kp (fun k => k = w.heap.size + 1) W7 (W7.setCells (w.heap.size + 1) 0 [.int .i64 0, .int .i64 (-1)]) := Kp.setCells (T := fun k => k = w.heap.size + 1) (.inl rfl) _ _ _ (Kp.refl _ _)
                    have F8 := hid (F7.out.keep (keepsT_kp (.inr Y77.out) kp8))
                    have B8 := hid (below_setCells B7.out (show w.heap.size ≤ w.heap.size + 1 by omega) [.int .i64 0, .int .i64 (-1)] 0)
                    have R8 := hid (World.rangeAt_setCells_apart R7.out (w.heap.size + 1) 0 [.int .i64 0, .int .i64 (-1)] (.inl (by omega)))
                    have Q8 := hid (World.rangeAt_setCells_apart Q7.out (w.heap.size + 1) 0 [.int .i64 0, .int .i64 (-1)] (.inl (by omega)))
                    have P8 := hid (World.rangeAt_setCells_same W7 (w.heap.size + 1) 0 [.int .i64 0, .int .i64 (-1)] Z77.out)
                    clear kp8
                    refine wpAnyH_ready (rs := [3]) (by kernel_rfl) (by simp) (AllReadyH.cons rfl (fun K hK => ?_) AllReadyH.nil)
                    rw [if_pos (by rfl)]
                    simp only [List.getElem_toArray, List.getElem_cons_succ, List.getElem_cons_zero]
                    refine wp_store_mid 25 _ _ rfl (w.heap.size + 1) 0 #[.int .i64 0, .int .i64 (-1)] rfl rfl Z77.out infoBad bOne ?_
                    generalize W7.setCells (w.heap.size + 1) 0 [.int .i64 0, .int .i64 (-1)] = W8 at F8 B8 R8 Q8 P8 ⊢
                    refine hK.out _ _ R8.out (fun _ => ?_)
                    clear hK K
                    refine wpAnyH_done (by kernel_rfl) ?_ _
                    go_wp2_with fail
                    refine bodyPost_ret (v := .tuple #[.agg ([V 0, V 1, xs, xt, V 4, V 5, x, V 7, V 8, V 9, V 10] : List Value).toArray, .agg #[.int .i64 0, .int .i64 (-1)]]) (results_cc rfl rfl (run_loadVar_mid _ w.heap.size 0 68 [V 0, V 1, xs, xt, V 4, V 5, x, V 7, V 8, V 9, V 10] _ Q8.out Tryd.underlying68 rfl info11) rfl (run_loadVar_mid _ (w.heap.size + 1) 0 25 [.int .i64 0, .int .i64 (-1)] _ P8.out Tryd.underlying25 rfl infoBad)) rfl ⟨_, rfl, F8.out.in_, B8.out⟩
end Go.Proofs.YtfpkbfhaipgibaaDoor.Wd
