/- world.New, walked. -/
import Derived.Test.YtfpkbfhaipgibaaDoorWdFrom
import Derived.Test.YtfpkbfhaipgibaaDoorWdSame
namespace Go.Proofs.YtfpkbfhaipgibaaDoor.Wd
open Go.RowKit Go.Proofs.YtfpkbfhaipgibaaDoor.Mem Go.Proofs.YtfpkbfhaipgibaaDoor.Bw Go.Proofs.YtfpkbfhaipgibaaDoor.Nums Go.Proofs.YtfpkbfhaipgibaaDoor.Mmu

theorem there_belowO {w w' : World} {b o n : Nat} (h : w.there b o n) (hb : Below w.heap.size w w') : w'.there b o n := fun j hj => by
  obtain ⟨h1, h2⟩ := h j hj
  obtain ⟨u, hu⟩ := Option.isSome_iff_exists.1 h1
  have hl := World.block_lt_of_cell? _ _ hu
  exact ⟨by rw [hb.cell hl]; exact h1, by rw [hb.frozen hl]; exact h2⟩
theorem eval_get (a : Act) (t : Nat) : a.eval (.tmp t) = a.tmps[t]?.getD undef := by simp [Act.eval, Array.getD_eq_getD_getElem?]
/-- Eleven values, one behind the other. -/
def v11 (x0 x1 x2 x3 x4 x5 x6 x7 x8 x9 x10 : Value) : Nat → Value
  | 0 => x0 | 1 => x1 | 2 => x2 | 3 => x3 | 4 => x4 | 5 => x5 | 6 => x6 | 7 => x7 | 8 => x8 | 9 => x9 | _ => x10
theorem one11 (x0 x1 x2 x3 x4 x5 x6 x7 x8 x9 x10 : Value) (k : Nat) (h : ∀ x ∈ [x0, x1, x2, x3, x4, x5, x6, x7, x8, x9, x10], x.oneCell' = true) : (v11 x0 x1 x2 x3 x4 x5 x6 x7 x8 x9 x10 k).oneCell' = true := by
  unfold v11
  split <;> (apply h; simp)
/-- What each operation of the making leaves. -/
def newRel (L : World → Nat → Prop) (f c : Nat) (zs : List Int) (dv : Value) : Nat → Value → World → Prop
  | 0, v, _ => v = .int .i64 f
  | 1, v, _ => v = .int .i64 ((f * 16 : Nat) : Int)
  | 2, v, w => IntsFrom L w v (List.replicate (f * 16) 0)
  | 3, v, _ => v = .int .i64 f
  | 4, v, w => IntsFrom L w v (List.replicate f 0)
  | 5, v, _ => v = .agg #[.int .i64 0, .int .i64 0, .int .i64 0, .int .i64 0, .int .i64 0, .int .i64 0, .int .i64 (-1)]
  | 6, v, w => ∃ b, v = .slice (some ⟨b, 0, none⟩) 1 1 ∧ w.rangeAt b 0 (cf 7 sl)
  | 7, v, _ => v = .int .i64 f
  | 8, v, _ => v = .int .i64 ((f * 16 : Nat) : Int)
  | 9, v, w => RowsFrom L 7 w v (List.replicate (f * 16) sl)
  | 10, v, _ => v = .agg #[.int .i64 0, .int .i64 0, .int .i64 0, .int .i64 0, .int .i64 0, .int .i64 0, .int .i64 0, .int .i64 0, .int .i64 0, .int .i64 0, .int .i64 0, .int .i64 (-1), .int .i64 (-1), .int .i64 (-1), .int .i64 (-1), .int .i64 0, .int .i64 0, .int .i64 (-1), .int .i64 0, .int .i64 0]
  | 11, v, w => ∃ b, v = .slice (some ⟨b, 0, none⟩) 1 1 ∧ w.rangeAt b 0 (cf 20 bl)
  | 12, v, _ => v = .int .i64 f
  | 13, v, w => RowsFrom L 20 w v (List.replicate f bl)
  | 14, v, _ => v = .int .i64 f
  | 15, v, w => ListsFrom L w v (List.replicate f [])
  | 16, v, _ => v = .int .i64 f
  | 17, v, w => IntsFrom L w v (List.replicate f 0)
  | 18, v, w => ∃ b, v = .slice (some ⟨b, 0, none⟩) 1 1 ∧ w.rangeAt b 0 [.int .i64 (-1)]
  | 19, v, _ => v = .int .i64 c
  | 20, v, w => IntsFrom L w v (List.replicate c (-1))
  | 21, v, _ => v = .int .i64 c
  | 22, v, _ => v = .int .i64 ((c * 4 : Nat) : Int)
  | 23, v, w => ListsFrom L w v (List.replicate (c * 4) [])
  | 24, v, _ => v = .int .i64 c
  | 25, v, w => TlbsFrom L w v (List.replicate c [])
  | 26, v, _ => v = dv
  | 27, v, w => IntsFrom L w v zs
  | 28, v, w => ∃ V, v = .agg (arr11 V) ∧ WorldF L w V (newP f c zs) ∧ ∀ k, (V k).oneCell' = true
  | _, _, _ => True
theorem newRel_mono (L f c : Nat) (zs : List Int) (dv : Value) : ∀ i v w w', Below w.heap.size w w' → newRel (GL L) f c zs dv i v w → newRel (GL L) f c zs dv i v w' := by
  intro i v w w' hb h
  match i, h with
  | 0, h => exact h
  | 1, h => exact h
  | 2, h => exact h.keep (keeps_below hb)
  | 3, h => exact h
  | 4, h => exact h.keep (keeps_below hb)
  | 5, h => exact h
  | 6, h => exact by obtain ⟨b, h1, h2⟩ := h; exact ⟨b, h1, range_belowO h2 hb⟩
  | 7, h => exact h
  | 8, h => exact h
  | 9, h => exact h.keep (keeps_below hb)
  | 10, h => exact h
  | 11, h => exact by obtain ⟨b, h1, h2⟩ := h; exact ⟨b, h1, range_belowO h2 hb⟩
  | 12, h => exact h
  | 13, h => exact h.keep (keeps_below hb)
  | 14, h => exact h
  | 15, h => exact h.keep (keeps_below hb)
  | 16, h => exact h
  | 17, h => exact h.keep (keeps_below hb)
  | 18, h => exact by obtain ⟨b, h1, h2⟩ := h; exact ⟨b, h1, range_belowO h2 hb⟩
  | 19, h => exact h
  | 20, h => exact h.keep (keeps_below hb)
  | 21, h => exact h
  | 22, h => exact h
  | 23, h => exact h.keep (keeps_below hb)
  | 24, h => exact h
  | 25, h => exact h.keep (keeps_below hb)
  | 26, h => exact h
  | 27, h => exact h.keep (keeps_below hb)
  | 28, h => exact by obtain ⟨V, h1, h2, h3⟩ := h; exact ⟨V, h1, h2.keep (keeps_below hb), h3⟩
  | _ + 29, _ => trivial
theorem wp_val {P : Program} {o : Oper} {a : Act} {w w2 : World} {v : Value} {K : Act → World → Prop} {Q : Exit → Act → World → Prop} (h : (execOp a.eval o).run P w = .ok (.value v) w2) (hk : K (a.put o.dst v) w2) : o.wp P a w K Q := by
  unfold Oper.wp
  rw [h]
  exact hk
theorem eval_put_ne {d t : Nat} (a : Act) (h : t ≠ d) (v : Value) : (a.put (some d) v).eval (.tmp t) = a.eval (.tmp t) := by
  rw [eval_get, eval_get]
  simp only [Act.put, Array.getElem?_setIfInBounds]
  rw [if_neg (fun e => h e.symm)]
theorem eval_put_eq (a : Act) (d : Nat) (h : d < a.tmps.size) (v : Value) : (a.put (some d) v).eval (.tmp d) = v := by
  rw [eval_get]
  simp [Act.put, h]
theorem info11 : (Tryd.prog.info? 68).map (·.size) = some 11 := by kernel_rfl
theorem results_c2 {fn : Func} {p u : Tmp} {ty : TypeId} (h : fn.results = #[.cell p ty, .tmp u]) {a : Act} {P : Program} {w : World} {b : Nat} {x y : Value} (hp : a.eval (.tmp p) = .pointer (some ⟨b, 0, none⟩)) (hl : (loadVar ty ⟨b, 0, none⟩).run P w = .ok x w) (hu : a.eval (.tmp u) = y) :
    (results fn a.tmps).run P w = .ok (.tuple #[x, y]) w := by
  rw [eval_get] at hp hu
  simp only [results, h]
  simp [Result.andThen, asAddr, hp, hu, hl]
theorem results_d2 {fn : Func} {p u : Tmp} {ty : TypeId} (h : fn.results = #[.cell p ty, .tmp u]) {tmps : Array Value} {P : Program} {w : World} {b : Nat} {x y : Value} (hp : tmps.getD p undef = .pointer (some ⟨b, 0, none⟩)) (hl : (loadVar ty ⟨b, 0, none⟩).run P w = .ok x w) (hu : tmps.getD u undef = y) :
    (results fn tmps).run P w = .ok (.tuple #[x, y]) w := results_c2 (a := ⟨tmps, []⟩) h hp hl hu
set_option maxRecDepth 100000 in
set_option maxHeartbeats 4000000 in
theorem new_yes (f c : Nat) (dv : Value) (zs : List Int) (w : World) (hd : IntsIn w dv zs) (f0 : 1 ≤ f) (f1 : f ≤ 24) (c0 : 1 ≤ c) (c1 : c ≤ 4) (z0 : 1 ≤ zs.length) (z1 : zs.length ≤ 8) (hz : zs.findIdx nd = zs.length) :
    Calls Tryd.prog 30 #[.int .i64 f, .int .i64 c, dv] w fun r w' => ∃ V, r = .returned (.tuple #[.agg (arr11 V), .nilIface]) ∧ WorldV w' V (newP f c zs) ∧ Below w.heap.size w w' := by
  have HD := hid hd
  obtain ⟨q, b, off, cap, rfl, -, -⟩ := hd
  have f2 : (f : Int) ≤ 24 := by omega
  have f3 : 1 ≤ (f : Int) := by omega
  have c2 : (c : Int) ≤ 4 := by omega
  have c3 : 1 ≤ (c : Int) := by omega
  have wf : IntKind.i64.wrap ((f : Int) * 16) = (f : Int) * 16 := wraps_i64 _ (by omega) (by omega)
  have wc : IntKind.i64.wrap ((c : Int) * 4) = (c : Int) * 4 := wraps_i64 _ (by omega) (by omega)
  have HZ := hid hz
  have HC := hid (show decide ((1 ≤ (f : Int) ∧ (f : Int) ≤ 24) ∧ (1 ≤ (c : Int) ∧ (c : Int) ≤ 4) ∧ (1 ≤ (zs.length : Int) ∧ (zs.length : Int) ≤ 8)) = true from decide_eq_true (by omega))
  have z2 : (zs.length : Int) ≤ 8 := by omega
  clear hz
  go_enter Tryd.func30, Tryd.ntmps30
  go_wp2_with fail
  refine (countsFit_any f c zs.length _).mono ?_
  rintro r wx ⟨rfl, rfl⟩
  rw [HC.out]
  have B0 := hid (bal (Below.refl w.heap.size w) (.cells #[.slice none 0 0, .slice none 0 0, .slice none 0 0, .slice none 0 0, .slice none 0 0, .slice none 0 0, .slice none 0 0, .slice none 0 0, .slice none 0 0, .slice none 0 0, .int .i64 0] 68))
  have C0 := hid (there_new w #[.slice none 0 0, .slice none 0 0, .slice none 0 0, .slice none 0 0, .slice none 0 0, .slice none 0 0, .slice none 0 0, .slice none 0 0, .slice none 0 0, .slice none 0 0, .int .i64 0] 68 w.heap.size 11 rfl (by decide))
  go_wp2_with fail
  generalize World.alloc _ _ = W0 at B0 C0 ⊢
  refine (look_doms _ zs W0 (HD.out.below B0.out) (by omega)).mono ?_
  rintro r w1 ⟨e, rfl, hL, hb⟩
  rcases hL with ⟨_, rfl⟩ | ⟨b, hlt, -⟩
  · have B1 := hid (btr B0.out hb)
    have C1 := hid (there_belowO C0.out hb)
    have s1 : w.heap.size < w1.heap.size := by
      obtain ⟨u, hu⟩ := Option.isSome_iff_exists.1 (C1.out 0 (by decide)).1
      exact World.block_lt_of_cell? _ _ hu
    have D1 := hid (HD.out.below (btr B1.out (below_drew w1 1)))
    clear hb B0 C0 HD HC HZ
    go_wp2_with fail
    refine wp_head (R := newRel (GL w1.heap.size) f c zs (.slice q zs.length cap)) (n1 := 29) (N := 52) (by kernel_rfl) (by kernel_rfl) (by simp) (Array.replicate 29 true ++ Array.replicate 2 false) rfl (show ∀ i, i < 31 → (Array.replicate 29 true ++ Array.replicate 2 false).getD i false = decide (i < 29) by decide) (newRel_mono w1.heap.size f c zs _) ?_ ?_
    · intro i o hi ho listed a' w' hh hdep
      have sz : w1.heap.size ≤ w'.heap.size := hh.bel.size
      match i, hi, ho with
      | 0, _, ho =>
        simp only [List.getElem?_toArray, List.getElem?_cons_zero, Option.some.injEq] at ho
        subst ho
        have e0 : a'.tmps[0]?.getD undef = .int .i64 f := (eval_get a' 0).symm.trans (hh.oldB 0 (by kernel_rfl))
        exact wp_val (v := .int .i64 f) (w2 := w') (by go_simp) ⟨_, rfl, rfl, Below.refl _ _⟩
      | 1, _, ho =>
        simp only [List.getElem?_toArray, List.getElem?_cons_zero, List.getElem?_cons_succ, Option.some.injEq] at ho
        subst ho
        have e23 : a'.tmps[23]?.getD undef = .int .i64 f := (eval_get a' 23) ▸ (hh.gotB 0 23 rfl (hdep ⟨0, .data⟩ (by simp) rfl) : newRel (GL w1.heap.size) f c zs (.slice q zs.length cap) 0 (a'.eval (.tmp 23)) w')
        exact wp_val (v := .int .i64 ((f : Int) * 16)) (w2 := w') (by go_simp) ⟨_, rfl, val_eq (by omega), Below.refl _ _⟩
      | 2, _, ho =>
        simp only [List.getElem?_toArray, List.getElem?_cons_zero, List.getElem?_cons_succ, Option.some.injEq] at ho
        subst ho
        have e24 : a'.tmps[24]?.getD undef = .int .i64 ((f * 16 : Nat) : Int) := (eval_get a' 24) ▸ (hh.gotB 1 24 rfl (hdep ⟨1, .data⟩ (by simp) rfl) : newRel (GL w1.heap.size) f c zs (.slice q zs.length cap) 1 (a'.eval (.tmp 24)) w')
        obtain ⟨W2, hm, hr, hb⟩ := make_ints (GL w1.heap.size) (f * 16) (by omega) w' (fun _ => sz)
        rw [show ((f * 16 : Nat) : Int) = (f : Int) * 16 by omega] at hm
        exact wp_val (w2 := W2) (by go_simp) ⟨_, rfl, hr, hb⟩
      | 3, _, ho =>
        simp only [List.getElem?_toArray, List.getElem?_cons_zero, List.getElem?_cons_succ, Option.some.injEq] at ho
        subst ho
        have e0 : a'.tmps[0]?.getD undef = .int .i64 f := (eval_get a' 0).symm.trans (hh.oldB 0 (by kernel_rfl))
        exact wp_val (v := .int .i64 f) (w2 := w') (by go_simp) ⟨_, rfl, rfl, Below.refl _ _⟩
      | 4, _, ho =>
        simp only [List.getElem?_toArray, List.getElem?_cons_zero, List.getElem?_cons_succ, Option.some.injEq] at ho
        subst ho
        have e26 : a'.tmps[26]?.getD undef = .int .i64 f := (eval_get a' 26) ▸ (hh.gotB 3 26 rfl (hdep ⟨3, .data⟩ (by simp) rfl) : newRel (GL w1.heap.size) f c zs (.slice q zs.length cap) 3 (a'.eval (.tmp 26)) w')
        obtain ⟨W2, hm, hr, hb⟩ := make_ints (GL w1.heap.size) (f) (by omega) w' (fun _ => sz)
        exact wp_val (w2 := W2) (by go_simp) ⟨_, rfl, hr, hb⟩
      | 5, _, ho =>
        simp only [List.getElem?_toArray, List.getElem?_cons_zero, List.getElem?_cons_succ, Option.some.injEq] at ho
        subst ho
        go_simp
        refine (empty_own w').mono ?_
        rintro e w2 ⟨rfl, hb⟩
        exact ⟨_, rfl, rfl, hb⟩
      | 6, _, ho =>
        simp only [List.getElem?_toArray, List.getElem?_cons_zero, List.getElem?_cons_succ, Option.some.injEq] at ho
        subst ho
        have e28 : a'.tmps[28]?.getD undef = .agg #[.int .i64 0, .int .i64 0, .int .i64 0, .int .i64 0, .int .i64 0, .int .i64 0, .int .i64 (-1)] := (eval_get a' 28) ▸ (hh.gotB 5 28 rfl (hdep ⟨5, .data⟩ (by simp) rfl) : newRel (GL w1.heap.size) f c zs (.slice q zs.length cap) 5 (a'.eval (.tmp 28)) w')
        exact wp_val (v := .slice (some ⟨w'.heap.size, 0, none⟩) 1 1) (w2 := w'.alloc (.cells #[.int .i64 0, .int .i64 0, .int .i64 0, .int .i64 0, .int .i64 0, .int .i64 0, .int .i64 (-1)] 115)) (by go_simp) ⟨_, rfl, ⟨w'.heap.size, rfl, range_newA w' (cf 7 sl) _ _ _ rfl rfl⟩, bal (Below.refl _ _) _⟩
      | 7, _, ho =>
        simp only [List.getElem?_toArray, List.getElem?_cons_zero, List.getElem?_cons_succ, Option.some.injEq] at ho
        subst ho
        have e0 : a'.tmps[0]?.getD undef = .int .i64 f := (eval_get a' 0).symm.trans (hh.oldB 0 (by kernel_rfl))
        exact wp_val (v := .int .i64 f) (w2 := w') (by go_simp) ⟨_, rfl, rfl, Below.refl _ _⟩
      | 8, _, ho =>
        simp only [List.getElem?_toArray, List.getElem?_cons_zero, List.getElem?_cons_succ, Option.some.injEq] at ho
        subst ho
        have e30 : a'.tmps[30]?.getD undef = .int .i64 f := (eval_get a' 30) ▸ (hh.gotB 7 30 rfl (hdep ⟨7, .data⟩ (by simp) rfl) : newRel (GL w1.heap.size) f c zs (.slice q zs.length cap) 7 (a'.eval (.tmp 30)) w')
        exact wp_val (v := .int .i64 ((f : Int) * 16)) (w2 := w') (by go_simp) ⟨_, rfl, val_eq (by omega), Below.refl _ _⟩
      | 9, _, ho =>
        simp only [List.getElem?_toArray, List.getElem?_cons_zero, List.getElem?_cons_succ, Option.some.injEq] at ho
        subst ho
        obtain ⟨b, e29, hr⟩ := (eval_get a' 29) ▸ (hh.gotB 6 29 rfl (hdep ⟨6, .data⟩ (by simp) rfl) : newRel (GL w1.heap.size) f c zs (.slice q zs.length cap) 6 (a'.eval (.tmp 29)) w')
        have e31 : a'.tmps[31]?.getD undef = .int .i64 ((f * 16 : Nat) : Int) := (eval_get a' 31) ▸ (hh.gotB 8 31 rfl (hdep ⟨8, .data⟩ (by simp) rfl) : newRel (GL w1.heap.size) f c zs (.slice q zs.length cap) 8 (a'.eval (.tmp 31)) w')
        go_simp
        refine (repeatSlot b 1 (cf 7 sl) (cf_len _ _) (cf_one _ _) (f * 16) w' hr (by omega) (by omega)).mono ?_
        rintro e w2 ⟨B, rfl, hB, hrow, hb⟩
        exact ⟨_, rfl, rows_repF (by decide) (Nat.le_trans sz hB) hrow, hb⟩
      | 10, _, ho =>
        simp only [List.getElem?_toArray, List.getElem?_cons_zero, List.getElem?_cons_succ, Option.some.injEq] at ho
        subst ho
        go_simp
        refine (blank_own w').mono ?_
        rintro e w2 ⟨rfl, hb⟩
        exact ⟨_, rfl, rfl, hb⟩
      | 11, _, ho =>
        simp only [List.getElem?_toArray, List.getElem?_cons_zero, List.getElem?_cons_succ, Option.some.injEq] at ho
        subst ho
        have e33 : a'.tmps[33]?.getD undef = .agg #[.int .i64 0, .int .i64 0, .int .i64 0, .int .i64 0, .int .i64 0, .int .i64 0, .int .i64 0, .int .i64 0, .int .i64 0, .int .i64 0, .int .i64 0, .int .i64 (-1), .int .i64 (-1), .int .i64 (-1), .int .i64 (-1), .int .i64 0, .int .i64 0, .int .i64 (-1), .int .i64 0, .int .i64 0] := (eval_get a' 33) ▸ (hh.gotB 10 33 rfl (hdep ⟨10, .data⟩ (by simp) rfl) : newRel (GL w1.heap.size) f c zs (.slice q zs.length cap) 10 (a'.eval (.tmp 33)) w')
        exact wp_val (v := .slice (some ⟨w'.heap.size, 0, none⟩) 1 1) (w2 := w'.alloc (.cells #[.int .i64 0, .int .i64 0, .int .i64 0, .int .i64 0, .int .i64 0, .int .i64 0, .int .i64 0, .int .i64 0, .int .i64 0, .int .i64 0, .int .i64 0, .int .i64 (-1), .int .i64 (-1), .int .i64 (-1), .int .i64 (-1), .int .i64 0, .int .i64 0, .int .i64 (-1), .int .i64 0, .int .i64 0] 118)) (by go_simp) ⟨_, rfl, ⟨w'.heap.size, rfl, range_newA w' (cf 20 bl) _ _ _ rfl rfl⟩, bal (Below.refl _ _) _⟩
      | 12, _, ho =>
        simp only [List.getElem?_toArray, List.getElem?_cons_zero, List.getElem?_cons_succ, Option.some.injEq] at ho
        subst ho
        have e0 : a'.tmps[0]?.getD undef = .int .i64 f := (eval_get a' 0).symm.trans (hh.oldB 0 (by kernel_rfl))
        exact wp_val (v := .int .i64 f) (w2 := w') (by go_simp) ⟨_, rfl, rfl, Below.refl _ _⟩
      | 13, _, ho =>
        simp only [List.getElem?_toArray, List.getElem?_cons_zero, List.getElem?_cons_succ, Option.some.injEq] at ho
        subst ho
        obtain ⟨b, e34, hr⟩ := (eval_get a' 34) ▸ (hh.gotB 11 34 rfl (hdep ⟨11, .data⟩ (by simp) rfl) : newRel (GL w1.heap.size) f c zs (.slice q zs.length cap) 11 (a'.eval (.tmp 34)) w')
        have e35 : a'.tmps[35]?.getD undef = .int .i64 f := (eval_get a' 35) ▸ (hh.gotB 12 35 rfl (hdep ⟨12, .data⟩ (by simp) rfl) : newRel (GL w1.heap.size) f c zs (.slice q zs.length cap) 12 (a'.eval (.tmp 35)) w')
        go_simp
        refine (repeatTask b 1 (cf 20 bl) (cf_len _ _) (cf_one _ _) f w' hr (by omega) (by omega)).mono ?_
        rintro e w2 ⟨B, rfl, hB, hrow, hb⟩
        exact ⟨_, rfl, rows_repF (by decide) (Nat.le_trans sz hB) hrow, hb⟩
      | 14, _, ho =>
        simp only [List.getElem?_toArray, List.getElem?_cons_zero, List.getElem?_cons_succ, Option.some.injEq] at ho
        subst ho
        have e0 : a'.tmps[0]?.getD undef = .int .i64 f := (eval_get a' 0).symm.trans (hh.oldB 0 (by kernel_rfl))
        exact wp_val (v := .int .i64 f) (w2 := w') (by go_simp) ⟨_, rfl, rfl, Below.refl _ _⟩
      | 15, _, ho =>
        simp only [List.getElem?_toArray, List.getElem?_cons_zero, List.getElem?_cons_succ, Option.some.injEq] at ho
        subst ho
        have e37 : a'.tmps[37]?.getD undef = .int .i64 f := (eval_get a' 37) ▸ (hh.gotB 14 37 rfl (hdep ⟨14, .data⟩ (by simp) rfl) : newRel (GL w1.heap.size) f c zs (.slice q zs.length cap) 14 (a'.eval (.tmp 37)) w')
        obtain ⟨W2, hm, hr, hb⟩ := make_lists (GL w1.heap.size) (f) (by omega) w' (fun _ => sz)
        exact wp_val (w2 := W2) (by go_simp) ⟨_, rfl, hr, hb⟩
      | 16, _, ho =>
        simp only [List.getElem?_toArray, List.getElem?_cons_zero, List.getElem?_cons_succ, Option.some.injEq] at ho
        subst ho
        have e0 : a'.tmps[0]?.getD undef = .int .i64 f := (eval_get a' 0).symm.trans (hh.oldB 0 (by kernel_rfl))
        exact wp_val (v := .int .i64 f) (w2 := w') (by go_simp) ⟨_, rfl, rfl, Below.refl _ _⟩
      | 17, _, ho =>
        simp only [List.getElem?_toArray, List.getElem?_cons_zero, List.getElem?_cons_succ, Option.some.injEq] at ho
        subst ho
        have e39 : a'.tmps[39]?.getD undef = .int .i64 f := (eval_get a' 39) ▸ (hh.gotB 16 39 rfl (hdep ⟨16, .data⟩ (by simp) rfl) : newRel (GL w1.heap.size) f c zs (.slice q zs.length cap) 16 (a'.eval (.tmp 39)) w')
        obtain ⟨W2, hm, hr, hb⟩ := make_ints (GL w1.heap.size) (f) (by omega) w' (fun _ => sz)
        exact wp_val (w2 := W2) (by go_simp) ⟨_, rfl, hr, hb⟩
      | 18, _, ho =>
        simp only [List.getElem?_toArray, List.getElem?_cons_zero, List.getElem?_cons_succ, Option.some.injEq] at ho
        subst ho
        exact wp_val (v := .slice (some ⟨w'.heap.size, 0, none⟩) 1 1) (w2 := w'.alloc (.cells #[.int .i64 (-1)] 3)) (by go_simp) ⟨_, rfl, ⟨w'.heap.size, rfl, range_newA w' [.int .i64 (-1)] _ _ _ rfl rfl⟩, bal (Below.refl _ _) _⟩
      | 19, _, ho =>
        simp only [List.getElem?_toArray, List.getElem?_cons_zero, List.getElem?_cons_succ, Option.some.injEq] at ho
        subst ho
        have e1 : a'.tmps[1]?.getD undef = .int .i64 c := (eval_get a' 1).symm.trans (hh.oldB 1 (by kernel_rfl))
        exact wp_val (v := .int .i64 c) (w2 := w') (by go_simp) ⟨_, rfl, rfl, Below.refl _ _⟩
      | 20, _, ho =>
        simp only [List.getElem?_toArray, List.getElem?_cons_zero, List.getElem?_cons_succ, Option.some.injEq] at ho
        subst ho
        obtain ⟨b, e41, hr⟩ := (eval_get a' 41) ▸ (hh.gotB 18 41 rfl (hdep ⟨18, .data⟩ (by simp) rfl) : newRel (GL w1.heap.size) f c zs (.slice q zs.length cap) 18 (a'.eval (.tmp 41)) w')
        have e42 : a'.tmps[42]?.getD undef = .int .i64 c := (eval_get a' 42) ▸ (hh.gotB 19 42 rfl (hdep ⟨19, .data⟩ (by simp) rfl) : newRel (GL w1.heap.size) f c zs (.slice q zs.length cap) 19 (a'.eval (.tmp 42)) w')
        go_simp
        refine (repeatInt b 1 [.int .i64 (-1)] rfl (int1 (-1)) c w' hr (by omega) (by omega)).mono ?_
        rintro e w2 ⟨B, rfl, hB, hrow, hb⟩
        exact ⟨_, rfl, ints_repF (Nat.le_trans sz hB) hrow, hb⟩
      | 21, _, ho =>
        simp only [List.getElem?_toArray, List.getElem?_cons_zero, List.getElem?_cons_succ, Option.some.injEq] at ho
        subst ho
        have e1 : a'.tmps[1]?.getD undef = .int .i64 c := (eval_get a' 1).symm.trans (hh.oldB 1 (by kernel_rfl))
        exact wp_val (v := .int .i64 c) (w2 := w') (by go_simp) ⟨_, rfl, rfl, Below.refl _ _⟩
      | 22, _, ho =>
        simp only [List.getElem?_toArray, List.getElem?_cons_zero, List.getElem?_cons_succ, Option.some.injEq] at ho
        subst ho
        have e44 : a'.tmps[44]?.getD undef = .int .i64 c := (eval_get a' 44) ▸ (hh.gotB 21 44 rfl (hdep ⟨21, .data⟩ (by simp) rfl) : newRel (GL w1.heap.size) f c zs (.slice q zs.length cap) 21 (a'.eval (.tmp 44)) w')
        exact wp_val (v := .int .i64 ((c : Int) * 4)) (w2 := w') (by go_simp) ⟨_, rfl, val_eq (by omega), Below.refl _ _⟩
      | 23, _, ho =>
        simp only [List.getElem?_toArray, List.getElem?_cons_zero, List.getElem?_cons_succ, Option.some.injEq] at ho
        subst ho
        have e45 : a'.tmps[45]?.getD undef = .int .i64 ((c * 4 : Nat) : Int) := (eval_get a' 45) ▸ (hh.gotB 22 45 rfl (hdep ⟨22, .data⟩ (by simp) rfl) : newRel (GL w1.heap.size) f c zs (.slice q zs.length cap) 22 (a'.eval (.tmp 45)) w')
        obtain ⟨W2, hm, hr, hb⟩ := make_lists (GL w1.heap.size) (c * 4) (by omega) w' (fun _ => sz)
        rw [show ((c * 4 : Nat) : Int) = (c : Int) * 4 by omega] at hm
        exact wp_val (w2 := W2) (by go_simp) ⟨_, rfl, hr, hb⟩
      | 24, _, ho =>
        simp only [List.getElem?_toArray, List.getElem?_cons_zero, List.getElem?_cons_succ, Option.some.injEq] at ho
        subst ho
        have e1 : a'.tmps[1]?.getD undef = .int .i64 c := (eval_get a' 1).symm.trans (hh.oldB 1 (by kernel_rfl))
        exact wp_val (v := .int .i64 c) (w2 := w') (by go_simp) ⟨_, rfl, rfl, Below.refl _ _⟩
      | 25, _, ho =>
        simp only [List.getElem?_toArray, List.getElem?_cons_zero, List.getElem?_cons_succ, Option.some.injEq] at ho
        subst ho
        have e47 : a'.tmps[47]?.getD undef = .int .i64 c := (eval_get a' 47) ▸ (hh.gotB 24 47 rfl (hdep ⟨24, .data⟩ (by simp) rfl) : newRel (GL w1.heap.size) f c zs (.slice q zs.length cap) 24 (a'.eval (.tmp 47)) w')
        obtain ⟨W2, hm, hr, hb⟩ := make_tlbs (GL w1.heap.size) (c) (by omega) w' (fun _ => sz)
        exact wp_val (w2 := W2) (by go_simp) ⟨_, rfl, hr, hb⟩
      | 26, _, ho =>
        simp only [List.getElem?_toArray, List.getElem?_cons_zero, List.getElem?_cons_succ, Option.some.injEq] at ho
        subst ho
        have e2 : a'.tmps[2]?.getD undef = .slice q zs.length cap := (eval_get a' 2).symm.trans (hh.oldB 2 (by kernel_rfl))
        exact wp_val (v := .slice q zs.length cap) (w2 := w') (by go_simp) ⟨_, rfl, rfl, Below.refl _ _⟩
      | 27, _, ho =>
        simp only [List.getElem?_toArray, List.getElem?_cons_zero, List.getElem?_cons_succ, Option.some.injEq] at ho
        subst ho
        have e49 : a'.tmps[49]?.getD undef = .slice q zs.length cap := (eval_get a' 49) ▸ (hh.gotB 26 49 rfl (hdep ⟨26, .data⟩ (by simp) rfl) : newRel (GL w1.heap.size) f c zs (.slice q zs.length cap) 26 (a'.eval (.tmp 49)) w')
        go_simp
        refine (clone_ints _ zs w' (D1.out.below hh.bel) (by omega)).mono ?_
        rintro e w2 ⟨u, rfl, hO, hb⟩
        exact ⟨_, rfl, own_intsF hO (fun g _ hg _ => Nat.le_trans sz hg), hb⟩
      | 28, _, ho =>
        simp only [List.getElem?_toArray, List.getElem?_cons_zero, List.getElem?_cons_succ, Option.some.injEq] at ho
        subst ho
        have h0 := (eval_get a' 25) ▸ (hh.gotB 2 25 rfl (hdep ⟨2, .data⟩ (by simp) rfl) : newRel (GL w1.heap.size) f c zs (.slice q zs.length cap) 2 (a'.eval (.tmp 25)) w')
        obtain ⟨q0, k0, e25⟩ := h0.slice
        rw [e25] at h0
        have h1 := (eval_get a' 27) ▸ (hh.gotB 4 27 rfl (hdep ⟨4, .data⟩ (by simp) rfl) : newRel (GL w1.heap.size) f c zs (.slice q zs.length cap) 4 (a'.eval (.tmp 27)) w')
        obtain ⟨q1, k1, e27⟩ := h1.slice
        rw [e27] at h1
        have h2 := (eval_get a' 32) ▸ (hh.gotB 9 32 rfl (hdep ⟨9, .data⟩ (by simp) rfl) : newRel (GL w1.heap.size) f c zs (.slice q zs.length cap) 9 (a'.eval (.tmp 32)) w')
        obtain ⟨q2, k2, e32⟩ := h2.slice
        rw [e32] at h2
        have h3 := (eval_get a' 36) ▸ (hh.gotB 13 36 rfl (hdep ⟨13, .data⟩ (by simp) rfl) : newRel (GL w1.heap.size) f c zs (.slice q zs.length cap) 13 (a'.eval (.tmp 36)) w')
        obtain ⟨q3, k3, e36⟩ := h3.slice
        rw [e36] at h3
        have h4 := (eval_get a' 38) ▸ (hh.gotB 15 38 rfl (hdep ⟨15, .data⟩ (by simp) rfl) : newRel (GL w1.heap.size) f c zs (.slice q zs.length cap) 15 (a'.eval (.tmp 38)) w')
        obtain ⟨q4, k4, e38⟩ := h4.slice
        rw [e38] at h4
        have h5 := (eval_get a' 40) ▸ (hh.gotB 17 40 rfl (hdep ⟨17, .data⟩ (by simp) rfl) : newRel (GL w1.heap.size) f c zs (.slice q zs.length cap) 17 (a'.eval (.tmp 40)) w')
        obtain ⟨q5, k5, e40⟩ := h5.slice
        rw [e40] at h5
        have h6 := (eval_get a' 43) ▸ (hh.gotB 20 43 rfl (hdep ⟨20, .data⟩ (by simp) rfl) : newRel (GL w1.heap.size) f c zs (.slice q zs.length cap) 20 (a'.eval (.tmp 43)) w')
        obtain ⟨q6, k6, e43⟩ := h6.slice
        rw [e43] at h6
        have h7 := (eval_get a' 46) ▸ (hh.gotB 23 46 rfl (hdep ⟨23, .data⟩ (by simp) rfl) : newRel (GL w1.heap.size) f c zs (.slice q zs.length cap) 23 (a'.eval (.tmp 46)) w')
        obtain ⟨q7, k7, e46⟩ := h7.slice
        rw [e46] at h7
        have h8 := (eval_get a' 48) ▸ (hh.gotB 25 48 rfl (hdep ⟨25, .data⟩ (by simp) rfl) : newRel (GL w1.heap.size) f c zs (.slice q zs.length cap) 25 (a'.eval (.tmp 48)) w')
        obtain ⟨q8, k8, e48⟩ := h8.slice
        rw [e48] at h8
        have h9 := (eval_get a' 50) ▸ (hh.gotB 27 50 rfl (hdep ⟨27, .data⟩ (by simp) rfl) : newRel (GL w1.heap.size) f c zs (.slice q zs.length cap) 27 (a'.eval (.tmp 50)) w')
        obtain ⟨q9, k9, e50⟩ := h9.slice
        rw [e50] at h9
        refine wp_val (w2 := w') (v := .agg (arr11 (v11 (.slice q0 _ k0) (.slice q1 _ k1) (.slice q2 _ k2) (.slice q3 _ k3) (.slice q4 _ k4) (.slice q5 _ k5) (.slice q6 _ k6) (.slice q7 _ k7) (.slice q8 _ k8) (.slice q9 _ k9) (.int .i64 0)))) (by go_simp; simp [v11]) ⟨_, rfl, ⟨(v11 (.slice q0 _ k0) (.slice q1 _ k1) (.slice q2 _ k2) (.slice q3 _ k3) (.slice q4 _ k4) (.slice q5 _ k5) (.slice q6 _ k6) (.slice q7 _ k7) (.slice q8 _ k8) (.slice q9 _ k9) (.int .i64 0)), rfl, ⟨h0, h1, h2, h3, h4, h5, h6, h7, h8, h9, rfl⟩, ?_⟩, Below.refl _ _⟩
        intro k
        exact one11 _ _ _ _ _ _ _ _ _ _ _ k (fun x hx => by simp at hx; rcases hx with rfl | rfl | rfl | rfl | rfl | rfl | rfl | rfl | rfl | rfl | rfl <;> rfl)
      | _ + 29, hi, _ => omega
    · intro a' w' hh
      have e6 : a'.tmps[6]?.getD undef = .pointer (some ⟨w.heap.size, 0, none⟩) := (eval_get a' 6).symm.trans (hh.oldB 6 (by kernel_rfl))
      obtain ⟨V, e51, hV, h1⟩ := (eval_get a' 51) ▸ (hh.gotB 28 51 rfl rfl : newRel (GL w1.heap.size) f c zs (.slice q zs.length cap) 28 (a'.eval (.tmp 51)) w')
      have TH := hid (there_belowO (there_belowO C1.out (below_drew w1 1)) hh.bel)
      rename_i Qx hleft Kx hKx
      have hy : a'.eval (.tmp 51) = .agg (arr11 V) := (eval_get a' 51).trans e51
      have hx : a'.eval (.tmp 6) = .pointer (some ⟨w.heap.size, 0, none⟩) := (eval_get a' 6).trans e6
      have one : ∀ x ∈ arr11 V, x.oneCell' = true := fun x hx => by
        simp only [List.mem_toArray, List.mem_cons, List.not_mem_nil, or_false] at hx
        rcases hx with rfl | rfl | rfl | rfl | rfl | rfl | rfl | rfl | rfl | rfl | rfl <;> exact h1 _
      have RG := hid (World.rangeAt_setCells_same w' w.heap.size 0 (arr11 V).toList TH.out)
      have WV := hid (hV.keep (keeps_set (o := 0) (vs := (arr11 V).toList) s1)).in_
      have BB := hid (below_setCells (btr (btr B1.out (below_drew w1 1)) hh.bel) (Nat.le_refl _) (arr11 V).toList 0)
      have FIN : ∀ a2 : Act, a2.eval (.tmp 6) = .pointer (some ⟨w.heap.size, 0, none⟩) → a2.eval (.tmp 7) = .nilIface → a2.defers = [] → Exit.then Kx Qx .normal a2 (w'.setCells w.heap.size 0 (arr11 V).toList) := by
        intro a2 h6 h7 h8
        go_wp2_with fail
        refine bodyPost_ret (v := .tuple #[.agg (arr11 V), .nilIface]) (results_c2 rfl h6 (run_loadVar_mid _ w.heap.size 0 68 (arr11 V).toList _ RG.out Tryd.underlying68 rfl info11) h7) h8 ⟨V, rfl, WV.out, BB.out⟩
      change wpAny _ _ _ _ (0 + 1 + 1) _ _ _
      refine wpAny_all (rs := [29]) (by kernel_rfl) (by simp) ?_
      intro i hi
      obtain rfl := List.mem_singleton.1 hi
      unfold wpOp
      simp only [List.getElem?_toArray, List.getElem?_cons_zero, List.getElem?_cons_succ]
      rw [if_pos (by rfl)]
      refine Or.inl (wp_store_mid 68 _ _ rfl w.heap.size 0 (arr11 V) hx hy TH.out info11 (Array.all_eq_true'.2 one) ?_)
      refine wpAny_all (rs := [30]) (by kernel_rfl) (by simp) ?_
      intro i hi
      obtain rfl := List.mem_singleton.1 hi
      unfold wpOp
      simp only [List.getElem?_toArray, List.getElem?_cons_zero, List.getElem?_cons_succ]
      rw [if_pos (by rfl)]
      refine Or.inl (wp_val (v := .nilIface) (w2 := w'.setCells w.heap.size 0 (arr11 V).toList) (by go_simp) ?_)
      refine wpAny_done (by kernel_rfl) (FIN _ ?_ ?_ ?_) _
      · exact (eval_put_ne _ (by decide) _).trans hx
      · exact eval_put_eq _ _ (by show 7 < a'.tmps.size; rw [hh.ts]; simp) _
      · exact hh.df
  · rw [HZ.out] at hlt
    omega
end Go.Proofs.YtfpkbfhaipgibaaDoor.Wd
