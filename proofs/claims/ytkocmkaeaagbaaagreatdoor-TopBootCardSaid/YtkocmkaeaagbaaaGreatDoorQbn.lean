/- world.New, walked: a world of one's own. (Written by mk_wnb.py.) -/
import Derived.Test.YtkocmkaeaagbaaaGreatDoorQbl
import Derived.Test.YtkocmkaeaagbaaaGreatDoorQat
import Derived.Test.YtkocmkaeaagbaaaGreatDoorQbm
import Derived.Test.YtkocmkaeaagbaaaGreatDoorQba
namespace Go.Proofs.YtkocmkaeaagbaaaGreatDoor.Wn
open Go.RowKit Go.Proofs.YtkocmkaeaagbaaaGreatDoor.Mem Go.Proofs.YtkocmkaeaagbaaaGreatDoor.Bw Go.Proofs.YtkocmkaeaagbaaaGreatDoor.Nums Go.Proofs.YtkocmkaeaagbaaaGreatDoor.Mmu Go.Proofs.YtkocmkaeaagbaaaGreatDoor.Wd
theorem made_lit (z : Value) (n : Nat) (hz : z.cells = #[z]) : madeCells z.cells (n * 1) = Array.replicate n z := by
 apply Array.ext_getElem?
 intro k
 by_cases h : k < n
 ·rw [made_one _ _ _ hz h]
  simp [h]
 ·rw [Array.getElem?_eq_none (by unfold madeCells; simp; omega)]
  simp [h]
/-- A list that was made. -/
def mkO (w : World) (L E s n : Nat) (c : List Value) (v : Value) : Prop := (∃ g, v = .slice (some ⟨g, 0, none⟩) n n) ∧ w.ownsRow L E s v n c
theorem mkO.below {w w' : World} {L E s n : Nat} {c : List Value} {v : Value} (h : mkO w L E s n c v) (hb : Below w.heap.size w w') : mkO w' L E s n c v := ⟨h.1, own_below h.2 hb⟩
theorem mk_new (w : World) (L E n : Nat) (z : Value) (hL : L ≤ w.heap.size) (hn : n ≤ 1000) : mkO (w.alloc (.cells (Array.replicate n z) E)) L E 1 n (List.replicate n z) (.slice (some ⟨w.heap.size, 0, none⟩) n n) :=
 ⟨⟨_, rfl⟩, by
  have := World.ownsRow_lit (base := L) (e := E) (size := 1) w (Array.replicate n z) n hL (by unfold maxLen; omega) (by simp)
  simpa using this⟩
theorem val_eq {a b : Int} (h : a = b) : Value.int .i64 a = .int .i64 b := by rw [h]
theorem own_mono {w : World} {A B e s n : Nat} {v : Value} {xs : List Value} (h : w.ownsRow B e s v n xs) (hA : A ≤ B) : w.ownsRow A e s v n xs := by
 refine ⟨h.1, ?_⟩
 rcases h.2 with h2 | ⟨g, cap, cur, rfl, h3, h4, h5⟩
 ·exact .inl h2
 ·exact .inr ⟨g, cap, cur, rfl, Nat.le_trans hA h3, h4, h5⟩
/-- The lists of a new world. -/
structure NwX (w : World) (L : Nat) (p : PW) (X : Nat → Value) : Prop where
 own : ∀ i, i < 10 → w.ownsRow L (wE i) (wS i) (X i) (wN p i) (wC p i)
 dj : ∀ i j, i < 10 → j < 10 → i ≠ j → ∀ k, (X i).ownBlock = some k → (X j).ownBlock ≠ some k
 f4 : ∃ g, X 4 = .slice (some ⟨g, 0, none⟩) p.lines.length p.lines.length
 f7 : ∃ g, X 7 = .slice (some ⟨g, 0, none⟩) p.ready.length p.ready.length
 f8 : ∃ g, X 8 = .slice (some ⟨g, 0, none⟩) p.tlbs.length p.tlbs.length
 t : X 10 = .int .i64 p.time
theorem NwX.below {w w' : World} {L : Nat} {p : PW} {X : Nat → Value} (h : NwX w L p X) (hb : Below w.heap.size w w') : NwX w' L p X := ⟨fun i hi => own_below (h.own i hi) hb, h.dj, h.f4, h.f7, h.f8, h.t⟩
theorem NwX.kp {w w' : World} {L : Nat} {p : PW} {X : Nat → Value} {T : Nat → Prop} (h : NwX w L p X) (hk : Kp T w w') (hT : ∀ k, T k → k < L) : NwX w' L p X :=
 ⟨fun i hi => own_kp (h.own i hi) hk fun k e ht => by have := ((h.own i hi).lt k e).1; have := hT k ht; omega, h.dj, h.f4, h.f7, h.f8, h.t⟩
theorem NwX.low {w : World} {L M : Nat} {p : PW} {X : Nat → Value} (h : NwX w M p X) (hl : L ≤ M) : NwX w L p X := ⟨fun i hi => own_mono (h.own i hi) hl, h.dj, h.f4, h.f7, h.f8, h.t⟩
theorem rep_rows (n k : Nat) (f : Nat → Int) : rep k (cf n f) = rowsC n (List.replicate k f) := by unfold rep rowsC; rw [List.flatMap_def, List.map_replicate]
theorem rep_ints (k : Nat) (z : Int) : rep k [.int .i64 z] = ints (List.replicate k z) := by
 unfold rep ints
 rw [List.map_replicate]
 induction k with
 | zero => rfl
 | succ k ih => rw [List.replicate_succ, List.replicate_succ, List.flatten_cons, ih]; rfl
theorem ints_repl (n : Nat) (z : Int) : ints (List.replicate n z) = List.replicate n (.int .i64 z) := by unfold ints; rw [List.map_replicate]
def wnF (i : Nat) : Bool := [2, 4, 9, 13, 15, 17, 20, 23, 25, 27].contains i
def opnN : Nat → Nat
 | 0 => 2 | 1 => 4 | 2 => 9 | 3 => 13 | 4 => 15 | 5 => 17 | 6 => 20 | 7 => 23 | 8 => 25 | _ => 27
def sltN : Nat → Nat
 | 0 => 25 | 1 => 27 | 2 => 32 | 3 => 36 | 4 => 38 | 5 => 40 | 6 => 43 | 7 => 46 | 8 => 48 | _ => 50
theorem apart {ops : Array Oper} {n1 : Nat} {R : Nat → Value → World → Prop} {w0 : World} {a0 : Act} {listed : Array Bool} {a : Act} {w : World} (hh : Hd2.Hd ops n1 wnF R w0 a0 listed a w) {X : Nat → Value}
  (hT : ∀ i, i < 10 → (ops[opnN i]?).bind (·.dst) = some (sltN i) ∧ listed.getD (opnN i) false = true ∧ X i = a.eval (.tmp (sltN i))) :
  ∀ i j, i < 10 → j < 10 → i ≠ j → ∀ k, (X i).ownBlock = some k → (X j).ownBlock ≠ some k := by
 intro i j hi hj hij k hk hk2
 obtain ⟨a1, a2, a3⟩ := hT i hi
 obtain ⟨b1, b2, b3⟩ := hT j hj
 have inj : ∀ i, i < 10 → ∀ j, j < 10 → i ≠ j → opnN i ≠ opnN j := by decide
 have fs : ∀ i, i < 10 → wnF (opnN i) = true := by decide
 rw [a3] at hk
 rw [b3] at hk2
 cases ho : ops[opnN i]? with
 | none => rw [ho] at a1; cases a1
 | some o =>
  cases ho2 : ops[opnN j]? with
  | none => rw [ho2] at b1; cases b1
  | some o2 =>
   rw [ho] at a1
   rw [ho2] at b1
   exact hh.dj (opnN i) (opnN j) o o2 (sltN i) (sltN j) ho a1 ho2 b1 a2 b2 (fs i hi) (fs j hj) (inj i hi j hj hij) k hk hk2
/-- What each operation of the making leaves. -/
def wnR (L f c : Nat) (zs : List Int) (dv : Value) : Nat → Value → World → Prop
 | 0, v, _ => v = .int .i64 f
 | 1, v, _ => v = .int .i64 ((f * 16 : Nat) : Int)
 | 2, v, w => mkO w L 3 1 (f * 16) (List.replicate (f * 16) (.int .i64 0)) v
 | 3, v, _ => v = .int .i64 f
 | 4, v, w => mkO w L 3 1 (f) (List.replicate (f) (.int .i64 0)) v
 | 5, v, _ => v = .agg #[.int .i64 0, .int .i64 0, .int .i64 0, .int .i64 0, .int .i64 0, .int .i64 0, .int .i64 (-1)]
 | 6, v, w => ∃ b, v = .slice (some ⟨b, 0, none⟩) 1 1 ∧ w.rangeAt b 0 (cf 7 sl)
 | 7, v, _ => v = .int .i64 f
 | 8, v, _ => v = .int .i64 ((f * 16 : Nat) : Int)
 | 9, v, w => mkO w L 45 7 (f * 16) (rep (f * 16) (cf 7 sl)) v
 | 10, v, _ => v = .agg #[.int .i64 0, .int .i64 0, .int .i64 0, .int .i64 0, .int .i64 0, .int .i64 0, .int .i64 0, .int .i64 0, .int .i64 0, .int .i64 0, .int .i64 0, .int .i64 (-1), .int .i64 (-1), .int .i64 (-1), .int .i64 (-1), .int .i64 0, .int .i64 0, .int .i64 (-1), .int .i64 0, .int .i64 0]
 | 11, v, w => ∃ b, v = .slice (some ⟨b, 0, none⟩) 1 1 ∧ w.rangeAt b 0 (cf 20 bl)
 | 12, v, _ => v = .int .i64 f
 | 13, v, w => mkO w L 68 20 f (rep f (cf 20 bl)) v
 | 14, v, _ => v = .int .i64 f
 | 15, v, w => mkO w L 22 1 (f) (List.replicate (f) (.slice none 0 0)) v
 | 16, v, _ => v = .int .i64 f
 | 17, v, w => mkO w L 3 1 (f) (List.replicate (f) (.int .i64 0)) v
 | 18, v, w => ∃ b, v = .slice (some ⟨b, 0, none⟩) 1 1 ∧ w.rangeAt b 0 [.int .i64 (-1)]
 | 19, v, _ => v = .int .i64 c
 | 20, v, w => mkO w L 3 1 c (rep c [.int .i64 (-1)]) v
 | 21, v, _ => v = .int .i64 c
 | 22, v, _ => v = .int .i64 ((c * 4 : Nat) : Int)
 | 23, v, w => mkO w L 22 1 (c * 4) (List.replicate (c * 4) (.slice none 0 0)) v
 | 24, v, _ => v = .int .i64 c
 | 25, v, w => mkO w L 70 1 (c) (List.replicate (c) (.slice none 0 0)) v
 | 26, v, _ => v = dv
 | 27, v, w => w.ownsRow L 3 1 v zs.length (ints zs)
 | 28, v, w => ∃ X, v = .agg (arr11 X) ∧ NwX w L (newP f c zs) X
 | _, _, _ => True
theorem wnR_mono (L f c : Nat) (zs : List Int) (dv : Value) : ∀ i v w w', Below w.heap.size w w' → wnR L f c zs dv i v w → wnR L f c zs dv i v w' := by
 intro i v w w' hb h
 match i, h with
 | 0, h => exact h
 | 1, h => exact h
 | 2, h => exact mkO.below h hb
 | 3, h => exact h
 | 4, h => exact mkO.below h hb
 | 5, h => exact h
 | 6, h => exact by obtain ⟨b, h1, h2⟩ := h; exact ⟨b, h1, range_belowO h2 hb⟩
 | 7, h => exact h
 | 8, h => exact h
 | 9, h => exact mkO.below h hb
 | 10, h => exact h
 | 11, h => exact by obtain ⟨b, h1, h2⟩ := h; exact ⟨b, h1, range_belowO h2 hb⟩
 | 12, h => exact h
 | 13, h => exact mkO.below h hb
 | 14, h => exact h
 | 15, h => exact mkO.below h hb
 | 16, h => exact h
 | 17, h => exact mkO.below h hb
 | 18, h => exact by obtain ⟨b, h1, h2⟩ := h; exact ⟨b, h1, range_belowO h2 hb⟩
 | 19, h => exact h
 | 20, h => exact mkO.below h hb
 | 21, h => exact h
 | 22, h => exact h
 | 23, h => exact mkO.below h hb
 | 24, h => exact h
 | 25, h => exact mkO.below h hb
 | 26, h => exact h
 | 27, h => exact own_below h hb
 | 28, h => exact by obtain ⟨X, h1, h2⟩ := h; exact ⟨X, h1, h2.below hb⟩
 | _ + 29, _ => trivial
theorem wnR_lt (L f c : Nat) (zs : List Int) (dv : Value) : ∀ i v w, wnF i = true → wnR L f c zs dv i v w → ∀ k, v.ownBlock = some k → k < w.heap.size := by
 intro i v w hF h k hk
 match i, hF, h with
 | 0, hF, _ => cases hF
 | 1, hF, _ => cases hF
 | 2, _, h => exact (h.2.lt k hk).2
 | 3, hF, _ => cases hF
 | 4, _, h => exact (h.2.lt k hk).2
 | 5, hF, _ => cases hF
 | 6, hF, _ => cases hF
 | 7, hF, _ => cases hF
 | 8, hF, _ => cases hF
 | 9, _, h => exact (h.2.lt k hk).2
 | 10, hF, _ => cases hF
 | 11, hF, _ => cases hF
 | 12, hF, _ => cases hF
 | 13, _, h => exact (h.2.lt k hk).2
 | 14, hF, _ => cases hF
 | 15, _, h => exact (h.2.lt k hk).2
 | 16, hF, _ => cases hF
 | 17, _, h => exact (h.2.lt k hk).2
 | 18, hF, _ => cases hF
 | 19, hF, _ => cases hF
 | 20, _, h => exact (h.2.lt k hk).2
 | 21, hF, _ => cases hF
 | 22, hF, _ => cases hF
 | 23, _, h => exact (h.2.lt k hk).2
 | 24, hF, _ => cases hF
 | 25, _, h => exact (h.2.lt k hk).2
 | 26, hF, _ => cases hF
 | 27, _, h => exact (h.lt k hk).2
 | 28, hF, _ => cases hF
 | n + 29, hF, _ => simp [wnF] at hF
theorem nw_one {w : World} {L : Nat} {p : PW} {X : Nat → Value} (h : NwX w L p X) : ∀ x ∈ arr11 X, x.oneCell' = true := fun x hx => by
 have f : ∀ i, i < 10 → (X i).oneCell' = true := fun i hi => by obtain ⟨q, k, e⟩ := own_formN (h.own i hi); rw [e]; rfl
 simp only [List.mem_toArray, List.mem_cons, List.not_mem_nil, or_false] at hx
 rcases hx with rfl | rfl | rfl | rfl | rfl | rfl | rfl | rfl | rfl | rfl | rfl
 ·exact f 0 (by omega)
 ·exact f 1 (by omega)
 ·exact f 2 (by omega)
 ·exact f 3 (by omega)
 ·exact f 4 (by omega)
 ·exact f 5 (by omega)
 ·exact f 6 (by omega)
 ·exact f 7 (by omega)
 ·exact f 8 (by omega)
 ·exact f 9 (by omega)
 ·rw [h.t]; rfl
theorem eval_get (a : Act) (t : Nat) : a.eval (.tmp t) = a.tmps[t]?.getD undef := by simp [Act.eval, Array.getD_eq_getD_getElem?]
def v11 (x0 x1 x2 x3 x4 x5 x6 x7 x8 x9 x10 : Value) : Nat → Value
 | 0 => x0 | 1 => x1 | 2 => x2 | 3 => x3 | 4 => x4 | 5 => x5 | 6 => x6 | 7 => x7 | 8 => x8 | 9 => x9 | _ => x10
theorem wp_val {P : Program} {o : Oper} {a : Act} {w w2 : World} {v : Value} {K : Act → World → Prop} {Q : Exit → Act → World → Prop} (h : (execOp a.eval o).run P w = .ok (.value v) w2) (hk : K (a.put o.dst v) w2) : o.wp P a w K Q := by
 unfold Oper.wp
 rw [h]
 exact hk
theorem eval_put_ne {d t : Nat} (a : Act) (h : t ≠ d) (v : Value) : (a.put (some d) v).eval (.tmp t) = a.eval (.tmp t) := by
 rw [eval_get, eval_get]
 simp only [Act.put, Array.getElem?_setIfInBounds]
 rw [if_neg (fun e => h e.symm)]
theorem eval_put_eq (a : Act) (d : Nat) (h : d < a.tmps.size) (v : Value) : (a.put (some d) v).eval (.tmp d) = v := by
 rw [eval_get]
 simp [Act.put, h]
theorem info11 : (Tryz.prog.info? 28).map (·.size) = some 11 := by kernel_rfl
theorem results_c2 {fn : Func} {p u : Tmp} {ty : TypeId} (h : fn.results = #[.cell p ty, .tmp u]) {a : Act} {P : Program} {w : World} {b : Nat} {x y : Value} (hp : a.eval (.tmp p) = .pointer (some ⟨b, 0, none⟩)) (hl : (loadVar ty ⟨b, 0, none⟩).run P w = .ok x w) (hu : a.eval (.tmp u) = y) :
  (results fn a.tmps).run P w = .ok (.tuple #[x, y]) w := by
 rw [eval_get] at hp hu
 simp only [results, h]
 simp [Result.andThen, asAddr, hp, hu, hl]
theorem results_d2 {fn : Func} {p u : Tmp} {ty : TypeId} (h : fn.results = #[.cell p ty, .tmp u]) {tmps : Array Value} {P : Program} {w : World} {b : Nat} {x y : Value} (hp : tmps.getD p undef = .pointer (some ⟨b, 0, none⟩)) (hl : (loadVar ty ⟨b, 0, none⟩).run P w = .ok x w) (hu : tmps.getD u undef = y) :
  (results fn tmps).run P w = .ok (.tuple #[x, y]) w := results_c2 (a := ⟨tmps, []⟩) h hp hl hu
set_option maxRecDepth 100000 in
set_option maxHeartbeats 4000000 in
theorem new_own (f c : Nat) (dv : Value) (zs : List Int) (w : World) (hd : IntsIn w dv zs) (f0 : 1 ≤ f) (f1 : f ≤ 24) (c0 : 1 ≤ c) (c1 : c ≤ 4) (z0 : 1 ≤ zs.length) (z1 : zs.length ≤ 8) (hz : zs.findIdx nd = zs.length) :
  Calls Tryz.prog 114 #[.int .i64 f, .int .i64 c, dv] w fun r w' => ∃ V, r = .returned (.tuple #[.agg (arr11 V), .nilIface]) ∧ NwX w' w.heap.size (newP f c zs) V ∧ Below w.heap.size w w' := by
 have HD := hid hd
 obtain ⟨q, b, off, cap, rfl, -, -⟩ := hd
 have f2 : (f : Int) ≤ 24 := by omega
 have f3 : 1 ≤ (f : Int) := by omega
 have c2 : (c : Int) ≤ 4 := by omega
 have c3 : 1 ≤ (c : Int) := by omega
 have wf : IntKind.i64.wrap ((f : Int) * 16) = (f : Int) * 16 := wraps_i64 _ (by omega) (by omega)
 have wc : IntKind.i64.wrap ((c : Int) * 4) = (c : Int) * 4 := wraps_i64 _ (by omega) (by omega)
 have HZ := hid hz
 have HC := hid (show decide ((1 ≤ (f : Int) ∧ (f : Int) ≤ 24) ∧ (1 ≤ (c : Int) ∧ (c : Int) ≤ 4) ∧ (1 ≤ (zs.length : Int) ∧ (zs.length : Int) ≤ 8)) = true from decide_eq_true (by omega))
 have z2 : (zs.length : Int) ≤ 8 := by omega
 clear hz
 go_enter Tryz.func114, Tryz.ntmps114
 go_wp2_with fail
 refine (countsFit_any f c zs.length _).mono ?_
 rintro r wx ⟨rfl, rfl⟩
 rw [HC.out]
 have B0 := hid (bal (Below.refl w.heap.size w) (.cells #[.slice none 0 0, .slice none 0 0, .slice none 0 0, .slice none 0 0, .slice none 0 0, .slice none 0 0, .slice none 0 0, .slice none 0 0, .slice none 0 0, .slice none 0 0, .int .i64 0] 28))
 have C0 := hid (there_new w #[.slice none 0 0, .slice none 0 0, .slice none 0 0, .slice none 0 0, .slice none 0 0, .slice none 0 0, .slice none 0 0, .slice none 0 0, .slice none 0 0, .slice none 0 0, .int .i64 0] 28 w.heap.size 11 rfl (by decide))
 go_wp2_with fail
 generalize World.alloc _ _ = W0 at B0 C0 ⊢
 refine (look_doms _ zs W0 (HD.out.below B0.out) (by omega)).mono ?_
 rintro r w1 ⟨e, rfl, hL, hb⟩
 rcases hL with ⟨_, rfl⟩ | ⟨b, hlt, -⟩
 ·have B1 := hid (btr B0.out hb)
  have C1 := hid (there_belowO C0.out hb)
  have s1 : w.heap.size < w1.heap.size := by
   obtain ⟨u, hu⟩ := Option.isSome_iff_exists.1 (C1.out 0 (by decide)).1
   exact World.block_lt_of_cell? _ _ hu
  have D1 := hid (HD.out.below (btr B1.out (below_drew w1 1)))
  clear hb B0 C0 HD HC HZ
  go_wp2_with fail
  refine Hd2.wp_head (F := wnF) (R := wnR w1.heap.size f c zs (.slice q zs.length cap)) (n1 := 29) (N := 52) (by kernel_rfl) (by kernel_rfl) (by simp) (Array.replicate 29 true ++ Array.replicate 2 false) rfl (show ∀ i, i < 31 → (Array.replicate 29 true ++ Array.replicate 2 false).getD i false = decide (i < 29) by decide) (wnR_mono w1.heap.size f c zs _) (wnR_lt w1.heap.size f c zs _) ?_ ?_
  ·intro i o hi ho listed a' w' hh hdep
   have sz : w1.heap.size ≤ w'.heap.size := hh.bel.size
   match i, hi, ho with
   | 0, _, ho =>
    simp only [List.getElem?_toArray, List.getElem?_cons_zero, Option.some.injEq] at ho
    subst ho
    have e0 : a'.tmps[0]?.getD undef = .int .i64 f := (eval_get a' 0).symm.trans (hh.oldB 0 (by kernel_rfl))
    exact wp_val (v := .int .i64 f) (w2 := w') (by go_simp) ⟨_, rfl, rfl, Below.refl _ _, fun h => by cases h⟩
   | 1, _, ho =>
    simp only [List.getElem?_toArray, List.getElem?_cons_zero, List.getElem?_cons_succ, Option.some.injEq] at ho
    subst ho
    have e23 : a'.tmps[23]?.getD undef = .int .i64 f := (eval_get a' 23) ▸ (hh.gotB 0 23 rfl (hdep ⟨0, .data⟩ (by simp) rfl) : wnR w1.heap.size f c zs (.slice q zs.length cap) 0 (a'.eval (.tmp 23)) w')
    exact wp_val (v := .int .i64 ((f : Int) * 16)) (w2 := w') (by go_simp) ⟨_, rfl, val_eq (by omega), Below.refl _ _, fun h => by cases h⟩
   | 2, _, ho =>
    simp only [List.getElem?_toArray, List.getElem?_cons_zero, List.getElem?_cons_succ, Option.some.injEq] at ho
    subst ho
    have e24 : a'.tmps[24]?.getD undef = .int .i64 ((f * 16 : Nat) : Int) := (eval_get a' 24) ▸ (hh.gotB 1 24 rfl (hdep ⟨1, .data⟩ (by simp) rfl) : wnR w1.heap.size f c zs (.slice q zs.length cap) 1 (a'.eval (.tmp 24)) w')
    have hm := make_row (T := 22) Tryz.underlying22 infoI (by decide) (by decide) (f * 16) (by omega) w'
    rw [made_lit _ _ rfl] at hm
    rw [show ((f * 16 : Nat) : Int) = (f : Int) * 16 by omega] at hm
    rw [show ((f * 16 : Nat) : Int) = (f : Int) * 16 by omega] at e24
    exact wp_val (w2 := w'.alloc (.cells (Array.replicate (f * 16) (.int .i64 0)) 3)) (by go_simp) ⟨_, rfl, mk_new w' w1.heap.size 3 (f * 16) (.int .i64 0) sz (by omega), bal (Below.refl _ _) _, fun _ k hk => by cases hk; exact Nat.le_refl _⟩
   | 3, _, ho =>
    simp only [List.getElem?_toArray, List.getElem?_cons_zero, List.getElem?_cons_succ, Option.some.injEq] at ho
    subst ho
    have e0 : a'.tmps[0]?.getD undef = .int .i64 f := (eval_get a' 0).symm.trans (hh.oldB 0 (by kernel_rfl))
    exact wp_val (v := .int .i64 f) (w2 := w') (by go_simp) ⟨_, rfl, rfl, Below.refl _ _, fun h => by cases h⟩
   | 4, _, ho =>
    simp only [List.getElem?_toArray, List.getElem?_cons_zero, List.getElem?_cons_succ, Option.some.injEq] at ho
    subst ho
    have e26 : a'.tmps[26]?.getD undef = .int .i64 f := (eval_get a' 26) ▸ (hh.gotB 3 26 rfl (hdep ⟨3, .data⟩ (by simp) rfl) : wnR w1.heap.size f c zs (.slice q zs.length cap) 3 (a'.eval (.tmp 26)) w')
    have hm := make_row (T := 22) Tryz.underlying22 infoI (by decide) (by decide) (f) (by omega) w'
    rw [made_lit _ _ rfl] at hm
    exact wp_val (w2 := w'.alloc (.cells (Array.replicate (f) (.int .i64 0)) 3)) (by go_simp) ⟨_, rfl, mk_new w' w1.heap.size 3 (f) (.int .i64 0) sz (by omega), bal (Below.refl _ _) _, fun _ k hk => by cases hk; exact Nat.le_refl _⟩
   | 5, _, ho =>
    simp only [List.getElem?_toArray, List.getElem?_cons_zero, List.getElem?_cons_succ, Option.some.injEq] at ho
    subst ho
    go_simp
    refine (empty_own w').mono ?_
    rintro e w2 ⟨rfl, hb⟩
    exact ⟨_, rfl, rfl, hb, fun h => by cases h⟩
   | 6, _, ho =>
    simp only [List.getElem?_toArray, List.getElem?_cons_zero, List.getElem?_cons_succ, Option.some.injEq] at ho
    subst ho
    have e28 : a'.tmps[28]?.getD undef = .agg #[.int .i64 0, .int .i64 0, .int .i64 0, .int .i64 0, .int .i64 0, .int .i64 0, .int .i64 (-1)] := (eval_get a' 28) ▸ (hh.gotB 5 28 rfl (hdep ⟨5, .data⟩ (by simp) rfl) : wnR w1.heap.size f c zs (.slice q zs.length cap) 5 (a'.eval (.tmp 28)) w')
    exact wp_val (v := .slice (some ⟨w'.heap.size, 0, none⟩) 1 1) (w2 := w'.alloc (.cells #[.int .i64 0, .int .i64 0, .int .i64 0, .int .i64 0, .int .i64 0, .int .i64 0, .int .i64 (-1)] 45)) (by go_simp) ⟨_, rfl, ⟨w'.heap.size, rfl, range_newA w' (cf 7 sl) _ _ _ rfl rfl⟩, bal (Below.refl _ _) _, fun h => by cases h⟩
   | 7, _, ho =>
    simp only [List.getElem?_toArray, List.getElem?_cons_zero, List.getElem?_cons_succ, Option.some.injEq] at ho
    subst ho
    have e0 : a'.tmps[0]?.getD undef = .int .i64 f := (eval_get a' 0).symm.trans (hh.oldB 0 (by kernel_rfl))
    exact wp_val (v := .int .i64 f) (w2 := w') (by go_simp) ⟨_, rfl, rfl, Below.refl _ _, fun h => by cases h⟩
   | 8, _, ho =>
    simp only [List.getElem?_toArray, List.getElem?_cons_zero, List.getElem?_cons_succ, Option.some.injEq] at ho
    subst ho
    have e30 : a'.tmps[30]?.getD undef = .int .i64 f := (eval_get a' 30) ▸ (hh.gotB 7 30 rfl (hdep ⟨7, .data⟩ (by simp) rfl) : wnR w1.heap.size f c zs (.slice q zs.length cap) 7 (a'.eval (.tmp 30)) w')
    exact wp_val (v := .int .i64 ((f : Int) * 16)) (w2 := w') (by go_simp) ⟨_, rfl, val_eq (by omega), Below.refl _ _, fun h => by cases h⟩
   | 9, _, ho =>
    simp only [List.getElem?_toArray, List.getElem?_cons_zero, List.getElem?_cons_succ, Option.some.injEq] at ho
    subst ho
    obtain ⟨b, e29, hr⟩ := (eval_get a' 29) ▸ (hh.gotB 6 29 rfl (hdep ⟨6, .data⟩ (by simp) rfl) : wnR w1.heap.size f c zs (.slice q zs.length cap) 6 (a'.eval (.tmp 29)) w')
    have e31 : a'.tmps[31]?.getD undef = .int .i64 ((f * 16 : Nat) : Int) := (eval_get a' 31) ▸ (hh.gotB 8 31 rfl (hdep ⟨8, .data⟩ (by simp) rfl) : wnR w1.heap.size f c zs (.slice q zs.length cap) 8 (a'.eval (.tmp 31)) w')
    go_simp
    refine (repOSlot b 1 (cf 7 sl) (cf_len _ _) (cf_one _ _) (f * 16) w' hr (by omega) (by omega)).mono ?_
    rintro e w2 ⟨B, rfl, hB, hrow, hb⟩
    exact ⟨_, rfl, ⟨⟨B, rfl⟩, own_mono hrow sz⟩, hb, fun _ k hk => by cases hk; exact hB⟩
   | 10, _, ho =>
    simp only [List.getElem?_toArray, List.getElem?_cons_zero, List.getElem?_cons_succ, Option.some.injEq] at ho
    subst ho
    go_simp
    refine (blank_own w').mono ?_
    rintro e w2 ⟨rfl, hb⟩
    exact ⟨_, rfl, rfl, hb, fun h => by cases h⟩
   | 11, _, ho =>
    simp only [List.getElem?_toArray, List.getElem?_cons_zero, List.getElem?_cons_succ, Option.some.injEq] at ho
    subst ho
    have e33 : a'.tmps[33]?.getD undef = .agg #[.int .i64 0, .int .i64 0, .int .i64 0, .int .i64 0, .int .i64 0, .int .i64 0, .int .i64 0, .int .i64 0, .int .i64 0, .int .i64 0, .int .i64 0, .int .i64 (-1), .int .i64 (-1), .int .i64 (-1), .int .i64 (-1), .int .i64 0, .int .i64 0, .int .i64 (-1), .int .i64 0, .int .i64 0] := (eval_get a' 33) ▸ (hh.gotB 10 33 rfl (hdep ⟨10, .data⟩ (by simp) rfl) : wnR w1.heap.size f c zs (.slice q zs.length cap) 10 (a'.eval (.tmp 33)) w')
    exact wp_val (v := .slice (some ⟨w'.heap.size, 0, none⟩) 1 1) (w2 := w'.alloc (.cells #[.int .i64 0, .int .i64 0, .int .i64 0, .int .i64 0, .int .i64 0, .int .i64 0, .int .i64 0, .int .i64 0, .int .i64 0, .int .i64 0, .int .i64 0, .int .i64 (-1), .int .i64 (-1), .int .i64 (-1), .int .i64 (-1), .int .i64 0, .int .i64 0, .int .i64 (-1), .int .i64 0, .int .i64 0] 68)) (by go_simp) ⟨_, rfl, ⟨w'.heap.size, rfl, range_newA w' (cf 20 bl) _ _ _ rfl rfl⟩, bal (Below.refl _ _) _, fun h => by cases h⟩
   | 12, _, ho =>
    simp only [List.getElem?_toArray, List.getElem?_cons_zero, List.getElem?_cons_succ, Option.some.injEq] at ho
    subst ho
    have e0 : a'.tmps[0]?.getD undef = .int .i64 f := (eval_get a' 0).symm.trans (hh.oldB 0 (by kernel_rfl))
    exact wp_val (v := .int .i64 f) (w2 := w') (by go_simp) ⟨_, rfl, rfl, Below.refl _ _, fun h => by cases h⟩
   | 13, _, ho =>
    simp only [List.getElem?_toArray, List.getElem?_cons_zero, List.getElem?_cons_succ, Option.some.injEq] at ho
    subst ho
    obtain ⟨b, e34, hr⟩ := (eval_get a' 34) ▸ (hh.gotB 11 34 rfl (hdep ⟨11, .data⟩ (by simp) rfl) : wnR w1.heap.size f c zs (.slice q zs.length cap) 11 (a'.eval (.tmp 34)) w')
    have e35 : a'.tmps[35]?.getD undef = .int .i64 f := (eval_get a' 35) ▸ (hh.gotB 12 35 rfl (hdep ⟨12, .data⟩ (by simp) rfl) : wnR w1.heap.size f c zs (.slice q zs.length cap) 12 (a'.eval (.tmp 35)) w')
    go_simp
    refine (repOTask b 1 (cf 20 bl) (cf_len _ _) (cf_one _ _) f w' hr (by omega) (by omega)).mono ?_
    rintro e w2 ⟨B, rfl, hB, hrow, hb⟩
    exact ⟨_, rfl, ⟨⟨B, rfl⟩, own_mono hrow sz⟩, hb, fun _ k hk => by cases hk; exact hB⟩
   | 14, _, ho =>
    simp only [List.getElem?_toArray, List.getElem?_cons_zero, List.getElem?_cons_succ, Option.some.injEq] at ho
    subst ho
    have e0 : a'.tmps[0]?.getD undef = .int .i64 f := (eval_get a' 0).symm.trans (hh.oldB 0 (by kernel_rfl))
    exact wp_val (v := .int .i64 f) (w2 := w') (by go_simp) ⟨_, rfl, rfl, Below.refl _ _, fun h => by cases h⟩
   | 15, _, ho =>
    simp only [List.getElem?_toArray, List.getElem?_cons_zero, List.getElem?_cons_succ, Option.some.injEq] at ho
    subst ho
    have e37 : a'.tmps[37]?.getD undef = .int .i64 f := (eval_get a' 37) ▸ (hh.gotB 14 37 rfl (hdep ⟨14, .data⟩ (by simp) rfl) : wnR w1.heap.size f c zs (.slice q zs.length cap) 14 (a'.eval (.tmp 37)) w')
    have hm := make_row (T := 25) Tryz.underlying25 infoL (by decide) (by decide) (f) (by omega) w'
    rw [made_lit _ _ rfl] at hm
    exact wp_val (w2 := w'.alloc (.cells (Array.replicate (f) (.slice none 0 0)) 22)) (by go_simp) ⟨_, rfl, mk_new w' w1.heap.size 22 (f) (.slice none 0 0) sz (by omega), bal (Below.refl _ _) _, fun _ k hk => by cases hk; exact Nat.le_refl _⟩
   | 16, _, ho =>
    simp only [List.getElem?_toArray, List.getElem?_cons_zero, List.getElem?_cons_succ, Option.some.injEq] at ho
    subst ho
    have e0 : a'.tmps[0]?.getD undef = .int .i64 f := (eval_get a' 0).symm.trans (hh.oldB 0 (by kernel_rfl))
    exact wp_val (v := .int .i64 f) (w2 := w') (by go_simp) ⟨_, rfl, rfl, Below.refl _ _, fun h => by cases h⟩
   | 17, _, ho =>
    simp only [List.getElem?_toArray, List.getElem?_cons_zero, List.getElem?_cons_succ, Option.some.injEq] at ho
    subst ho
    have e39 : a'.tmps[39]?.getD undef = .int .i64 f := (eval_get a' 39) ▸ (hh.gotB 16 39 rfl (hdep ⟨16, .data⟩ (by simp) rfl) : wnR w1.heap.size f c zs (.slice q zs.length cap) 16 (a'.eval (.tmp 39)) w')
    have hm := make_row (T := 22) Tryz.underlying22 infoI (by decide) (by decide) (f) (by omega) w'
    rw [made_lit _ _ rfl] at hm
    exact wp_val (w2 := w'.alloc (.cells (Array.replicate (f) (.int .i64 0)) 3)) (by go_simp) ⟨_, rfl, mk_new w' w1.heap.size 3 (f) (.int .i64 0) sz (by omega), bal (Below.refl _ _) _, fun _ k hk => by cases hk; exact Nat.le_refl _⟩
   | 18, _, ho =>
    simp only [List.getElem?_toArray, List.getElem?_cons_zero, List.getElem?_cons_succ, Option.some.injEq] at ho
    subst ho
    exact wp_val (v := .slice (some ⟨w'.heap.size, 0, none⟩) 1 1) (w2 := w'.alloc (.cells #[.int .i64 (-1)] 3)) (by go_simp) ⟨_, rfl, ⟨w'.heap.size, rfl, range_newA w' [.int .i64 (-1)] _ _ _ rfl rfl⟩, bal (Below.refl _ _) _, fun h => by cases h⟩
   | 19, _, ho =>
    simp only [List.getElem?_toArray, List.getElem?_cons_zero, List.getElem?_cons_succ, Option.some.injEq] at ho
    subst ho
    have e1 : a'.tmps[1]?.getD undef = .int .i64 c := (eval_get a' 1).symm.trans (hh.oldB 1 (by kernel_rfl))
    exact wp_val (v := .int .i64 c) (w2 := w') (by go_simp) ⟨_, rfl, rfl, Below.refl _ _, fun h => by cases h⟩
   | 20, _, ho =>
    simp only [List.getElem?_toArray, List.getElem?_cons_zero, List.getElem?_cons_succ, Option.some.injEq] at ho
    subst ho
    obtain ⟨b, e41, hr⟩ := (eval_get a' 41) ▸ (hh.gotB 18 41 rfl (hdep ⟨18, .data⟩ (by simp) rfl) : wnR w1.heap.size f c zs (.slice q zs.length cap) 18 (a'.eval (.tmp 41)) w')
    have e42 : a'.tmps[42]?.getD undef = .int .i64 c := (eval_get a' 42) ▸ (hh.gotB 19 42 rfl (hdep ⟨19, .data⟩ (by simp) rfl) : wnR w1.heap.size f c zs (.slice q zs.length cap) 19 (a'.eval (.tmp 42)) w')
    go_simp
    refine (repOInt b 1 [.int .i64 (-1)] rfl (int1 (-1)) c w' hr (by omega) (by omega)).mono ?_
    rintro e w2 ⟨B, rfl, hB, hrow, hb⟩
    exact ⟨_, rfl, ⟨⟨B, rfl⟩, own_mono hrow sz⟩, hb, fun _ k hk => by cases hk; exact hB⟩
   | 21, _, ho =>
    simp only [List.getElem?_toArray, List.getElem?_cons_zero, List.getElem?_cons_succ, Option.some.injEq] at ho
    subst ho
    have e1 : a'.tmps[1]?.getD undef = .int .i64 c := (eval_get a' 1).symm.trans (hh.oldB 1 (by kernel_rfl))
    exact wp_val (v := .int .i64 c) (w2 := w') (by go_simp) ⟨_, rfl, rfl, Below.refl _ _, fun h => by cases h⟩
   | 22, _, ho =>
    simp only [List.getElem?_toArray, List.getElem?_cons_zero, List.getElem?_cons_succ, Option.some.injEq] at ho
    subst ho
    have e44 : a'.tmps[44]?.getD undef = .int .i64 c := (eval_get a' 44) ▸ (hh.gotB 21 44 rfl (hdep ⟨21, .data⟩ (by simp) rfl) : wnR w1.heap.size f c zs (.slice q zs.length cap) 21 (a'.eval (.tmp 44)) w')
    exact wp_val (v := .int .i64 ((c : Int) * 4)) (w2 := w') (by go_simp) ⟨_, rfl, val_eq (by omega), Below.refl _ _, fun h => by cases h⟩
   | 23, _, ho =>
    simp only [List.getElem?_toArray, List.getElem?_cons_zero, List.getElem?_cons_succ, Option.some.injEq] at ho
    subst ho
    have e45 : a'.tmps[45]?.getD undef = .int .i64 ((c * 4 : Nat) : Int) := (eval_get a' 45) ▸ (hh.gotB 22 45 rfl (hdep ⟨22, .data⟩ (by simp) rfl) : wnR w1.heap.size f c zs (.slice q zs.length cap) 22 (a'.eval (.tmp 45)) w')
    have hm := make_row (T := 25) Tryz.underlying25 infoL (by decide) (by decide) (c * 4) (by omega) w'
    rw [made_lit _ _ rfl] at hm
    rw [show ((c * 4 : Nat) : Int) = (c : Int) * 4 by omega] at hm
    rw [show ((c * 4 : Nat) : Int) = (c : Int) * 4 by omega] at e45
    exact wp_val (w2 := w'.alloc (.cells (Array.replicate (c * 4) (.slice none 0 0)) 22)) (by go_simp) ⟨_, rfl, mk_new w' w1.heap.size 22 (c * 4) (.slice none 0 0) sz (by omega), bal (Below.refl _ _) _, fun _ k hk => by cases hk; exact Nat.le_refl _⟩
   | 24, _, ho =>
    simp only [List.getElem?_toArray, List.getElem?_cons_zero, List.getElem?_cons_succ, Option.some.injEq] at ho
    subst ho
    have e1 : a'.tmps[1]?.getD undef = .int .i64 c := (eval_get a' 1).symm.trans (hh.oldB 1 (by kernel_rfl))
    exact wp_val (v := .int .i64 c) (w2 := w') (by go_simp) ⟨_, rfl, rfl, Below.refl _ _, fun h => by cases h⟩
   | 25, _, ho =>
    simp only [List.getElem?_toArray, List.getElem?_cons_zero, List.getElem?_cons_succ, Option.some.injEq] at ho
    subst ho
    have e47 : a'.tmps[47]?.getD undef = .int .i64 c := (eval_get a' 47) ▸ (hh.gotB 24 47 rfl (hdep ⟨24, .data⟩ (by simp) rfl) : wnR w1.heap.size f c zs (.slice q zs.length cap) 24 (a'.eval (.tmp 47)) w')
    have hm := make_row (T := 26) Tryz.underlying26 infoB (by decide) (by decide) (c) (by omega) w'
    rw [made_lit _ _ rfl] at hm
    exact wp_val (w2 := w'.alloc (.cells (Array.replicate (c) (.slice none 0 0)) 70)) (by go_simp) ⟨_, rfl, mk_new w' w1.heap.size 70 (c) (.slice none 0 0) sz (by omega), bal (Below.refl _ _) _, fun _ k hk => by cases hk; exact Nat.le_refl _⟩
   | 26, _, ho =>
    simp only [List.getElem?_toArray, List.getElem?_cons_zero, List.getElem?_cons_succ, Option.some.injEq] at ho
    subst ho
    have e2 : a'.tmps[2]?.getD undef = .slice q zs.length cap := (eval_get a' 2).symm.trans (hh.oldB 2 (by kernel_rfl))
    exact wp_val (v := .slice q zs.length cap) (w2 := w') (by go_simp) ⟨_, rfl, rfl, Below.refl _ _, fun h => by cases h⟩
   | 27, _, ho =>
    simp only [List.getElem?_toArray, List.getElem?_cons_zero, List.getElem?_cons_succ, Option.some.injEq] at ho
    subst ho
    have e49 : a'.tmps[49]?.getD undef = .slice q zs.length cap := (eval_get a' 49) ▸ (hh.gotB 26 49 rfl (hdep ⟨26, .data⟩ (by simp) rfl) : wnR w1.heap.size f c zs (.slice q zs.length cap) 26 (a'.eval (.tmp 49)) w')
    go_simp
    refine (clone_ints _ zs w' (D1.out.below hh.bel) (by omega)).mono ?_
    rintro e w2 ⟨u, rfl, hO, hb⟩
    exact ⟨_, rfl, own_mono hO sz, hb, fun _ k hk => (hO.lt k hk).1⟩
   | 28, _, ho =>
    simp only [List.getElem?_toArray, List.getElem?_cons_zero, List.getElem?_cons_succ, Option.some.injEq] at ho
    subst ho
    have h0 := (hh.gotB 2 25 rfl (hdep ⟨2, .data⟩ (by simp) rfl) : wnR w1.heap.size f c zs (.slice q zs.length cap) 2 (a'.eval (.tmp 25)) w')
    obtain ⟨⟨g0, e25⟩, o0⟩ := h0
    have t25 : a'.tmps[25]?.getD undef = _ := (eval_get a' 25).symm.trans e25
    have h1 := (hh.gotB 4 27 rfl (hdep ⟨4, .data⟩ (by simp) rfl) : wnR w1.heap.size f c zs (.slice q zs.length cap) 4 (a'.eval (.tmp 27)) w')
    obtain ⟨⟨g1, e27⟩, o1⟩ := h1
    have t27 : a'.tmps[27]?.getD undef = _ := (eval_get a' 27).symm.trans e27
    have h2 := (hh.gotB 9 32 rfl (hdep ⟨9, .data⟩ (by simp) rfl) : wnR w1.heap.size f c zs (.slice q zs.length cap) 9 (a'.eval (.tmp 32)) w')
    obtain ⟨⟨g2, e32⟩, o2⟩ := h2
    have t32 : a'.tmps[32]?.getD undef = _ := (eval_get a' 32).symm.trans e32
    have h3 := (hh.gotB 13 36 rfl (hdep ⟨13, .data⟩ (by simp) rfl) : wnR w1.heap.size f c zs (.slice q zs.length cap) 13 (a'.eval (.tmp 36)) w')
    obtain ⟨⟨g3, e36⟩, o3⟩ := h3
    have t36 : a'.tmps[36]?.getD undef = _ := (eval_get a' 36).symm.trans e36
    have h4 := (hh.gotB 15 38 rfl (hdep ⟨15, .data⟩ (by simp) rfl) : wnR w1.heap.size f c zs (.slice q zs.length cap) 15 (a'.eval (.tmp 38)) w')
    obtain ⟨⟨g4, e38⟩, o4⟩ := h4
    have t38 : a'.tmps[38]?.getD undef = _ := (eval_get a' 38).symm.trans e38
    have h5 := (hh.gotB 17 40 rfl (hdep ⟨17, .data⟩ (by simp) rfl) : wnR w1.heap.size f c zs (.slice q zs.length cap) 17 (a'.eval (.tmp 40)) w')
    obtain ⟨⟨g5, e40⟩, o5⟩ := h5
    have t40 : a'.tmps[40]?.getD undef = _ := (eval_get a' 40).symm.trans e40
    have h6 := (hh.gotB 20 43 rfl (hdep ⟨20, .data⟩ (by simp) rfl) : wnR w1.heap.size f c zs (.slice q zs.length cap) 20 (a'.eval (.tmp 43)) w')
    obtain ⟨⟨g6, e43⟩, o6⟩ := h6
    have t43 : a'.tmps[43]?.getD undef = _ := (eval_get a' 43).symm.trans e43
    have h7 := (hh.gotB 23 46 rfl (hdep ⟨23, .data⟩ (by simp) rfl) : wnR w1.heap.size f c zs (.slice q zs.length cap) 23 (a'.eval (.tmp 46)) w')
    obtain ⟨⟨g7, e46⟩, o7⟩ := h7
    have t46 : a'.tmps[46]?.getD undef = _ := (eval_get a' 46).symm.trans e46
    have h8 := (hh.gotB 25 48 rfl (hdep ⟨25, .data⟩ (by simp) rfl) : wnR w1.heap.size f c zs (.slice q zs.length cap) 25 (a'.eval (.tmp 48)) w')
    obtain ⟨⟨g8, e48⟩, o8⟩ := h8
    have t48 : a'.tmps[48]?.getD undef = _ := (eval_get a' 48).symm.trans e48
    have h9 := (hh.gotB 27 50 rfl (hdep ⟨27, .data⟩ (by simp) rfl) : wnR w1.heap.size f c zs (.slice q zs.length cap) 27 (a'.eval (.tmp 50)) w')
    have o9 : w'.ownsRow w1.heap.size 3 1 (a'.eval (.tmp 50)) zs.length (ints zs) := h9
    obtain ⟨q9, k9, e50⟩ := own_formN o9
    have t50 : a'.tmps[50]?.getD undef = _ := (eval_get a' 50).symm.trans e50
    have DJ := apart hh (X := (v11 (.slice (some ⟨g0, 0, none⟩) (f * 16) (f * 16)) (.slice (some ⟨g1, 0, none⟩) f f) (.slice (some ⟨g2, 0, none⟩) (f * 16) (f * 16)) (.slice (some ⟨g3, 0, none⟩) f f) (.slice (some ⟨g4, 0, none⟩) f f) (.slice (some ⟨g5, 0, none⟩) f f) (.slice (some ⟨g6, 0, none⟩) c c) (.slice (some ⟨g7, 0, none⟩) (c * 4) (c * 4)) (.slice (some ⟨g8, 0, none⟩) c c) (.slice q9 zs.length k9) (.int .i64 0))) (fun i hi => by
     match i, hi with
     | 0, _ => exact ⟨rfl, hdep ⟨2, .data⟩ (by simp) rfl, e25.symm⟩
     | 1, _ => exact ⟨rfl, hdep ⟨4, .data⟩ (by simp) rfl, e27.symm⟩
     | 2, _ => exact ⟨rfl, hdep ⟨9, .data⟩ (by simp) rfl, e32.symm⟩
     | 3, _ => exact ⟨rfl, hdep ⟨13, .data⟩ (by simp) rfl, e36.symm⟩
     | 4, _ => exact ⟨rfl, hdep ⟨15, .data⟩ (by simp) rfl, e38.symm⟩
     | 5, _ => exact ⟨rfl, hdep ⟨17, .data⟩ (by simp) rfl, e40.symm⟩
     | 6, _ => exact ⟨rfl, hdep ⟨20, .data⟩ (by simp) rfl, e43.symm⟩
     | 7, _ => exact ⟨rfl, hdep ⟨23, .data⟩ (by simp) rfl, e46.symm⟩
     | 8, _ => exact ⟨rfl, hdep ⟨25, .data⟩ (by simp) rfl, e48.symm⟩
     | 9, _ => exact ⟨rfl, hdep ⟨27, .data⟩ (by simp) rfl, e50.symm⟩
     | _ + 10, h => omega)
    rw [e25] at o0
    rw [e27] at o1
    rw [e32] at o2
    rw [e36] at o3
    rw [e38] at o4
    rw [e40] at o5
    rw [e43] at o6
    rw [e46] at o7
    rw [e48] at o8
    rw [e50] at o9
    rw [← ints_repl] at o0 o1 o5
    rw [rep_rows] at o2 o3
    rw [rep_ints] at o6
    refine wp_val (w2 := w') (v := .agg (arr11 (v11 (.slice (some ⟨g0, 0, none⟩) (f * 16) (f * 16)) (.slice (some ⟨g1, 0, none⟩) f f) (.slice (some ⟨g2, 0, none⟩) (f * 16) (f * 16)) (.slice (some ⟨g3, 0, none⟩) f f) (.slice (some ⟨g4, 0, none⟩) f f) (.slice (some ⟨g5, 0, none⟩) f f) (.slice (some ⟨g6, 0, none⟩) c c) (.slice (some ⟨g7, 0, none⟩) (c * 4) (c * 4)) (.slice (some ⟨g8, 0, none⟩) c c) (.slice q9 zs.length k9) (.int .i64 0)))) (by go_simp; simp [v11]) ⟨_, rfl, ⟨(v11 (.slice (some ⟨g0, 0, none⟩) (f * 16) (f * 16)) (.slice (some ⟨g1, 0, none⟩) f f) (.slice (some ⟨g2, 0, none⟩) (f * 16) (f * 16)) (.slice (some ⟨g3, 0, none⟩) f f) (.slice (some ⟨g4, 0, none⟩) f f) (.slice (some ⟨g5, 0, none⟩) f f) (.slice (some ⟨g6, 0, none⟩) c c) (.slice (some ⟨g7, 0, none⟩) (c * 4) (c * 4)) (.slice (some ⟨g8, 0, none⟩) c c) (.slice q9 zs.length k9) (.int .i64 0)), rfl, ⟨fun i hi => ?_, DJ, ⟨g4, by simp [newP, v11]⟩, ⟨g7, by simp [newP, v11]⟩, ⟨g8, by simp [newP, v11]⟩, rfl⟩⟩, Below.refl _ _, fun h => by cases h⟩
    match i, hi with
    | 0, _ => simpa [wE, wS, wN, wC, newP, v11] using o0
    | 1, _ => simpa [wE, wS, wN, wC, newP, v11] using o1
    | 2, _ => simpa [wE, wS, wN, wC, newP, v11] using o2
    | 3, _ => simpa [wE, wS, wN, wC, newP, v11] using o3
    | 4, _ => simpa [wE, wS, wN, wC, newP, v11] using o4
    | 5, _ => simpa [wE, wS, wN, wC, newP, v11] using o5
    | 6, _ => simpa [wE, wS, wN, wC, newP, v11] using o6
    | 7, _ => simpa [wE, wS, wN, wC, newP, v11] using o7
    | 8, _ => simpa [wE, wS, wN, wC, newP, v11] using o8
    | 9, _ => simpa [wE, wS, wN, wC, newP, v11] using o9
    | _ + 10, h => omega
   | _ + 29, hi, _ => omega
  ·intro a' w' hh
   have e6 : a'.tmps[6]?.getD undef = .pointer (some ⟨w.heap.size, 0, none⟩) := (eval_get a' 6).symm.trans (hh.oldB 6 (by kernel_rfl))
   obtain ⟨V, e51, hV⟩ := (eval_get a' 51) ▸ (hh.gotB 28 51 rfl rfl : wnR w1.heap.size f c zs (.slice q zs.length cap) 28 (a'.eval (.tmp 51)) w')
   have TH := hid (there_belowO (there_belowO C1.out (below_drew w1 1)) hh.bel)
   rename_i Qx hleft Kx hKx
   have hy : a'.eval (.tmp 51) = .agg (arr11 V) := (eval_get a' 51).trans e51
   have hx : a'.eval (.tmp 6) = .pointer (some ⟨w.heap.size, 0, none⟩) := (eval_get a' 6).trans e6
   have one := nw_one hV
   have RG := hid (World.rangeAt_setCells_same w' w.heap.size 0 (arr11 V).toList TH.out)
   have WV := hid ((hV.kp (T := fun k => k = w.heap.size) (Kp.setCells (T := fun k => k = w.heap.size) (.inl rfl) (arr11 V).toList 0 _ (Kp.refl _ _)) (fun k e => by omega)).low (Nat.le_of_lt s1))
   have BB := hid (below_setCells (btr (btr B1.out (below_drew w1 1)) hh.bel) (Nat.le_refl _) (arr11 V).toList 0)
   have FIN : ∀ a2 : Act, a2.eval (.tmp 6) = .pointer (some ⟨w.heap.size, 0, none⟩) → a2.eval (.tmp 7) = .nilIface → a2.defers = [] → Exit.then Kx Qx .normal a2 (w'.setCells w.heap.size 0 (arr11 V).toList) := by
    intro a2 h6 h7 h8
    go_wp2_with fail
    refine bodyPost_ret (v := .tuple #[.agg (arr11 V), .nilIface]) (results_c2 rfl h6 (run_loadVar_mid _ w.heap.size 0 28 (arr11 V).toList _ RG.out Tryz.underlying28 rfl info11) h7) h8 ⟨V, rfl, WV.out, BB.out⟩
   change wpAny _ _ _ _ (0 + 1 + 1) _ _ _
   refine wpAny_all (rs := [29]) (by kernel_rfl) (by simp) ?_
   intro i hi
   obtain rfl := List.mem_singleton.1 hi
   unfold wpOp
   simp only [List.getElem?_toArray, List.getElem?_cons_zero, List.getElem?_cons_succ]
   rw [if_pos (by rfl)]
   refine Or.inl (wp_store_mid 28 _ _ rfl w.heap.size 0 (arr11 V) hx hy TH.out info11 (Array.all_eq_true'.2 one) ?_)
   refine wpAny_all (rs := [30]) (by kernel_rfl) (by simp) ?_
   intro i hi
   obtain rfl := List.mem_singleton.1 hi
   unfold wpOp
   simp only [List.getElem?_toArray, List.getElem?_cons_zero, List.getElem?_cons_succ]
   rw [if_pos (by rfl)]
   refine Or.inl (wp_val (v := .nilIface) (w2 := w'.setCells w.heap.size 0 (arr11 V).toList) (by go_simp) ?_)
   refine wpAny_done (by kernel_rfl) (FIN _ ?_ ?_ ?_) _
   ·exact (eval_put_ne _ (by decide) _).trans hx
   ·exact eval_put_eq _ _ (by show 7 < a'.tmps.size; rw [hh.ts]; simp) _
   ·exact hh.df
 ·rw [HZ.out] at hlt
  omega
end Go.Proofs.YtkocmkaeaagbaaaGreatDoor.Wn
