/- keyholdtop.TopSteps: what a step over two words comes to; its world. -/
import Derived.Test.YtlkplpdnleaihagCpuBus
import Derived.Test.YtlkplpdnleaihagCpuAny
import Derived.Test.YtlkplpdnleaihagCpuEq
import Derived.Test.YtlkplpdnleaihagRefIns
import Derived.Test.YtlkplpdnleaihagMadeIns
namespace Go.Proofs.Ytlkplpdnleaihag.Cpu
open Go.RowKit Go.Proofs.Ytlkplpdnleaihag.Mem Go.Proofs.Ytlkplpdnleaihag.Bw Go.Proofs.Ytlkplpdnleaihag.Nums

/-- A task that is none. -/
def bl (k : Nat) : Int := [0, 0, 0, 0, 0, 0, 0, 0, 0, 0, 0, -1, -1, -1, -1, 0, 0, -1, 0, 0].getD k 0
theorem blank_any (w : World) : Calls Try.prog 7 #[] w fun e w' => e = .returned (.agg (tc bl).toArray) ∧ Below w.heap.size w w' := by
  have R0 := hid (there_new w #[.int .i64 0, .int .i64 0, .int .i64 0, .int .i64 0, .int .i64 0, .int .i64 0, .int .i64 0, .int .i64 0, .int .i64 0, .int .i64 0, .int .i64 0, .int .i64 0, .int .i64 0, .int .i64 0, .int .i64 0, .int .i64 0, .int .i64 0, .int .i64 0, .int .i64 0, .int .i64 0] 35 w.heap.size 20 rfl (by decide))
  go_enter Try.func7, Try.ntmps7
  go_wp2_with (first
    | ((with_reducible (show wpList _ _ _ (⟨_, Op.store 35 _ _, _, _, _, _⟩ :: _) _ _)); refine wp_st rfl _ _ rfl _ rfl (tc bl) rfl (tc_len _) (tc_one _) R0.out ?_; have E := hid (World.rangeAt_setCells_same _ w.heap.size 0 (tc bl) (by rw [tc_len]; exact R0.out)); have K9 := hid (Kp.setCells (T := fun _ => False) (b := w.heap.size) (.inr (Nat.le_refl _)) (tc bl) 0 _ ((Kp.refl _ w).alloc (.cells #[.int .i64 0, .int .i64 0, .int .i64 0, .int .i64 0, .int .i64 0, .int .i64 0, .int .i64 0, .int .i64 0, .int .i64 0, .int .i64 0, .int .i64 0, .int .i64 0, .int .i64 0, .int .i64 0, .int .i64 0, .int .i64 0, .int .i64 0, .int .i64 0, .int .i64 0, .int .i64 0] 35))); generalize World.setCells _ _ _ _ = W9 at E K9 ⊢))
  refine bodyPost_ret (v := .agg (tc bl).toArray) (results_c1 rfl rfl (run_ld _ _ (tc bl) E.out (tc_len _))) rfl ⟨rfl, K9.out.all⟩
theorem upd_back {g : Nat → Int} {A : Nat} {g' : Nat → Int} (h : ∀ k, k ≠ A → k ≠ 8 → g' k = g k) : upd (upd g' A (g A)) 8 (g 8) = g := by
  funext j
  unfold upd
  split
  · rename_i e; rw [e]
  · split
    · rename_i e; rw [e]
    · rename_i h1 h2; exact h j h2 h1
/-- What comes of an instruction that goes on. -/
structure Went (o : Int) (A : Nat) (g : Nat → Int) (R : (Nat → Int) × Int × Int × Unit) : Prop where
  sys : o = 14 → R.2.1 = 1
  went : o ≠ 14 → R.2.1 = 0
  pc : o ≠ 13 → R.1 8 = (g 8 + 2) % 65536
  back : upd (upd R.1 A (g A)) 8 (g 8) = g
theorem upd_ne {g : Nat → Int} {k j : Nat} {v : Int} (h : j ≠ k) : upd g k v j = g j := by
  unfold upd
  rw [if_neg h]
theorem upd_self {g : Nat → Int} {k : Nat} {v : Int} : upd g k v k = v := by
  unfold upd
  rw [if_pos rfl]
theorem went_of {bus : Value} (X : BusOf bus Unit) (g : Nat → Int) (o i : Int) (A B : Nat) (hA : A < 8) (h0 : o ≠ 0) (h12 : o ≠ 12) (h10 : o ≠ 10) (h11 : o ≠ 11) : Went o A g (doR X () g o A B i) := by
  unfold doR
  rw [if_neg h0]
  by_cases h14 : o = 14
  · rw [if_pos h14]
    exact ⟨fun _ => rfl, fun h => absurd h14 h, fun _ => (upd_self : upd g 8 ((g 8 + 2) % 65536) 8 = _), upd_back fun k _ h => upd_ne h⟩
  rw [if_neg h14]
  by_cases h1 : o = 1
  · rw [if_pos h1]
    exact ⟨fun h => absurd h h14, fun _ => rfl, fun _ => (upd_ne (by omega)).trans upd_self, upd_back fun k hk h => (upd_ne hk).trans (upd_ne h)⟩
  rw [if_neg h1, if_neg h10, if_neg h11, if_neg h12]
  by_cases h13 : o = 13
  · rw [if_pos h13]
    split
    · exact ⟨fun h => absurd h h14, fun _ => rfl, fun h => absurd h13 h, upd_back fun k _ h => (upd_ne h).trans (upd_ne h)⟩
    · exact ⟨fun h => absurd h h14, fun _ => rfl, fun h => absurd h13 h, upd_back fun k _ h => upd_ne h⟩
  rw [if_neg h13]
  exact ⟨fun h => absurd h h14, fun _ => rfl, fun _ => (upd_ne (by omega)).trans upd_self, upd_back fun k hk h => (upd_ne hk).trans (upd_ne h)⟩
/-- Two words that are an instruction, from where the task is on. -/
theorem step_just (g : Nat → Int) (o a b i : Int) (hm : IP.may o a b i = 0) (hj : (0 ≤ g 8 ∧ g 8 < 65536) ∧ (0 ≤ IP.c0 o a b ∧ IP.c0 o a b < 65536) ∧ 0 ≤ IP.c1 i ∧ IP.c1 i < 65536) :
    stepR (justBus (g 8) (IP.c0 o a b) (IP.c1 i) hj) () g = doR (justBus (g 8) (IP.c0 o a b) (IP.c1 i) hj) () g o a.toNat b.toNat i := by
  obtain ⟨o0, o1, a0, a1, b0, b1, i0, i1⟩ := IP.may_zero hm
  have e0 : (justBus (g 8) (IP.c0 o a b) (IP.c1 i) hj).ok () (g 8) = true := by show jOk (g 8) (g 8) = true; unfold jOk; rw [if_pos rfl]
  have e1 : (justBus (g 8) (IP.c0 o a b) (IP.c1 i) hj).ok () (pc1 g) = true := by
    show jOk (g 8) (pc1 g) = true
    unfold jOk
    split
    · rfl
    · exact beq_iff_eq.2 rfl
  have l0 : (justBus (g 8) (IP.c0 o a b) (IP.c1 i) hj).ld () (g 8) = IP.c0 o a b := by show jLd (g 8) _ _ (g 8) = _; unfold jLd; rw [if_pos rfl]
  have l1 : (justBus (g 8) (IP.c0 o a b) (IP.c1 i) hj).ld () (pc1 g) = IP.c1 i := by
    show jLd (g 8) _ _ (pc1 g) = _
    unfold jLd
    rw [if_neg (by unfold pc1; omega)]
  have d0 : IP.c0 o a b / 256 = o := by unfold IP.c0; omega
  have d1 : IP.c0 o a b / 16 % 16 = a := by unfold IP.c0; omega
  have d2 : IP.c0 o a b % 16 = b := by unfold IP.c0; omega
  have d3 : IP.dI (IP.c1 i) = i := by
    unfold IP.dI IP.c1
    split <;> split <;> omega
  have hi : isIns (IP.c0 o a b) (IP.c1 i) := by
    unfold isIns
    rw [d0, d1, d2, d3]
    exact hm
  rw [stepR_do e0 e1 (by rw [l0, l1]; exact hi), l0, l1, d0, d1, d2, d3]
/-- The world of the law. -/
structure TW (w W : World) (bt : Nat) (f : Nat → Int) : Prop where
  t : W.rangeAt bt 0 (tc f)
  tt : W.there bt 0 20
  bel : Below w.heap.size w W
  lo : w.heap.size ≤ bt
  sz : bt < W.heap.size
theorem TW.below {w W W' : World} {bt : Nat} {f : Nat → Int} (h : TW w W bt f) (hb : Below W.heap.size W W') : TW w W' bt f :=
  ⟨range_below h.t hb, there_kp (T := fun _ => False) h.tt (.of_below hb) id, btr h.bel hb, h.lo, Nat.lt_of_lt_of_le h.sz hb.size⟩
theorem TW.set {w W : World} {bt : Nat} {f : Nat → Int} (h : TW w W bt f) (k : Nat) (hk : k < 20) (v : Int) : TW w (W.setCell ⟨bt, k, none⟩ (.int .i64 v)) bt (upd f k v) :=
  ⟨by rw [← tc_set]; exact range_set h.t (by rw [tc_len]; exact hk) _, there_set h.tt _ _, bset h.bel h.lo _, h.lo, by rw [show (W.setCell ⟨bt, k, none⟩ (.int .i64 v)).heap.size = W.heap.size by simp [World.setCell]]; exact h.sz⟩
theorem TW.drw {w W : World} {bt : Nat} {f : Nat → Int} (h : TW w W bt f) : TW w W.drew bt f := h.below (below_drew W 1)
theorem TW.put {w W : World} {bt : Nat} {f : Nat → Int} (h : TW w W bt f) (cs : List Value) (g : Nat → Int) (hc : cs = tc g) : TW w (W.setCells bt 0 cs) bt g := by
  subst hc
  exact ⟨World.rangeAt_setCells_same _ _ _ _ (by rw [tc_len]; exact h.tt), World.there_setCells h.tt _ _ _, (Kp.setCells (T := (· = bt)) (.inl rfl) (tc g) 0 _ (Kp.refl _ W)).below h.bel (Nat.le_trans h.lo (Nat.le_of_lt h.sz)) (fun k hk e => by have := h.lo; omega), h.lo, by rw [setCells_size]; exact h.sz⟩
theorem tw_new (w w1 : World) (z : Array Value) (hz : z.size = 20) (f : Nat → Int) (h1 : Below w.heap.size w w1) : TW w ((w1.alloc (.cells z 35)).setCells w1.heap.size 0 (tc f)) w1.heap.size f := by
  have hk := Kp.setCells (T := fun _ => False) (b := w1.heap.size) (w := w1) (.inr (Nat.le_refl _)) (tc f) 0 _ ((Kp.refl _ w1).alloc (.cells z 35))
  exact ⟨World.rangeAt_setCells_same _ _ _ _ (by rw [tc_len]; exact there_new _ _ _ _ _ rfl (by omega)), World.there_setCells (there_new _ _ _ _ _ rfl (by omega)) _ _ _, btr h1 hk.all, h1.size, by rw [setCells_size]; simp⟩
theorem below_new (w1 : World) (z : Array Value) (f : Nat → Int) : Below w1.heap.size w1 ((w1.alloc (.cells z 35)).setCells w1.heap.size 0 (tc f)) :=
  (Kp.setCells (T := fun _ => False) (b := w1.heap.size) (w := w1) (.inr (Nat.le_refl _)) (tc f) 0 _ ((Kp.refl _ w1).alloc (.cells z 35))).all
end Go.Proofs.Ytlkplpdnleaihag.Cpu
