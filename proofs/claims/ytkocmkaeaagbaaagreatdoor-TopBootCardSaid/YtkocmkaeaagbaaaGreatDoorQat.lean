/- The rest of GNew: what few laws reach. · Worlds, plain: what the lines world and clay make. · Worlds in the making: one key more; clay. -/
import Derived.Test.YtkocmkaeaagbaaaGreatDoorQal
import Derived.Test.YtkocmkaeaagbaaaGreatDoorQas
namespace Go.Proofs.YtkocmkaeaagbaaaGreatDoor.Mem
open Go.RowKit
/-- The first n1 operations have no guard, hang on earlier ones alone, and leave their values in slots of their own, below N; each later one waits for all of them. -/
def headOk (md : Region.Mode) (ops : Array Oper) (n1 N : Nat) : Bool :=
 decide (n1 ≤ ops.size) && (List.range ops.size).all fun i => match ops[i]? with
  | none => true
  | some o => if i < n1 then o.guard.isNone && o.after.all (fun e => decide (e.on < i)) && (match o.dst with | none => false | some d => decide (d < N) && (List.range i).all fun j => (ops[j]?).bind (·.dst) != some d)
   else (List.range n1).all fun j => o.after.any fun e => Region.binds md e && e.on == j
theorem getD_set {l : Array Bool} {i j : Nat} (hi : i < l.size) : (l.setIfInBounds i true).getD j false = if j = i then true else l.getD j false := by
 simp only [Array.getD_eq_getD_getElem?, Array.getElem?_setIfInBounds]
 by_cases h : i = j
 ·subst h; simp [hi]
 ·have : ¬ j = i := fun e => h e.symm
  simp [h, this]
theorem left_above {l : Array Bool} {i : Nat} (hi : i < l.size) : ∀ n, n ≤ i → left (l.setIfInBounds i true) n = left l n
 | 0, _ => rfl
 | n + 1, h => by
  have e : ¬ n = i := by omega
  simp only [left]
  rw [left_above hi n (by omega), getD_set hi, if_neg e]
theorem left_set {l : Array Bool} {i : Nat} (hi : i < l.size) (hf : l.getD i false = false) : ∀ n, i < n → left (l.setIfInBounds i true) n + 1 = left l n
 | 0, h => by omega
 | n + 1, h => by
  simp only [left]
  rw [getD_set hi]
  by_cases e : n = i
  ·subst e
   rw [left_above hi n (Nat.le_refl _), if_pos rfl, hf]
   simp
  ·rw [if_neg e]
   have := left_set hi hf n (by omega)
   omega
theorem left_zero {l : Array Bool} : ∀ n, left l n = 0 → ∀ j, j < n → l.getD j false = true
 | 0, _, j, hj => by omega
 | n + 1, h, j, hj => by
  simp only [left] at h
  by_cases e : j = n
  ·subst e
   by_cases hl : l.getD j false = true
   ·exact hl
   ·rw [if_neg hl] at h; omega
  ·exact left_zero n (by omega) j (by omega)
theorem left_first {l : Array Bool} : ∀ n, left l n ≠ 0 → ∃ j, j < n ∧ l.getD j false = false ∧ ∀ k, k < j → l.getD k false = true
 | 0, h => absurd rfl h
 | n + 1, h => by
  by_cases h0 : left l n = 0
  ·refine ⟨n, by omega, ?_, left_zero n h0⟩
   simp only [left, h0] at h
   by_cases hl : l.getD n false = true
   ·rw [if_pos hl] at h; exact absurd rfl h
   ·simpa using hl
  ·obtain ⟨j, h1, h2, h3⟩ := left_first n h0
   exact ⟨j, by omega, h2, h3⟩
/-- Where the first operations have come to. -/
structure Hd (ops : Array Oper) (n1 : Nat) (R : Nat → Value → World → Prop) (w0 : World) (a0 : Act) (listed : Array Bool) (a : Act) (w : World) : Prop where
 sz : listed.size = ops.size
 tail : ∀ i, n1 ≤ i → listed.getD i false = false
 bel : Below w0.heap.size w0 w
 df : a.defers = a0.defers
 ts : a.tmps.size = a0.tmps.size
 got : ∀ i o d, ops[i]? = some o → o.dst = some d → listed.getD i false = true → R i (a.tmps.getD d undef) w
 old : ∀ s, (∀ i o, i < n1 → ops[i]? = some o → o.dst ≠ some s) → a.tmps.getD s undef = a0.tmps.getD s undef
theorem all_range {n : Nat} {p : Nat → Bool} (h : (List.range n).all p = true) {i : Nat} (hi : i < n) : p i = true := List.all_eq_true.1 h i (List.mem_range.2 hi)
theorem Hd.oldB {ops : Array Oper} {n1 : Nat} {R : Nat → Value → World → Prop} {w0 : World} {a0 : Act} {listed : Array Bool} {a : Act} {w : World} (h : Hd ops n1 R w0 a0 listed a w) (s : Nat) (hs : ((List.range n1).all fun i => (ops[i]?).bind (·.dst) != some s) = true) : a.eval (.tmp s) = a0.eval (.tmp s) :=
 h.old s fun i o hi ho e => by
  have := all_range hs hi
  rw [ho] at this
  simp [e] at this
theorem Hd.gotB {ops : Array Oper} {n1 : Nat} {R : Nat → Value → World → Prop} {w0 : World} {a0 : Act} {listed : Array Bool} {a : Act} {w : World} (h : Hd ops n1 R w0 a0 listed a w) (i d : Nat) (hs : (ops[i]?).bind (·.dst) = some d) (hl : listed.getD i false = true) : R i (a.eval (.tmp d)) w := by
 cases ho : ops[i]? with
 | none => rw [ho] at hs; cases hs
 | some o => rw [ho] at hs; exact h.got i o d ho hs hl
section
variable {P : Program} {md : Region.Mode} {ops : Array Oper} {Q : Exit → Act → World → Prop} {n1 N : Nat} {R : Nat → Value → World → Prop} {w0 : World} {a0 : Act}
theorem headOk_at (h : headOk md ops n1 N = true) {i : Nat} {o : Oper} (ho : ops[i]? = some o) :
  (i < n1 → o.guard = none ∧ (∀ e ∈ o.after, e.on < i) ∧ ∃ d, o.dst = some d ∧ d < N ∧ ∀ j o', j < i → ops[j]? = some o' → o'.dst ≠ some d) ∧
  (n1 ≤ i → ∀ j, j < n1 → ∃ e ∈ o.after, Region.binds md e = true ∧ e.on = j) := by
 unfold headOk at h
 rw [Bool.and_eq_true] at h
 have hi : i < ops.size := (Array.getElem?_eq_some_iff.1 ho).1
 have := all_range h.2 hi
 rw [ho] at this
 simp only at this
 constructor
 ·intro hlt
  rw [if_pos hlt] at this
  simp only [Bool.and_eq_true, Option.isNone_iff_eq_none, Array.all_eq_true'] at this
  obtain ⟨⟨h1, h2⟩, h3⟩ := this
  refine ⟨h1, fun e he => by simpa using h2 e he, ?_⟩
  cases hd : o.dst with
  | none => rw [hd] at h3; simp at h3
  | some d =>
   rw [hd] at h3
   simp only [Bool.and_eq_true, decide_eq_true_eq] at h3
   refine ⟨d, rfl, h3.1, fun j o' hj ho' e => ?_⟩
   have := all_range h3.2 hj
   rw [ho'] at this
   simp [e] at this
 ·intro hge j hj
  rw [if_neg (by omega)] at this
  have := all_range this hj
  rw [Array.any_eq_true'] at this
  obtain ⟨e, he, h4⟩ := this
  rw [Bool.and_eq_true] at h4
  exact ⟨e, he, h4.1, by simpa using h4.2⟩
theorem ready_mem {listed : Array Bool} {i : Nat} (h : i ∈ Region.ready md ops listed) : ∃ o, ops[i]? = some o ∧ i < ops.size ∧ listed.getD i true = false ∧ ∀ e ∈ o.after, Region.binds md e = true → listed.getD e.on false = true := by
 unfold Region.ready at h
 obtain ⟨h1, h2⟩ := List.mem_filter.1 h
 have hi := List.mem_range.1 h1
 rw [Bool.and_eq_true] at h2
 obtain ⟨h3, h4⟩ := h2
 have ho : ops[i]? = some ops[i] := Array.getElem?_eq_getElem hi
 rw [ho] at h4
 simp only [Option.map_some, Option.getD_some, Array.all_eq_true'] at h4
 refine ⟨ops[i], ho, hi, by simpa using h3, fun e he hb => ?_⟩
 have := h4 e he
 simpa [hb] using this
theorem getD_tf {l : Array Bool} {i : Nat} (h : i < l.size) : l.getD i true = l.getD i false := by
 simp [Array.getD_eq_getD_getElem?, h]
theorem wpAny_head (hok : headOk md ops n1 N = true) (hN : N ≤ a0.tmps.size) (E : Array Bool) (hE : E.size = ops.size) (hEi : ∀ i, i < ops.size → E.getD i false = decide (i < n1))
  (hmono : ∀ i v w w', Below w.heap.size w w' → R i v w → R i v w')
  (hstep : ∀ i o, i < n1 → ops[i]? = some o → ∀ listed a w, Hd ops n1 R w0 a0 listed a w → (∀ e ∈ o.after, Region.binds md e = true → listed.getD e.on false = true) → o.wp P a w (fun a' w' => ∃ v, a' = a.put o.dst v ∧ R i v w' ∧ Below w.heap.size w w') Q)
  (hend : ∀ a w, Hd ops n1 R w0 a0 E a w → wpAny P md ops Q (ops.size - n1) E a w) :
  ∀ k listed a w, left listed n1 = k → Hd ops n1 R w0 a0 listed a w → wpAny P md ops Q (k + (ops.size - n1)) listed a w := by
 have hn1 : n1 ≤ ops.size := by
  unfold headOk at hok
  rw [Bool.and_eq_true] at hok
  simpa using hok.1
 intro k
 induction k with
 | zero =>
  intro listed a w hk h
  have he : listed = E := by
   apply Array.ext
   ·rw [h.sz, hE]
   ·intro i h1 h2
    have e1 : listed.getD i false = listed[i] := by simp [Array.getD_eq_getD_getElem?, h1]
    have e2 : E.getD i false = E[i] := by simp [Array.getD_eq_getD_getElem?, h2]
    rw [← e1, ← e2, hEi i (by omega)]
    by_cases hi : i < n1
    ·rw [left_zero n1 hk i hi, decide_eq_true hi]
    ·rw [h.tail i (by omega), decide_eq_false hi]
  subst he
  rw [Nat.zero_add]
  exact hend a w h
 | succ k ih =>
  intro listed a w hk h
  rw [show k + 1 + (ops.size - n1) = (k + (ops.size - n1)) + 1 by omega]
  obtain ⟨j, j1, j2, j3⟩ := left_first (l := listed) n1 (by omega)
  have hj : j < ops.size := by omega
  have hjr : j ∈ Region.ready md ops listed := by
   have ho : ops[j]? = some ops[j] := Array.getElem?_eq_getElem hj
   refine mem_ready ho (by rw [getD_tf (by rw [h.sz]; exact hj)]; exact j2) fun e he => ?_
   exact j3 _ (((headOk_at hok ho).1 j1).2.1 e he)
  refine ⟨fun hr => by rw [hr] at hjr; simp at hjr, fun i hi => ?_⟩
  obtain ⟨o, ho, hi2, hl, hd⟩ := ready_mem hi
  rw [getD_tf (by rw [h.sz]; exact hi2)] at hl
  have hin : i < n1 := by
   rcases Nat.lt_or_ge i n1 with h1 | h1
   ·exact h1
   ·obtain ⟨e, he, hb, hon⟩ := (headOk_at hok ho).2 h1 j j1
    have := hd e he hb
    rw [hon, j2] at this
    cases this
  obtain ⟨hg, _, d, hdst, hdN, hdj⟩ := (headOk_at hok ho).1 hin
  unfold wpOp
  rw [ho]
  simp only
  rw [if_pos (by unfold Region.wanted; rw [hg])]
  refine Or.inl (Oper.wp_mono (fun a' w' hv => ?_) (hstep i o hin ho listed a w h hd))
  obtain ⟨v, rfl, hR, hb⟩ := hv
  refine ih (listed.setIfInBounds i true) (a.put o.dst v) w' (by have := left_set (by rw [h.sz]; exact hi2) hl n1 hin; omega) ?_
  have hda : d < a.tmps.size := by
   rw [h.ts]
   exact Nat.lt_of_lt_of_le hdN hN
  have hput : ∀ s, (a.put o.dst v).tmps.getD s undef = if s = d then v else a.tmps.getD s undef := by
   intro s
   rw [hdst]
   simp only [Act.put, Array.getD_eq_getD_getElem?, Array.getElem?_setIfInBounds]
   by_cases e : d = s
   ·subst e; simp [hda]
   ·have : ¬ s = d := fun x => e x.symm
    simp [e, this]
  refine ⟨by rw [Array.size_setIfInBounds]; exact h.sz, fun i' hi' => ?_, h.bel.trans (hb.mono h.bel.size), by rw [hdst]; exact h.df, by rw [hdst]; simp only [Act.put, Array.size_setIfInBounds]; exact h.ts, fun i' o' d' ho' hd' hl' => ?_, fun s hs => ?_⟩
  ·rw [getD_set (by rw [h.sz]; exact hi2), if_neg (by omega)]
   exact h.tail i' hi'
  ·rw [getD_set (by rw [h.sz]; exact hi2)] at hl'
   by_cases e : i' = i
   ·subst e
    obtain rfl := Option.some.inj (ho.symm.trans ho')
    obtain rfl := Option.some.inj (hdst.symm.trans hd')
    rw [hput, if_pos rfl]
    exact hR
   ·rw [if_neg e] at hl'
    have hi'n : i' < n1 := by
     rcases Nat.lt_or_ge i' n1 with h1 | h1
     ·exact h1
     ·rw [h.tail i' h1] at hl'; cases hl'
    have hne : ¬ d' = d := by
     rintro rfl
     rcases Nat.lt_or_gt_of_ne e with h1 | h1
     ·exact hdj i' o' h1 ho' hd'
     ·obtain ⟨_, _, d2, hd2, _, hx⟩ := (headOk_at hok ho').1 hi'n
      obtain rfl := Option.some.inj (hd'.symm.trans hd2)
      exact hx i o h1 ho hdst
    rw [hput, if_neg hne]
    exact hmono _ _ _ _ hb (h.got i' o' d' ho' hd' hl')
  ·have hne : ¬ s = d := by
    rintro rfl
    exact hs i o hin ho hdst
   rw [hput, if_neg hne]
   exact h.old s hs
theorem repl_getD (n k : Nat) : (Array.replicate n false).getD k false = false := by
 rw [Array.getD_eq_getD_getElem?, Array.getElem?_replicate]
 split <;> rfl
theorem left_none (n : Nat) : ∀ k, k ≤ n → left (Array.replicate n false) k = k
 | 0, _ => rfl
 | k + 1, h => by
  simp only [left]
  rw [left_none n k (by omega), repl_getD]
  simp
/-- The region whole. -/
theorem wp_head {id : Nat} {a : Act} {w : World} (hm : P.follows .mixedOrders = true) (hok : headOk .any ops n1 N = true) (hN : N ≤ a.tmps.size) (E : Array Bool) (hE : E.size = ops.size) (hEi : ∀ i, i < ops.size → E.getD i false = decide (i < n1))
  (hmono : ∀ i v w w', Below w.heap.size w w' → R i v w → R i v w')
  (hstep : ∀ i o, i < n1 → ops[i]? = some o → ∀ listed a' w', Hd ops n1 R w.drew a listed a' w' → (∀ e ∈ o.after, Region.binds .any e = true → listed.getD e.on false = true) → o.wp P a' w' (fun a2 w2 => ∃ v, a2 = a'.put o.dst v ∧ R i v w2 ∧ Below w'.heap.size w' w2) Q)
  (hend : ∀ a' w', Hd ops n1 R w.drew a E a' w' → wpAny P .any ops Q (ops.size - n1) E a' w') : (Code.region id ops true).wp P Q a w := by
 have hn1 : n1 ≤ ops.size := by
  unfold headOk at hok
  rw [Bool.and_eq_true] at hok
  simpa using hok.1
 refine wp_region_any hm ?_
 have := wpAny_head hok hN E hE hEi hmono hstep hend n1 (Array.replicate ops.size false) a w.drew (left_none ops.size n1 hn1)
  ⟨by simp, fun i _ => repl_getD _ _, Below.refl _ _, rfl, rfl, fun i o d _ _ hl => (by rw [repl_getD] at hl; cases hl), fun s _ => rfl⟩
 rw [show n1 + (ops.size - n1) = ops.size by omega] at this
 exact this
end
end Go.Proofs.YtkocmkaeaagbaaaGreatDoor.Mem
namespace Go.Proofs.YtkocmkaeaagbaaaGreatDoor.Wd
open Go.RowKit Go.Proofs.YtkocmkaeaagbaaaGreatDoor.Mem Go.Proofs.YtkocmkaeaagbaaaGreatDoor.Bw Go.Proofs.YtkocmkaeaagbaaaGreatDoor.Nums Go.Proofs.YtkocmkaeaagbaaaGreatDoor.Mmu
/-- An empty slot. -/
def sl (k : Nat) : Int := if k = 6 then -1 else 0
/-- A new world, plain. -/
def newP (f c : Nat) (zs : List Int) : PW :=
 { ram := List.replicate (f * 16) 0, kinds := List.replicate f 0, slots := List.replicate (f * 16) sl, tasks := List.replicate f bl, lines := List.replicate f [], bits := List.replicate f 0, cores := List.replicate c (-1), ready := List.replicate (c * 4) [], tlbs := List.replicate c [], doms := zs, time := 0 }
set_option maxRecDepth 100000 in
theorem empty_own (w : World) : Calls Tryz.prog 152 #[] w fun e w' => e = .returned (.agg #[.int .i64 0, .int .i64 0, .int .i64 0, .int .i64 0, .int .i64 0, .int .i64 0, .int .i64 (-1)]) ∧ Below w.heap.size w w' := by
 go_enter Tryz.func152, Tryz.ntmps152
 go_wp2_with fail
 refine bodyPost_ret (v := .agg #[.int .i64 0, .int .i64 0, .int .i64 0, .int .i64 0, .int .i64 0, .int .i64 0, .int .i64 (-1)]) (by simp [results, Tryz.results152, go_sem]) rfl ⟨rfl, ?_⟩
 exact bal (Below.refl _ _) _
end Go.Proofs.YtkocmkaeaagbaaaGreatDoor.Wd
namespace Go.Proofs.YtkocmkaeaagbaaaGreatDoor.Wd
open Go.RowKit Go.Proofs.YtkocmkaeaagbaaaGreatDoor.Mem Go.Proofs.YtkocmkaeaagbaaaGreatDoor.Bw Go.Proofs.YtkocmkaeaagbaaaGreatDoor.Nums Go.Proofs.YtkocmkaeaagbaaaGreatDoor.Mmu
/-- A node's own key. -/
def ndk (k : Nat) : Int := [5, 0, 1, 0, 7, 0, -1].getD k 0
/-- What the line makes. -/
def wlP (f c : Nat) (zs : List Int) : PW := { newP f c zs with kinds := (newP f c zs).kinds.set 0 5, slots := (newP f c zs).slots.set 0 ndk }
/-- Clay's key. -/
def clk (b n : Nat) (k : Nat) : Int := [1, (b : Int), (n : Int), 0, 7, 0, -1].getD k 0
end Go.Proofs.YtkocmkaeaagbaaaGreatDoor.Wd
namespace Go.Proofs.YtkocmkaeaagbaaaGreatDoor.Wd
open Go.RowKit Go.Proofs.YtkocmkaeaagbaaaGreatDoor.Mem Go.Proofs.YtkocmkaeaagbaaaGreatDoor.Bw Go.Proofs.YtkocmkaeaagbaaaGreatDoor.Nums Go.Proofs.YtkocmkaeaagbaaaGreatDoor.Mmu
theorem getD_set {α : Type} {l : List α} {i : Nat} (h : i < l.length) (x d : α) (j : Nat) : (l.set i x).getD j d = if j = i then x else l.getD j d := by
 rw [List.getD_eq_getElem?_getD, List.getD_eq_getElem?_getD]
 by_cases e : j = i
 ·subst e
  rw [if_pos rfl, List.getElem?_set_self h]; rfl
 ·rw [if_neg e, List.getElem?_set_ne (fun h => e h.symm)]
theorem nfl_set {S : List (Nat → Int)} {i : Nat} (h : i < S.length) (h0 : (S.getD i eS) 0 = 0) {f : Nat → Int} (hf : f 0 ≠ 0) : nfl (S.set i f) = nfl S + 1 := by
 unfold nfl
 have e : S[i] = S.getD i eS := by rw [List.getD_eq_getElem?_getD, List.getElem?_eq_getElem h]; rfl
 rw [List.countP_set h, e, h0]
 simp [hf]
/-- What a key's numbers can be. -/
structure KIn (s : Nat → Int) : Prop where
 k : 1 ≤ s 0 ∧ s 0 ≤ 8
 b : 0 ≤ s 1
 l : 1 ≤ s 2
 bl : s 1 + s 2 ≤ 24
 m : s 0 = 1 → 0 ≤ s 3 ∧ s 3 ≤ s 2
 o : s 0 ≠ 1 → s 2 = 1 ∧ s 3 = 0
 r : 0 ≤ s 4 ∧ s 4 ≤ 7
 g : (s 0 = 7 ∨ s 0 = 8) ∧ 0 ≤ s 5 ∧ s 5 ≤ 65535 ∨ ¬ (s 0 = 7 ∨ s 0 = 8) ∧ s 5 = 0
theorem kc_in {s : Nat → Int} (h : kc s = 0) (h0 : s 0 ≠ 0) : KIn s := by
 unfold kc KP.chk at h
 split at h
 ·cases h
 split at h
 ·cases h
 split at h
 ·cases h
 split at h
 ·cases h
 rename_i h1 h2 h3 h4
 unfold KP.fitsB at h2
 unfold KP.badgeB at h4
 split at h2
 ·exact absurd rfl h2
 rename_i h5
 have g : (s 0 = 7 ∨ s 0 = 8) ∧ 0 ≤ s 5 ∧ s 5 ≤ 65535 ∨ ¬ (s 0 = 7 ∨ s 0 = 8) ∧ s 5 = 0 := by
  split at h4
  ·rename_i e
   exact .inl ⟨e, by simpa using h4⟩
  ·rename_i e
   exact .inr ⟨e, by simpa using h4⟩
 by_cases e : s 0 = 1
 ·rw [if_pos e] at h2
  have h6 : 0 ≤ s 3 ∧ s 3 ≤ s 2 := by simpa using h2
  exact ⟨by omega, by omega, by omega, by omega, fun _ => h6, fun h => absurd e h, by omega, g⟩
 ·rw [if_neg e] at h2
  have h6 : s 2 = 1 ∧ s 3 = 0 := by simpa using h2
  exact ⟨by omega, by omega, by omega, by omega, fun h => absurd h e, fun _ => h6, by omega, g⟩
theorem kc_of {s : Nat → Int} (h : KIn s) : kc s = 0 := by
 obtain ⟨k, b, l, bl, m, o, r, g⟩ := h
 have hf : KP.fitsB (s 0) (s 1) (s 2) (s 3) = true := by
  unfold KP.fitsB
  rw [if_neg (by omega)]
  by_cases e : s 0 = 1
  ·rw [if_pos e]; exact decide_eq_true (m e)
  ·rw [if_neg e]; exact decide_eq_true (o e)
 have hb : KP.badgeB (s 0) (s 5) = true := by
  unfold KP.badgeB
  rcases g with ⟨e, h⟩ | ⟨e, h⟩
  ·rw [if_pos e]; exact decide_eq_true h
  ·rw [if_neg e]; exact decide_eq_true h
 unfold kc KP.chk
 rw [if_neg (by omega), if_neg (by omega), hf, if_neg (by decide), if_neg (by omega), hb, if_neg (by decide)]
theorem clI_iff {n : Int} {s : Nat → Int} : clI n s = true ↔ s 0 = 1 ∧ s 1 ≤ n ∧ n ≤ s 1 + s 2 - 1 := by
 unfold clI
 rw [Bool.and_eq_true, beq_iff_eq, decide_eq_true_eq]
theorem opn_iff {n : Int} {s : Nat → Int} : opn n s = true ↔ s 0 ≠ 0 ∧ s 0 ≠ 1 ∧ s 1 = n := by
 unfold opn
 rw [Bool.and_eq_true, Bool.and_eq_true, bne_iff_ne, bne_iff_ne, beq_iff_eq, and_assoc]
theorem un_cl {n : Int} {s : Nat → Int} (h : clI n s = false) : un n s = false := by unfold un; rw [h]; rfl
/-- One key more, in a slot that had none; kinds stay. -/
theorem Keys.add {p : PW} {r : Nat → Nat} (h : Keys p r) {b : Nat} (hb : b < p.slots.length) (h0 : p.s b 0 = 0) (hn : p.k (b / 16) = 5) {f : Nat → Int} (hf : f 0 ≠ 0) (hk : KeyOk p f)
  (hu : f 6 = -1 ∨ ∃ u : Nat, f 6 = u ∧ u < p.slots.length ∧ p.s u 0 ≠ 0 ∧ cmB (p.s u) f = true)
  (hc : f 0 = 1 → ∀ n : Nat, clI n f = true → p.k n = 0 ∧ ∀ i, clI n (p.s i) = false)
  (hg : f 0 ≠ 1 → f 6 = -1 → ∀ c, clI (f 1) (p.s c) = false) : ∃ r', Keys { p with slots := p.slots.set b f } r' := by
 have S : ∀ j, PW.s { p with slots := p.slots.set b f } j = if j = b then f else p.s j := fun j => getD_set hb f eS j
 have hne : ∀ u, p.s u 0 ≠ 0 → u ≠ b := fun u h1 e => h1 (e ▸ h0)
 have kf := kc_in hk.c hf
 have hcl : ∀ n : Int, clI n f = true → (∀ i, clI n (p.s i) = false) ∧ ∃ m : Nat, n = m ∧ p.k m = 0 := fun n h1 => by
  obtain ⟨e1, e2, e3⟩ := clI_iff.1 h1
  obtain ⟨m, rfl⟩ : ∃ m : Nat, n = m := ⟨n.toNat, by have := kf.b; omega⟩
  exact ⟨(hc e1 m h1).2, m, rfl, (hc e1 m h1).1⟩
 refine ⟨fun j => if j = b then (if f 6 = -1 then 0 else r (f 6).toNat + 1) else r j, fun j hj => ?_, fun j hj => ?_, fun j hj => ?_, fun j => ?_, fun j hj => ?_, fun n i j hi hj => ?_, fun n hn => ?_, fun n hn i => ?_, fun i h1 h2 h3 c => ?_⟩
 ·rw [S] at hj ⊢
  by_cases e : j = b
  ·rw [if_pos e] at hj
   exact absurd hj hf
  ·rw [if_neg e] at hj ⊢
   exact h.em j hj
 ·rw [S] at hj
  split at hj
  ·rename_i e; rw [e]; exact hn
  ·exact h.nd j hj
 ·rw [S] at hj ⊢
  by_cases e : j = b
  ·rw [if_pos e]
   exact ⟨hk.c, hk.le, hk.is⟩
  ·rw [if_neg e] at hj ⊢
   have := h.key j hj
   exact ⟨this.c, this.le, this.is⟩
 ·rw [S]
  by_cases e : j = b
  ·rw [if_pos e]
   rcases hu with hu | ⟨u, h1, h2, h3, h4⟩
   ·exact .inl hu
   ·refine .inr ⟨u, h1, by rw [List.length_set]; exact h2, by rw [S, if_neg (hne u h3)]; exact h3, by rw [S, if_neg (hne u h3)]; exact h4, ?_⟩
    rw [if_neg (hne u h3), if_pos e, if_neg (by omega), h1, Int.toNat_natCast]
    omega
  ·rw [if_neg e]
   rcases h.up j with h1 | ⟨u, h1, h2, h3, h4, h5⟩
   ·exact .inl h1
   ·refine .inr ⟨u, h1, by rw [List.length_set]; exact h2, by rw [S, if_neg (hne u h3)]; exact h3, by rw [S, if_neg (hne u h3)]; exact h4, ?_⟩
    rw [if_neg (hne u h3), if_neg e]
    exact h5
 ·rw [S] at hj
  show _ < nfl (p.slots.set b f)
  rw [nfl_set hb h0 hf]
  by_cases e : j = b
  ·rw [if_pos e]
   rcases hu with hu | ⟨u, h1, h2, h3, h4⟩
   ·rw [if_pos hu]; omega
   ·rw [if_neg (by omega), h1, Int.toNat_natCast]
    have := h.rk u h3
    omega
  ·rw [if_neg e] at hj ⊢
   have := h.rk j hj
   omega
 ·rw [S] at hi hj
  by_cases ei : i = b <;> by_cases ej : j = b
  ·omega
  ·rw [if_pos ei] at hi
   rw [if_neg ej, (hcl n hi).1 j] at hj
   cases hj
  ·rw [if_pos ej] at hj
   rw [if_neg ei, (hcl n hj).1 i] at hi
   cases hi
  ·rw [if_neg ei] at hi
   rw [if_neg ej] at hj
   exact h.one n i j hi hj
 ·obtain ⟨i, h1, h2⟩ := h.op n hn
  refine ⟨i, by rw [List.length_set]; exact h1, ?_⟩
  rw [S, if_neg (hne i (opn_iff.1 h2).1)]
  exact h2
 ·rw [S]
  split
  ·refine un_cl ?_
   cases hx : clI (n : Int) f with
   | false => rfl
   | true =>
    obtain ⟨_, m, h3, h4⟩ := hcl n hx
    obtain rfl : n = m := by omega
    exact absurd h4 hn
  ·exact h.us n hn i
 ·rw [S] at h1 h2 h3 ⊢
  rw [S]
  by_cases e : i = b
  ·rw [if_pos e] at h1 h2 h3 ⊢
   split
   ·cases hx : clI (f 1) f with
    | false => rfl
    | true => exact absurd (clI_iff.1 hx).1 h2
   ·exact hg h2 h3 c
  ·rw [if_neg e] at h1 h2 h3 ⊢
   split
   ·cases hx : clI (p.s i 1) f with
    | false => rfl
    | true =>
     obtain ⟨_, m, h4, h5⟩ := hcl _ hx
     rcases (h.key i h1).is with h6 | h6
     ·exact absurd h6 h2
     ·obtain ⟨m2, h7, _, h8⟩ := isB_nat h6
      obtain rfl : m = m2 := by omega
      rw [h5] at h8
      exact absurd h8.symm h1
   ·exact h.gp i h1 h2 h3 c
theorem and_less : ∀ x y : Fin 8, anB (bits .and .i64 (x.val : Int) (y.val : Int)) (x.val : Int) = 0 ∧ 0 ≤ bits .and .i64 (x.val : Int) (y.val : Int) ∧ bits .and .i64 (x.val : Int) (y.val : Int) ≤ 7 := of_decide_eq_true (by kernel_rfl)
theorem and_in {x y : Int} (hx : 0 ≤ x ∧ x ≤ 7) (hy : 0 ≤ y ∧ y ≤ 7) : anB (bits .and .i64 x y) x = 0 ∧ 0 ≤ bits .and .i64 x y ∧ bits .and .i64 x y ≤ 7 := by
 have := and_less ⟨x.toNat, by omega⟩ ⟨y.toNat, by omega⟩
 rw [show (((⟨x.toNat, by omega⟩ : Fin 8).val : Nat) : Int) = x by simp; omega, show (((⟨y.toNat, by omega⟩ : Fin 8).val : Nat) : Int) = y by simp; omega] at this
 exact this
end Go.Proofs.YtkocmkaeaagbaaaGreatDoor.Wd
