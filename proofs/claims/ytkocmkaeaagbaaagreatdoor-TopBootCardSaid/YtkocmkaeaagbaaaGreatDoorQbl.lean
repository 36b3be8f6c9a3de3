/- A world out of a text: the order enter; walked. · A region that draws its order, whose first operations only make new memory: whatever order they come in, each leaves a value of which its own condition holds, in a world that has grown; and what the operations of F leave lies apart. · The lists of a world that is made: of one's own, apart from each other; one grows; at the end: a world in its box, as deeds want it. -/
import Derived.Deep.RegionHeld3
import Derived.Deep.AppendLies
import Derived.Test.YtkocmkaeaagbaaaGreatDoorQbk
import Derived.Test.YtkocmkaeaagbaaaGreatDoorQaa
import Derived.Test.YtkocmkaeaagbaaaGreatDoorQao
namespace Go.Proofs.YtkocmkaeaagbaaaGreatDoor.Wd
open Go.RowKit Go.Proofs.YtkocmkaeaagbaaaGreatDoor.Mem Go.Proofs.YtkocmkaeaagbaaaGreatDoor.Bw Go.Proofs.YtkocmkaeaagbaaaGreatDoor.Nums Go.Proofs.YtkocmkaeaagbaaaGreatDoor.Mmu
set_option maxRecDepth 100000 in
set_option maxHeartbeats 8000000 in
theorem benter_any (bb : Nat) (tag : Nat → Nat) (V : Nat → Value) (p : PW) (lv : Value) (n N g c : Nat) (x y z u : Int) (w : World) (h : Bld w bb tag V p lv n) (hz : IntsAt w g 0 [x, y, z, u]) :
  Calls Tryz.prog 83 #[.pointer (some ⟨bb, 0, none⟩), .slice (some ⟨g, 0, none⟩) 4 c] w fun r w' => DoA w bb tag lv N n r w' := by
 have B0 := hid (show Below w.heap.size w w.drew from below_drew w 1)
 have H := hid (h.below B0.out)
 have Z := hid (hz.below B0.out)
 clear h hz
 go_enter Tryz.func83, Tryz.ntmps83
 go_wp2_with fail
 refine Rf.wp_region_H (R := fun W => IntsAt W g 0 [x, y, z, u]) [] [0, 1, 2, 3, 4, 5, 6, 7, 8, 9, 10, 11, 12, 13, 14, 15] 0 (by kernel_rfl) Z.out (by kernel_rfl) (by kernel_rfl) (by kernel_rfl) (fun _ => ?_)
 repeat (refine Rf.rd_st rfl (by rfl) (fun _ _ _ _ h => h) ?_; apply Exists.intro; refine ⟨fun W h => ?_, ?_⟩; (focus (have h0 := h 0 (by simp); have h1 := h 1 (by simp); have h2 := h 2 (by simp); have h3 := h 3 (by simp); clear h; rw [Nat.zero_add] at h0 h1 h2 h3; simp only [List.getElem_cons_zero, List.getElem_cons_succ] at h0 h1 h2 h3; go_simp; try rfl)); simp only [jj])
 refine Rf.rd_nil ?_
 refine Rf.wpAnyF_done (by kernel_rfl) ?_ _
 generalize w.drew = w1 at *
 clear Z
 have TH := hid (thing_any bb V p x 4 w1 H.out.view)
 by_cases e1 : thE p x 4 = 0
 ·rw [e1, eV_0] at TH
  obtain ⟨s, hs, rfl, hk⟩ := thE_in e1
  have W1 := hid (withinB y 0 255 w1)
  have W2 := hid (withinB u 0 1 w1)
  have FR := hid (pisFrame_any bb V p z w1 H.out.view)
  have I3 := hid (pis_any bb V p z 3 w1 H.out.view)
  have I2 := hid (pis_any bb V p z 2 w1 H.out.view)
  have K4 := hid (show p.k s = 4 by rw [k_get hs]; exact hk)
  have HS := hid hs
  clear e1 hs hk
  cases e2 : within 0 255 y with
  | false =>
   rw [e2] at W1
   clear e2
   go_wp2_with fail
   refine TH.out.mono ?_
   rintro r w' ⟨rfl, rfl⟩
   go_wp2_with fail
   refine W1.out.mono ?_
   rintro r w' ⟨rfl, rfl⟩
   go_wp2_with fail
   go_ret
   exact DoA.no B0.out
  | true =>
  rw [e2] at W1
  cases e3 : within 0 1 u with
  | false =>
   rw [e3] at W2
   clear e2 e3
   go_wp2_with fail
   refine TH.out.mono ?_
   rintro r w' ⟨rfl, rfl⟩
   go_wp2_with fail
   refine W1.out.mono ?_
   rintro r w' ⟨rfl, rfl⟩
   go_wp2_with fail
   refine W2.out.mono ?_
   rintro r w' ⟨rfl, rfl⟩
   go_wp2_with fail
   go_ret
   exact DoA.no B0.out
  | true =>
  rw [e3] at W2
  cases e4 : frB p z with
  | false =>
   rw [e4] at FR
   clear e2 e3 e4
   go_wp2_with fail
   refine TH.out.mono ?_
   rintro r w' ⟨rfl, rfl⟩
   go_wp2_with fail
   refine W1.out.mono ?_
   rintro r w' ⟨rfl, rfl⟩
   go_wp2_with fail
   refine W2.out.mono ?_
   rintro r w' ⟨rfl, rfl⟩
   go_wp2_with fail
   refine FR.out.mono ?_
   rintro r w' ⟨rfl, rfl⟩
   go_wp2_with fail
   go_ret
   exact DoA.no B0.out
  | true =>
  rw [e4] at FR
  have hy := of_decide_eq_true e2
  have hu := of_decide_eq_true e3
  have hf := of_decide_eq_true e4
  obtain ⟨j, rfl⟩ := Int.eq_ofNat_of_zero_le hy.1
  obtain ⟨f, rfl⟩ := Int.eq_ofNat_of_zero_le hf.1
  have hj : j ≤ 255 := by omega
  have hfl : f < p.kinds.length := by omega
  clear e2 e3 e4 hy hf
  cases e5 : isB p (f : Int) 3 with
  | true =>
   rw [e5] at I3
   have EN := hid (enterT_any bb tag V p lv n N s j f w1 H.out HS.out K4.out hj hfl (by rw [isB_k hfl] at e5; simpa using e5))
   clear e5 hj hfl
   by_cases hu1 : u = 1
   ·subst hu1
    clear hu
    go_wp2_with fail
    refine TH.out.mono ?_
    rintro r w' ⟨rfl, rfl⟩
    go_wp2_with fail
    refine W1.out.mono ?_
    rintro r w' ⟨rfl, rfl⟩
    go_wp2_with fail
    refine W2.out.mono ?_
    rintro r w' ⟨rfl, rfl⟩
    go_wp2_with fail
    refine FR.out.mono ?_
    rintro r w' ⟨rfl, rfl⟩
    go_wp2_with fail
    refine I3.out.mono ?_
    rintro r w' ⟨rfl, rfl⟩
    go_wp2_with fail
    refine EN.out.mono ?_
    rintro r w' hd
    have DD := hid hd
    clear hd EN
    obtain ⟨ev, tg, rfl, _, _, _⟩ := DD.out
    go_wp2_with fail
    go_ret
    exact DD.out.pre B0.out
   ·have hub : (u == 1) = false := by simp [hu1]
    clear hu hu1
    go_wp2_with fail
    refine TH.out.mono ?_
    rintro r w' ⟨rfl, rfl⟩
    go_wp2_with fail
    refine W1.out.mono ?_
    rintro r w' ⟨rfl, rfl⟩
    go_wp2_with fail
    refine W2.out.mono ?_
    rintro r w' ⟨rfl, rfl⟩
    go_wp2_with fail
    refine FR.out.mono ?_
    rintro r w' ⟨rfl, rfl⟩
    go_wp2_with fail
    refine I3.out.mono ?_
    rintro r w' ⟨rfl, rfl⟩
    go_wp2_with fail
    refine EN.out.mono ?_
    rintro r w' hd
    have DD := hid hd
    clear hd EN
    obtain ⟨ev, tg, rfl, _, _, _⟩ := DD.out
    go_wp2_with fail
    go_ret
    exact DD.out.pre B0.out
  | false =>
   rw [e5] at I3
   cases e6 : isB p (f : Int) 2 with
   | false =>
    rw [e6] at I2
    clear e5 e6 hj hfl hu
    go_wp2_with fail
    refine TH.out.mono ?_
    rintro r w' ⟨rfl, rfl⟩
    go_wp2_with fail
    refine W1.out.mono ?_
    rintro r w' ⟨rfl, rfl⟩
    go_wp2_with fail
    refine W2.out.mono ?_
    rintro r w' ⟨rfl, rfl⟩
    go_wp2_with fail
    refine FR.out.mono ?_
    rintro r w' ⟨rfl, rfl⟩
    go_wp2_with fail
    refine I3.out.mono ?_
    rintro r w' ⟨rfl, rfl⟩
    go_wp2_with fail
    refine I2.out.mono ?_
    rintro r w' ⟨rfl, rfl⟩
    go_wp2_with fail
    go_ret
    exact DoA.no B0.out
   | true =>
    rw [e6] at I2
    have EP := hid (fun wr => enterP_any bb tag V p lv n N s j f wr w1 H.out HS.out K4.out hj hfl (by rw [isB_k hfl] at e6; simpa using e6))
    clear e5 e6 hj hfl
    by_cases hu1 : u = 1
    ·subst hu1
     have EN := hid (EP.out true)
     clear hu EP
     go_wp2_with fail
     refine TH.out.mono ?_
     rintro r w' ⟨rfl, rfl⟩
     go_wp2_with fail
     refine W1.out.mono ?_
     rintro r w' ⟨rfl, rfl⟩
     go_wp2_with fail
     refine W2.out.mono ?_
     rintro r w' ⟨rfl, rfl⟩
     go_wp2_with fail
     refine FR.out.mono ?_
     rintro r w' ⟨rfl, rfl⟩
     go_wp2_with fail
     refine I3.out.mono ?_
     rintro r w' ⟨rfl, rfl⟩
     go_wp2_with fail
     refine I2.out.mono ?_
     rintro r w' ⟨rfl, rfl⟩
     go_wp2_with fail
     refine EN.out.mono ?_
     rintro r w' hd
     have DD := hid hd
     clear hd EN
     obtain ⟨ev, tg, rfl, _, _, _⟩ := DD.out
     go_wp2_with fail
     go_ret
     exact DD.out.pre B0.out
    ·have hub : (u == 1) = false := by simp [hu1]
     have EN := hid (EP.out false)
     clear hu hu1 EP
     go_wp2_with fail
     refine TH.out.mono ?_
     rintro r w' ⟨rfl, rfl⟩
     go_wp2_with fail
     refine W1.out.mono ?_
     rintro r w' ⟨rfl, rfl⟩
     go_wp2_with fail
     refine W2.out.mono ?_
     rintro r w' ⟨rfl, rfl⟩
     go_wp2_with fail
     refine FR.out.mono ?_
     rintro r w' ⟨rfl, rfl⟩
     go_wp2_with fail
     refine I3.out.mono ?_
     rintro r w' ⟨rfl, rfl⟩
     go_wp2_with fail
     refine I2.out.mono ?_
     rintro r w' ⟨rfl, rfl⟩
     go_wp2_with fail
     refine EN.out.mono ?_
     rintro r w' hd
     have DD := hid hd
     clear hd EN
     obtain ⟨ev, tg, rfl, _, _, _⟩ := DD.out
     go_wp2_with fail
     go_ret
     exact DD.out.pre B0.out
 ·rw [eV_n e1] at TH
  clear e1
  generalize thE p x 4 = v at *
  go_wp2_with fail
  refine TH.out.mono ?_
  rintro r w' ⟨rfl, rfl⟩
  go_wp2_with fail
  go_ret
  exact DoA.no B0.out
end Go.Proofs.YtkocmkaeaagbaaaGreatDoor.Wd
namespace Go.Proofs.YtkocmkaeaagbaaaGreatDoor.Hd2
open Go.RowKit Go.Proofs.YtkocmkaeaagbaaaGreatDoor.Mem
/-- The first n1 operations have no guard, hang on earlier ones alone, and leave their values in slots of their own, below N; each later one waits for all of them. -/
def headOk (md : Region.Mode) (ops : Array Oper) (n1 N : Nat) : Bool :=
 decide (n1 ≤ ops.size) && (List.range ops.size).all fun i => match ops[i]? with
  | none => true
  | some o => if i < n1 then o.guard.isNone && o.after.all (fun e => decide (e.on < i)) && (match o.dst with | none => false | some d => decide (d < N) && (List.range i).all fun j => (ops[j]?).bind (·.dst) != some d)
   else (List.range n1).all fun j => o.after.any fun e => Region.binds md e && e.on == j
/-- How many of the first n are not listed. -/
def left (listed : Array Bool) : Nat → Nat
 | 0 => 0
 | n + 1 => left listed n + (if listed.getD n false = true then 0 else 1)
theorem getD_set {l : Array Bool} {i j : Nat} (hi : i < l.size) : (l.setIfInBounds i true).getD j false = if j = i then true else l.getD j false := by
 simp only [Array.getD_eq_getD_getElem?, Array.getElem?_setIfInBounds]
 by_cases h : i = j
 ·subst h; simp [hi]
 ·have : ¬ j = i := fun e => h e.symm
  simp [h, this]
theorem left_above {l : Array Bool} {i : Nat} (hi : i < l.size) : ∀ n, n ≤ i → left (l.setIfInBounds i true) n = left l n
 | 0, _ => rfl
 | n + 1, h => by
  have e : ¬ n = i := by omega
  simp only [left]
  rw [left_above hi n (by omega), getD_set hi, if_neg e]
theorem left_set {l : Array Bool} {i : Nat} (hi : i < l.size) (hf : l.getD i false = false) : ∀ n, i < n → left (l.setIfInBounds i true) n + 1 = left l n
 | 0, h => by omega
 | n + 1, h => by
  simp only [left]
  rw [getD_set hi]
  by_cases e : n = i
  ·subst e
   rw [left_above hi n (Nat.le_refl _), if_pos rfl, hf]
   simp
  ·rw [if_neg e]
   have := left_set hi hf n (by omega)
   omega
theorem left_zero {l : Array Bool} : ∀ n, left l n = 0 → ∀ j, j < n → l.getD j false = true
 | 0, _, j, hj => by omega
 | n + 1, h, j, hj => by
  simp only [left] at h
  by_cases e : j = n
  ·subst e
   by_cases hl : l.getD j false = true
   ·exact hl
   ·rw [if_neg hl] at h; omega
  ·exact left_zero n (by omega) j (by omega)
theorem left_first {l : Array Bool} : ∀ n, left l n ≠ 0 → ∃ j, j < n ∧ l.getD j false = false ∧ ∀ k, k < j → l.getD k false = true
 | 0, h => absurd rfl h
 | n + 1, h => by
  by_cases h0 : left l n = 0
  ·refine ⟨n, by omega, ?_, left_zero n h0⟩
   simp only [left, h0] at h
   by_cases hl : l.getD n false = true
   ·rw [if_pos hl] at h; exact absurd rfl h
   ·simpa using hl
  ·obtain ⟨j, h1, h2, h3⟩ := left_first n h0
   exact ⟨j, by omega, h2, h3⟩
/-- Where the first operations have come to. -/
structure Hd (ops : Array Oper) (n1 : Nat) (F : Nat → Bool) (R : Nat → Value → World → Prop) (w0 : World) (a0 : Act) (listed : Array Bool) (a : Act) (w : World) : Prop where
 sz : listed.size = ops.size
 tail : ∀ i, n1 ≤ i → listed.getD i false = false
 bel : Below w0.heap.size w0 w
 df : a.defers = a0.defers
 ts : a.tmps.size = a0.tmps.size
 got : ∀ i o d, ops[i]? = some o → o.dst = some d → listed.getD i false = true → R i (a.tmps.getD d undef) w
 old : ∀ s, (∀ i o, i < n1 → ops[i]? = some o → o.dst ≠ some s) → a.tmps.getD s undef = a0.tmps.getD s undef
 dj : ∀ i j o o' d d', ops[i]? = some o → o.dst = some d → ops[j]? = some o' → o'.dst = some d' → listed.getD i false = true → listed.getD j false = true → F i = true → F j = true → i ≠ j → ∀ k, (a.tmps.getD d undef).ownBlock = some k → (a.tmps.getD d' undef).ownBlock ≠ some k
theorem all_range {n : Nat} {p : Nat → Bool} (h : (List.range n).all p = true) {i : Nat} (hi : i < n) : p i = true := List.all_eq_true.1 h i (List.mem_range.2 hi)
theorem Hd.oldB {ops : Array Oper} {n1 : Nat} {F : Nat → Bool} {R : Nat → Value → World → Prop} {w0 : World} {a0 : Act} {listed : Array Bool} {a : Act} {w : World} (h : Hd ops n1 F R w0 a0 listed a w) (s : Nat) (hs : ((List.range n1).all fun i => (ops[i]?).bind (·.dst) != some s) = true) : a.eval (.tmp s) = a0.eval (.tmp s) :=
 h.old s fun i o hi ho e => by
  have := all_range hs hi
  rw [ho] at this
  simp [e] at this
theorem Hd.gotB {ops : Array Oper} {n1 : Nat} {F : Nat → Bool} {R : Nat → Value → World → Prop} {w0 : World} {a0 : Act} {listed : Array Bool} {a : Act} {w : World} (h : Hd ops n1 F R w0 a0 listed a w) (i d : Nat) (hs : (ops[i]?).bind (·.dst) = some d) (hl : listed.getD i false = true) : R i (a.eval (.tmp d)) w := by
 cases ho : ops[i]? with
 | none => rw [ho] at hs; cases hs
 | some o => rw [ho] at hs; exact h.got i o d ho hs hl
section
variable {P : Program} {md : Region.Mode} {ops : Array Oper} {Q : Exit → Act → World → Prop} {n1 N : Nat} {F : Nat → Bool} {R : Nat → Value → World → Prop} {w0 : World} {a0 : Act}
theorem headOk_at (h : headOk md ops n1 N = true) {i : Nat} {o : Oper} (ho : ops[i]? = some o) :
  (i < n1 → o.guard = none ∧ (∀ e ∈ o.after, e.on < i) ∧ ∃ d, o.dst = some d ∧ d < N ∧ ∀ j o', j < i → ops[j]? = some o' → o'.dst ≠ some d) ∧
  (n1 ≤ i → ∀ j, j < n1 → ∃ e ∈ o.after, Region.binds md e = true ∧ e.on = j) := by
 unfold headOk at h
 rw [Bool.and_eq_true] at h
 have hi : i < ops.size := (Array.getElem?_eq_some_iff.1 ho).1
 have := all_range h.2 hi
 rw [ho] at this
 simp only at this
 constructor
 ·intro hlt
  rw [if_pos hlt] at this
  simp only [Bool.and_eq_true, Option.isNone_iff_eq_none, Array.all_eq_true'] at this
  obtain ⟨⟨h1, h2⟩, h3⟩ := this
  refine ⟨h1, fun e he => by simpa using h2 e he, ?_⟩
  cases hd : o.dst with
  | none => rw [hd] at h3; simp at h3
  | some d =>
   rw [hd] at h3
   simp only [Bool.and_eq_true, decide_eq_true_eq] at h3
   refine ⟨d, rfl, h3.1, fun j o' hj ho' e => ?_⟩
   have := all_range h3.2 hj
   rw [ho'] at this
   simp [e] at this
 ·intro hge j hj
  rw [if_neg (by omega)] at this
  have := all_range this hj
  rw [Array.any_eq_true'] at this
  obtain ⟨e, he, h4⟩ := this
  rw [Bool.and_eq_true] at h4
  exact ⟨e, he, h4.1, by simpa using h4.2⟩
theorem ready_mem {listed : Array Bool} {i : Nat} (h : i ∈ Region.ready md ops listed) : ∃ o, ops[i]? = some o ∧ i < ops.size ∧ listed.getD i true = false ∧ ∀ e ∈ o.after, Region.binds md e = true → listed.getD e.on false = true := by
 unfold Region.ready at h
 obtain ⟨h1, h2⟩ := List.mem_filter.1 h
 have hi := List.mem_range.1 h1
 rw [Bool.and_eq_true] at h2
 obtain ⟨h3, h4⟩ := h2
 have ho : ops[i]? = some ops[i] := Array.getElem?_eq_getElem hi
 rw [ho] at h4
 simp only [Option.map_some, Option.getD_some, Array.all_eq_true'] at h4
 refine ⟨ops[i], ho, hi, by simpa using h3, fun e he hb => ?_⟩
 have := h4 e he
 simpa [hb] using this
theorem mem_ready {listed : Array Bool} {i : Nat} {o : Oper} (ho : ops[i]? = some o) (hl : listed.getD i true = false) (hd : ∀ e ∈ o.after, listed.getD e.on false = true) : i ∈ Region.ready md ops listed := by
 unfold Region.ready
 refine List.mem_filter.2 ⟨List.mem_range.2 (Array.getElem?_eq_some_iff.1 ho).1, ?_⟩
 rw [ho, hl]
 simp only [Bool.not_false, Bool.true_and, Option.map_some, Option.getD_some, Array.all_eq_true']
 intro e he
 simp [hd e he]
theorem getD_tf {l : Array Bool} {i : Nat} (h : i < l.size) : l.getD i true = l.getD i false := by
 simp [Array.getD_eq_getD_getElem?, h]
theorem wpAny_head (hok : headOk md ops n1 N = true) (hN : N ≤ a0.tmps.size) (E : Array Bool) (hE : E.size = ops.size) (hEi : ∀ i, i < ops.size → E.getD i false = decide (i < n1))
  (hmono : ∀ i v w w', Below w.heap.size w w' → R i v w → R i v w') (hlt : ∀ i v w, F i = true → R i v w → ∀ k, v.ownBlock = some k → k < w.heap.size)
  (hstep : ∀ i o, i < n1 → ops[i]? = some o → ∀ listed a w, Hd ops n1 F R w0 a0 listed a w → (∀ e ∈ o.after, Region.binds md e = true → listed.getD e.on false = true) → o.wp P a w (fun a' w' => ∃ v, a' = a.put o.dst v ∧ R i v w' ∧ Below w.heap.size w w' ∧ (F i = true → ∀ k, v.ownBlock = some k → w.heap.size ≤ k)) Q)
  (hend : ∀ a w, Hd ops n1 F R w0 a0 E a w → wpAny P md ops Q (ops.size - n1) E a w) :
  ∀ k listed a w, left listed n1 = k → Hd ops n1 F R w0 a0 listed a w → wpAny P md ops Q (k + (ops.size - n1)) listed a w := by
 have hn1 : n1 ≤ ops.size := by
  unfold headOk at hok
  rw [Bool.and_eq_true] at hok
  simpa using hok.1
 intro k
 induction k with
 | zero =>
  intro listed a w hk h
  have he : listed = E := by
   apply Array.ext
   ·rw [h.sz, hE]
   ·intro i h1 h2
    have e1 : listed.getD i false = listed[i] := by simp [Array.getD_eq_getD_getElem?, h1]
    have e2 : E.getD i false = E[i] := by simp [Array.getD_eq_getD_getElem?, h2]
    rw [← e1, ← e2, hEi i (by omega)]
    by_cases hi : i < n1
    ·rw [left_zero n1 hk i hi, decide_eq_true hi]
    ·rw [h.tail i (by omega), decide_eq_false hi]
  subst he
  rw [Nat.zero_add]
  exact hend a w h
 | succ k ih =>
  intro listed a w hk h
  rw [show k + 1 + (ops.size - n1) = (k + (ops.size - n1)) + 1 by omega]
  obtain ⟨j, j1, j2, j3⟩ := left_first (l := listed) n1 (by omega)
  have hj : j < ops.size := by omega
  have hjr : j ∈ Region.ready md ops listed := by
   have ho : ops[j]? = some ops[j] := Array.getElem?_eq_getElem hj
   refine mem_ready ho (by rw [getD_tf (by rw [h.sz]; exact hj)]; exact j2) fun e he => ?_
   exact j3 _ (((headOk_at hok ho).1 j1).2.1 e he)
  refine ⟨fun hr => by rw [hr] at hjr; simp at hjr, fun i hi => ?_⟩
  obtain ⟨o, ho, hi2, hl, hd⟩ := ready_mem hi
  rw [getD_tf (by rw [h.sz]; exact hi2)] at hl
  have hin : i < n1 := by
   rcases Nat.lt_or_ge i n1 with h1 | h1
   ·exact h1
   ·obtain ⟨e, he, hb, hon⟩ := (headOk_at hok ho).2 h1 j j1
    have := hd e he hb
    rw [hon, j2] at this
    cases this
  obtain ⟨hg, _, d, hdst, hdN, hdj⟩ := (headOk_at hok ho).1 hin
  unfold wpOp
  rw [ho]
  simp only
  rw [if_pos (by unfold Region.wanted; rw [hg])]
  refine Or.inl (Oper.wp_mono (fun a' w' hv => ?_) (hstep i o hin ho listed a w h hd))
  obtain ⟨v, rfl, hR, hb, hfr⟩ := hv
  refine ih (listed.setIfInBounds i true) (a.put o.dst v) w' (by have := left_set (by rw [h.sz]; exact hi2) hl n1 hin; omega) ?_
  have hda : d < a.tmps.size := by
   rw [h.ts]
   exact Nat.lt_of_lt_of_le hdN hN
  have hput : ∀ s, (a.put o.dst v).tmps.getD s undef = if s = d then v else a.tmps.getD s undef := by
   intro s
   rw [hdst]
   simp only [Act.put, Array.getD_eq_getD_getElem?, Array.getElem?_setIfInBounds]
   by_cases e : d = s
   ·subst e; simp [hda]
   ·have : ¬ s = d := fun x => e x.symm
    simp [e, this]
  refine ⟨by rw [Array.size_setIfInBounds]; exact h.sz, fun i' hi' => ?_, h.bel.trans (hb.mono h.bel.size), by rw [hdst]; exact h.df, by rw [hdst]; simp only [Act.put, Array.size_setIfInBounds]; exact h.ts, fun i' o' d' ho' hd' hl' => ?_, fun s hs => ?_, fun i1 j1' o1 o2 d1 d2 ho1 hd1 ho2 hd2 hl1 hl2 hf1 hf2 hne k hk1 hk2 => ?_⟩
  ·rw [getD_set (by rw [h.sz]; exact hi2), if_neg (by omega)]
   exact h.tail i' hi'
  ·rw [getD_set (by rw [h.sz]; exact hi2)] at hl'
   by_cases e : i' = i
   ·subst e
    obtain rfl := Option.some.inj (ho.symm.trans ho')
    obtain rfl := Option.some.inj (hdst.symm.trans hd')
    rw [hput, if_pos rfl]
    exact hR
   ·rw [if_neg e] at hl'
    have hi'n : i' < n1 := by
     rcases Nat.lt_or_ge i' n1 with h1 | h1
     ·exact h1
     ·rw [h.tail i' h1] at hl'; cases hl'
    have hne : ¬ d' = d := by
     rintro rfl
     rcases Nat.lt_or_gt_of_ne e with h1 | h1
     ·exact hdj i' o' h1 ho' hd'
     ·obtain ⟨_, _, d2, hd2, _, hx⟩ := (headOk_at hok ho').1 hi'n
      obtain rfl := Option.some.inj (hd'.symm.trans hd2)
      exact hx i o h1 ho hdst
    rw [hput, if_neg hne]
    exact hmono _ _ _ _ hb (h.got i' o' d' ho' hd' hl')
  ·have hne : ¬ s = d := by
    rintro rfl
    exact hs i o hin ho hdst
   rw [hput, if_neg hne]
   exact h.old s hs
  ·rw [getD_set (by rw [h.sz]; exact hi2)] at hl1 hl2
   have far : ∀ x ox dx, ops[x]? = some ox → ox.dst = some dx → (if x = i then true else listed.getD x false) = true → x ≠ i → listed.getD x false = true ∧ ¬ dx = d := fun x ox dx hox hdx hlx hx => by
    rw [if_neg hx] at hlx
    have hxn : x < n1 := by
     rcases Nat.lt_or_ge x n1 with h1 | h1
     ·exact h1
     ·rw [h.tail x h1] at hlx; cases hlx
    refine ⟨hlx, ?_⟩
    rintro rfl
    rcases Nat.lt_or_gt_of_ne hx with h1 | h1
    ·exact hdj x ox h1 hox hdx
    ·obtain ⟨_, _, d3, hd3, _, hx3⟩ := (headOk_at hok hox).1 hxn
     obtain rfl := Option.some.inj (hdx.symm.trans hd3)
     exact hx3 i o h1 ho hdst
   rw [hput] at hk1 hk2
   by_cases e1 : i1 = i
   ·subst e1
    obtain rfl := Option.some.inj (ho.symm.trans ho1)
    obtain rfl := Option.some.inj (hdst.symm.trans hd1)
    rw [if_pos rfl] at hk1
    obtain ⟨hlx, hdx⟩ := far j1' o2 d2 ho2 hd2 hl2 (Ne.symm hne)
    rw [if_neg hdx] at hk2
    have := hlt j1' _ w hf2 (h.got j1' o2 d2 ho2 hd2 hlx) k hk2
    have := hfr hf1 k hk1
    omega
   ·obtain ⟨hlx, hdx⟩ := far i1 o1 d1 ho1 hd1 hl1 e1
    rw [if_neg hdx] at hk1
    by_cases e2 : j1' = i
    ·subst e2
     obtain rfl := Option.some.inj (ho.symm.trans ho2)
     obtain rfl := Option.some.inj (hdst.symm.trans hd2)
     rw [if_pos rfl] at hk2
     have := hlt i1 _ w hf1 (h.got i1 o1 d1 ho1 hd1 hlx) k hk1
     have := hfr hf2 k hk2
     omega
    ·obtain ⟨hly, hdy⟩ := far j1' o2 d2 ho2 hd2 hl2 e2
     rw [if_neg hdy] at hk2
     exact h.dj i1 j1' o1 o2 d1 d2 ho1 hd1 ho2 hd2 hlx hly hf1 hf2 hne k hk1 hk2
theorem repl_getD (n k : Nat) : (Array.replicate n false).getD k false = false := by
 rw [Array.getD_eq_getD_getElem?, Array.getElem?_replicate]
 split <;> rfl
theorem left_none (n : Nat) : ∀ k, k ≤ n → left (Array.replicate n false) k = k
 | 0, _ => rfl
 | k + 1, h => by
  simp only [left]
  rw [left_none n k (by omega), repl_getD]
  simp
/-- The region whole. -/
theorem wp_head {id : Nat} {a : Act} {w : World} (hm : P.follows .mixedOrders = true) (hok : headOk .any ops n1 N = true) (hN : N ≤ a.tmps.size) (E : Array Bool) (hE : E.size = ops.size) (hEi : ∀ i, i < ops.size → E.getD i false = decide (i < n1))
  (hmono : ∀ i v w w', Below w.heap.size w w' → R i v w → R i v w') (hlt : ∀ i v w, F i = true → R i v w → ∀ k, v.ownBlock = some k → k < w.heap.size)
  (hstep : ∀ i o, i < n1 → ops[i]? = some o → ∀ listed a' w', Hd ops n1 F R w.drew a listed a' w' → (∀ e ∈ o.after, Region.binds .any e = true → listed.getD e.on false = true) → o.wp P a' w' (fun a2 w2 => ∃ v, a2 = a'.put o.dst v ∧ R i v w2 ∧ Below w'.heap.size w' w2 ∧ (F i = true → ∀ k, v.ownBlock = some k → w'.heap.size ≤ k)) Q)
  (hend : ∀ a' w', Hd ops n1 F R w.drew a E a' w' → wpAny P .any ops Q (ops.size - n1) E a' w') : (Code.region id ops true).wp P Q a w := by
 have hn1 : n1 ≤ ops.size := by
  unfold headOk at hok
  rw [Bool.and_eq_true] at hok
  simpa using hok.1
 refine wp_region_any hm ?_
 have := wpAny_head hok hN E hE hEi hmono hlt hstep hend n1 (Array.replicate ops.size false) a w.drew (left_none ops.size n1 hn1)
  ⟨by simp, fun i _ => repl_getD _ _, Below.refl _ _, rfl, rfl, fun i o d _ _ hl => (by rw [repl_getD] at hl; cases hl), fun s _ => rfl, fun i j o o' d d' _ _ _ _ hl => (by rw [repl_getD] at hl; cases hl)⟩
 rw [show n1 + (ops.size - n1) = ops.size by omega] at this
 exact this
end
end Go.Proofs.YtkocmkaeaagbaaaGreatDoor.Hd2
namespace Go.Proofs.YtkocmkaeaagbaaaGreatDoor.Wd
open Go.RowKit Go.Proofs.YtkocmkaeaagbaaaGreatDoor.Mem Go.Proofs.YtkocmkaeaagbaaaGreatDoor.Bw Go.Proofs.YtkocmkaeaagbaaaGreatDoor.Nums Go.Proofs.YtkocmkaeaagbaaaGreatDoor.Mmu
/-- Of a world's lists: an element's type, its cells. -/
def wE : Nat → TypeId
 | 2 => 45
 | 3 => 68
 | 4 => 22
 | 7 => 22
 | 8 => 70
 | _ => 3
def wS : Nat → Nat
 | 2 => 7
 | 3 => 20
 | _ => 1
def ud {α : Type} (f : Nat → α) (i : Nat) (v : α) : Nat → α := fun j => if j = i then v else f j
/-- Ten lists of one's own, apart from each other and from the box x. -/
structure Wr (W : World) (B x : Nat) (X : Nat → Value) (nn : Nat → Nat) (c : Nat → List Value) : Prop where
 lt : x < W.heap.size
 own : ∀ i, i < 10 → W.ownsRow B (wE i) (wS i) (X i) (nn i) (c i)
 dj : ∀ i j, i < 10 → j < 10 → i ≠ j → ∀ k, (X i).ownBlock = some k → (X j).ownBlock ≠ some k
 nx : ∀ i, i < 10 → (X i).ownBlock ≠ some x
theorem Wr.kp {W W' : World} {T : Nat → Prop} {B x : Nat} {X : Nat → Value} {nn : Nat → Nat} {c : Nat → List Value} (h : Wr W B x X nn c) (hk : Kp T W W') (hn : ∀ i, i < 10 → ∀ k, (X i).ownBlock = some k → ¬ T k) : Wr W' B x X nn c :=
 ⟨Nat.lt_of_lt_of_le h.lt hk.size, fun i hi => own_kp (h.own i hi) hk (hn i hi), h.dj, h.nx⟩
/-- .. in their box. -/
structure Wb (W : World) (B x : Nat) (X : Nat → Value) (nn : Nat → Nat) (c : Nat → List Value) : Prop where
 r : Wr W B x X nn c
 b : W.rangeAt x 0 (arr11 X).toList
 t : W.there x 0 11
theorem Wb.next {W W' : World} {B x : Nat} {X : Nat → Value} {nn : Nat → Nat} {c : Nat → List Value} (h : Wb W B x X nn c) (hb : Below W.heap.size W W') : Wb W' B x X nn c :=
 ⟨h.r.kp (T := fun _ => False) (.of_below hb) (fun _ _ _ _ => id), range_kp h.b (T := fun _ => False) (.of_below hb) id, there_kp h.t (T := fun _ => False) (.of_below hb) id⟩
theorem arr11_ud (X : Nat → Value) (i : Nat) (hi : i < 10) (v : Value) : (arr11 X).toList.set i v = (arr11 (ud X i v)).toList := by
 match i, hi with
 | 0, _ => rfl
 | 1, _ => rfl
 | 2, _ => rfl
 | 3, _ => rfl
 | 4, _ => rfl
 | 5, _ => rfl
 | 6, _ => rfl
 | 7, _ => rfl
 | 8, _ => rfl
 | 9, _ => rfl
 | _ + 10, h => omega
/-- A list has grown, and its variable is told. -/
theorem Wb.put {W w' : World} {B x : Nat} {X : Nat → Value} {nn : Nat → Nat} {c : Nat → List Value} (h : Wb W B x X nn c) {i : Nat} (hi : i < 10) {v : Value} {nn' : Nat → Nat} {c' : Nat → List Value} (hr : Wr w' B x (ud X i v) nn' c') (hk : Kp (fun k => (X i).ownBlock = some k) W w') :
  Wb (w'.setCell ⟨x, i, none⟩ v) B x (ud X i v) nn' c' ∧ Kp (fun k => (X i).ownBlock = some k ∨ k = x) W (w'.setCell ⟨x, i, none⟩ v) := by
 have k2 := (Kp.refl (fun k => k = x) w').setCell (b := x) (o := i) (Or.inl rfl) v
 refine ⟨⟨hr.kp k2 fun j hj k hk e => ?_, ?_, ?_⟩, (hk.wider fun k _ e => .inl e).trans (k2.wider fun k _ e => .inr e)⟩
 ·subst e; exact hr.nx j hj hk
 ·have r1 := range_kp h.b hk (h.r.nx i hi)
  rw [← arr11_ud X i hi v]
  exact range_set r1 (by show i < 11; omega) v
 ·exact there_set (there_kp h.t hk (h.r.nx i hi)) _ v
/-- What a world's lists hold. -/
def wN (p : PW) : Nat → Nat
 | 0 => p.ram.length
 | 1 => p.kinds.length
 | 2 => p.slots.length
 | 3 => p.tasks.length
 | 4 => p.lines.length
 | 5 => p.bits.length
 | 6 => p.cores.length
 | 7 => p.ready.length
 | 8 => p.tlbs.length
 | 9 => p.doms.length
 | _ => 0
def wC (p : PW) : Nat → List Value
 | 0 => ints p.ram
 | 1 => ints p.kinds
 | 2 => rowsC 7 p.slots
 | 3 => rowsC 20 p.tasks
 | 4 => List.replicate p.lines.length (.slice none 0 0)
 | 5 => ints p.bits
 | 6 => ints p.cores
 | 7 => List.replicate p.ready.length (.slice none 0 0)
 | 8 => List.replicate p.tlbs.length (.slice none 0 0)
 | 9 => ints p.doms
 | _ => []
def tagN' (X : Nat → Value) (k : Nat) : Nat → Nat
 | 0 => 0
 | n + 1 => if (X n).ownBlock = some k then n + 2 else tagN' X k n
def tagW (X : Nat → Value) (x k : Nat) : Nat := if k = x then 1 else tagN' X k 10
theorem tagN_at {X : Nat → Value} {k i : Nat} (hk : (X i).ownBlock = some k) : ∀ n, i < n → (∀ j, j < n → j ≠ i → (X j).ownBlock ≠ some k) → tagN' X k n = i + 2
 | 0, h, _ => by omega
 | n + 1, h, hd => by
  unfold tagN'
  by_cases e : n = i
  ·subst e; rw [if_pos hk]
  ·rw [if_neg (hd n (by omega) e)]
   exact tagN_at hk n (by omega) fun j hj hji => hd j (by omega) hji
theorem Wr.tag {W : World} {B x : Nat} {X : Nat → Value} {nn : Nat → Nat} {c : Nat → List Value} (h : Wr W B x X nn c) {i : Nat} (hi : i < 10) {k : Nat} (hk : (X i).ownBlock = some k) : tagW X x k = i + 2 := by
 unfold tagW
 rw [if_neg (show ¬ k = x from fun e => h.nx i hi (by rw [← e]; exact hk))]
 exact tagN_at hk 10 hi fun j hj hji => h.dj i j hi hj (Ne.symm hji) k hk
theorem own_0 {W : World} {B e size n : Nat} {v : Value} {xs : List Value} (h : W.ownsRow B e size v n xs) : W.ownsRow 0 e size v n xs := by
 refine ⟨h.1, ?_⟩
 rcases h.2 with h2 | ⟨g, cap, cur, rfl, h3, h4, h5⟩
 ·exact .inl h2
 ·exact .inr ⟨g, cap, cur, rfl, Nat.zero_le _, h4, h5⟩
theorem nils_in {w : World} {tag : Nat → Nat} {t O I s n g : Nat} {i : Nat} {v : Value} {cc : Nat → Nat × List Value} (hv : v = .slice (some ⟨g, 0, none⟩) n n) (ht : tag g = t) (ho : w.ownsRow 0 O 1 v n (List.replicate n (.slice none 0 0))) (hc : ∀ j, j < n → cc j = (0, [])) : ListT w tag t i O I s n v cc := by
 subst hv
 refine ⟨g, List.replicate n (.slice none 0 0), rfl, ht, by simp, ho, fun j hj => ?_⟩
 have hj2 : j < n := by simpa using hj
 rw [hc j hj2, List.getElem_replicate]
 exact ⟨World.ownsRow_nil _ _ _ _, fun k e => by cases e⟩
/-- At the end: the world in its box. -/
theorem Wb.box {W : World} {B x : Nat} {X : Nat → Value} {p : PW} (h : Wb W B x X (wN p) (wC p)) (h4 : ∃ g, X 4 = .slice (some ⟨g, 0, none⟩) p.lines.length p.lines.length) (h7 : ∃ g, X 7 = .slice (some ⟨g, 0, none⟩) p.ready.length p.ready.length) (h8 : ∃ g, X 8 = .slice (some ⟨g, 0, none⟩) p.tlbs.length p.tlbs.length) (ht : X 10 = .int .i64 p.time)
  (l4 : ∀ l ∈ p.lines, l = []) (l7 : ∀ l ∈ p.ready, l = []) (l8 : ∀ l ∈ p.tlbs, l = []) : BoxT W x (tagW X x) X p := by
 have own := fun i (hi : i < 10) => own_0 (h.r.own i hi)
 have tg := fun i (hi : i < 10) k (e : (X i).ownBlock = some k) => h.r.tag hi e
 obtain ⟨g4, e4⟩ := h4
 obtain ⟨g7, e7⟩ := h7
 obtain ⟨g8, e8⟩ := h8
 refine ⟨h.b, h.t, if_pos rfl, ⟨⟨own 0 (by omega), tg 0 (by omega)⟩, ⟨own 1 (by omega), tg 1 (by omega)⟩, ⟨own 2 (by omega), tg 2 (by omega)⟩, ⟨own 3 (by omega), tg 3 (by omega)⟩, nils_in e4 (tg 4 (by omega) g4 (by rw [e4]; rfl)) (own 4 (by omega)) fun j hj => ?_, ⟨own 5 (by omega), tg 5 (by omega)⟩, ⟨own 6 (by omega), tg 6 (by omega)⟩, nils_in e7 (tg 7 (by omega) g7 (by rw [e7]; rfl)) (own 7 (by omega)) fun j hj => ?_, nils_in e8 (tg 8 (by omega) g8 (by rw [e8]; rfl)) (own 8 (by omega)) fun j hj => ?_, ⟨own 9 (by omega), tg 9 (by omega)⟩, ht⟩⟩
 ·unfold ci; rw [List.getD_eq_getElem?_getD, List.getElem?_eq_getElem hj]; rw [show (some p.lines[j]).getD [] = [] from l4 _ (List.getElem_mem hj)]; rfl
 ·unfold ci; rw [List.getD_eq_getElem?_getD, List.getElem?_eq_getElem hj]; rw [show (some p.ready[j]).getD [] = [] from l7 _ (List.getElem_mem hj)]; rfl
 ·unfold ce; rw [List.getD_eq_getElem?_getD, List.getElem?_eq_getElem hj]; rw [show (some p.tlbs[j]).getD [] = [] from l8 _ (List.getElem_mem hj)]; rfl
end Go.Proofs.YtkocmkaeaagbaaaGreatDoor.Wd
