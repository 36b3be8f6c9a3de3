/- Regions that draw their order, read, and in the end write into what they read: reading operations taken in one group. -/
import Derived.Test.YtakmaeohhclngaaGreatDoorProg
import Derived.Deep.RegionHeld3
namespace Go.Proofs.YtakmaeohhclngaaGreatDoor.Rf
section
variable {P : Program} {ops : Array Oper} {Q : Exit → Act → World → Prop} {md : Region.Mode} {S R : World → Prop} {fs : List Nat}
/-- None of the last operations has come up. -/
def clean (fs : List Nat) (listed : Array Bool) : Bool := fs.all fun f => !(listed.getD f true)
/-- Each of the last operations waits for this one. -/
def waits (md : Region.Mode) (ops : Array Oper) (fs : List Nat) (i : Nat) : Bool := fs.all fun f => match ops[f]? with
 | some o => o.after.any fun e => Region.binds md e && e.on == i
 | none => false
theorem clean_set {i : Nat} {listed : Array Bool} (hi : fs.contains i = false) : clean fs (listed.setIfInBounds i true) = clean fs listed := by
 have hn : ∀ f ∈ fs, i ≠ f := fun f hf e => by
  subst e
  have : fs.contains i = true := by simpa using hf
  rw [this] at hi
  cases hi
 unfold clean
 rw [Bool.eq_iff_iff, List.all_eq_true, List.all_eq_true]
 exact ⟨fun h f hf => by have := h f hf; rwa [getD_set_ne true (hn f hf)] at this, fun h f hf => by rw [getD_set_ne true (hn f hf)]; exact h f hf⟩
theorem notClean {listed : Array Bool} {X : Prop} (h : clean fs listed = false) : clean fs listed = true → X := fun e => by rw [h] at e; cases e
/-- Whatever order is picked from here on; S holds behind each operation, and R as long as none of the last ones has come up. -/
def wpAnyF (P : Program) (md : Region.Mode) (ops : Array Oper) (Q : Exit → Act → World → Prop) (S R : World → Prop) (fs : List Nat) : Nat → Array Bool → Act → World → Prop
 | 0, listed, a, w => Region.ready md ops listed = [] ∧ Q .normal a w
 | fuel + 1, listed, a, w =>
  (Region.ready md ops listed = [] → Q .normal a w) ∧
  ∀ i ∈ Region.ready md ops listed, wpOp P ops Q i (fun a' w' => (S w' ∧ (clean fs (listed.setIfInBounds i true) = true → R w')) ∧ wpAnyF P md ops Q S R fs fuel (listed.setIfInBounds i true) a' w') a w
theorem wpAny_of_F : ∀ (fuel : Nat) (listed : Array Bool) (a : Act) (w : World), wpAnyF P md ops Q S R fs fuel listed a w → wpAny P md ops Q fuel listed a w
 | 0, _, _, _, h => h
 | fuel + 1, _, _, _, h => ⟨h.1, fun i hi => wpOp_mono (fun a' w' h' => wpAny_of_F fuel _ a' w' h'.2) (h.2 i hi)⟩
theorem wpAnyF_first {i : Nat} {oi : Oper} {v : Value} {r : Bool} (hi : ops[i]? = some oi) (hsel : ∀ (j : Nat) (o : Oper) cs b, ops[j]? = some o → o.op ≠ .select cs b)
  (hQ : ∀ c a w, Q (.panic c) (a.put oi.dst v) w → Q (.panic c) a w) (hif : fs.contains i = false) (hw : r = true → waits md ops fs i = true) :
  ∀ (fuel : Nat) (listed : Array Bool) (a : Act) (w : World),
   (∀ j oj, ops[j]? = some oj → j ≠ i → listed.getD j true = false → (∀ e ∈ oj.after, Region.binds md e = true → e.on ≠ i) → oi.apart ops oj = true) →
   i ∈ Region.ready md ops listed → (r = true → clean fs listed = true) → YieldsIf P ops (fun w => S w ∧ (r = true → R w)) oi v a → S w → (r = true → R w) → (clean fs listed = true → R w) →
   wpAnyF P md ops Q S R fs fuel (listed.setIfInBounds i true) (a.put oi.dst v) w → wpAnyF P md ops Q S R fs (fuel + 1) listed a w := by
 intro fuel
 induction fuel with
 | zero =>
  intro listed a w _ hr _ hy hS hR hC H
  refine ⟨fun h => (by rw [h] at hr; cases hr), fun j hj => ?_⟩
  by_cases hji : j = i
  ·subst hji; exact hy.wpOp hi ⟨hS, hR⟩ ⟨⟨hS, fun h => hC (by rwa [clean_set hif] at h)⟩, H⟩
  ·have := ready_mono hj hji
   rw [H.1] at this
   cases this
 | succ fuel ih =>
  intro listed a w hfree hr hcl hy hS hR hC H
  refine ⟨fun h => (by rw [h] at hr; cases hr), fun j hj => ?_⟩
  by_cases hji : j = i
  ·subst hji; exact hy.wpOp hi ⟨hS, hR⟩ ⟨⟨hS, fun h => hC (by rwa [clean_set hif] at h)⟩, H⟩
  ·have h1 := H.2 j (ready_mono hj hji)
   obtain ⟨hjun, oj, hoj, hall⟩ := mem_ready.1 hj
   have hnot : ∀ e ∈ oj.after, Region.binds md e = true → e.on ≠ i := fun e he hb heq => by
    have h1 := hall e he hb
    have h0 := (mem_ready.1 hr).1
    rw [heq] at h1
    rcases Nat.lt_or_ge i listed.size with h' | h'
    ·simp [h'] at h0 h1; rw [h0] at h1; cases h1
    ·simp [Array.getElem?_eq_none h'] at h1
   have hjf : r = true → fs.contains j = false := fun hr1 => by
    cases hc : fs.contains j with
    | false => rfl
    | true =>
     have hj1 : j ∈ fs := by simpa using hc
     have hww := hw hr1
     unfold waits at hww
     rw [List.all_eq_true] at hww
     have h2 := hww j hj1
     rw [hoj] at h2
     obtain ⟨e, he, hb⟩ := Array.any_eq_true'.1 h2
     simp only [Bool.and_eq_true, beq_iff_eq] at hb
     exact absurd hb.2 (hnot e he hb.1)
   have h2 := wpOp_putIf hoj (hfree j oj hoj hji hjun hnot) (fun cs b => hsel i oi cs b hi) (fun cs b => hsel j oj cs b hoj) hQ hy h1
   have hfree' : ∀ k ok, ops[k]? = some ok → k ≠ i → (listed.setIfInBounds j true).getD k true = false →
     (∀ e ∈ ok.after, Region.binds md e = true → e.on ≠ i) → oi.apart ops ok = true := fun k ok hk hki hun hno => by
    refine hfree k ok hk hki ?_ hno
    by_cases hjk : j = k
    ·subst hjk; exact hjun
    ·rw [getD_set_ne true hjk] at hun; exact hun
   have hset : clean fs ((listed.setIfInBounds i true).setIfInBounds j true) = clean fs (listed.setIfInBounds j true) := by
    rw [Array.setIfInBounds_comm _ _ (Ne.symm hji), clean_set hif]
   refine wpOp_mono (fun a' w' h3 => ?_) h2
   have hRj : clean fs (listed.setIfInBounds j true) = true → R w' := fun h => h3.2.1.2 (by rw [hset]; exact h)
   have hclj : r = true → clean fs (listed.setIfInBounds j true) = true := fun hr1 => by rw [clean_set (hjf hr1)]; exact hcl hr1
   refine ⟨⟨h3.2.1.1, hRj⟩, ih (listed.setIfInBounds j true) a' w' hfree' (ready_mono hr (Ne.symm hji)) hclj h3.1 h3.2.1.1 (fun hr1 => hRj (hclj hr1)) hRj ?_⟩
   rw [Array.setIfInBounds_comm _ _ hji]
   exact h3.2.2
/-- Take an operation first that yields its value wherever S holds. -/
theorem wpAnyF_take {i : Nat} {oi : Oper} {v : Value} {fuel : Nat} {listed : Array Bool} {a : Act} {w : World} (hi : ops[i]? = some oi)
  (hs : Region.noSelect ops = true) (hf : Region.free md ops listed i = true) (hr : (Region.ready md ops listed).contains i = true) (hif : fs.contains i = false)
  (hQ : ∀ c a w, Q (.panic c) (a.put oi.dst v) w → Q (.panic c) a w) (hy : YieldsIf P ops S oi v a) (hS : S w) (hR : clean fs listed = true → R w)
  (h : wpAnyF P md ops Q S R fs fuel (listed.setIfInBounds i true) (a.put oi.dst v) w) : wpAnyF P md ops Q S R fs (fuel + 1) listed a w :=
 wpAnyF_first (r := false) hi (Region.noSelect_spec hs) hQ hif (fun e => by cases e) fuel listed a w (Region.free_spec hi hf) (by simpa using hr) (fun e => by cases e) (by rcases hy with h | h; exact .inl ⟨h.1, fun w hw => h.2 w hw.1⟩; exact .inr h) hS (fun e => by cases e) hR h
/-- Take an operation first that yields its value wherever S and R hold, and for which the last ones wait. -/
theorem wpAnyF_takeR {i : Nat} {oi : Oper} {v : Value} {fuel : Nat} {listed : Array Bool} {a : Act} {w : World} (hi : ops[i]? = some oi)
  (hs : Region.noSelect ops = true) (hf : Region.free md ops listed i = true) (hr : (Region.ready md ops listed).contains i = true) (hif : fs.contains i = false) (hw : waits md ops fs i = true) (hc : clean fs listed = true)
  (hQ : ∀ c a w, Q (.panic c) (a.put oi.dst v) w → Q (.panic c) a w) (hy : YieldsIf P ops (fun w => S w ∧ R w) oi v a) (hS : S w) (hR : clean fs listed = true → R w)
  (h : wpAnyF P md ops Q S R fs fuel (listed.setIfInBounds i true) (a.put oi.dst v) w) : wpAnyF P md ops Q S R fs (fuel + 1) listed a w :=
 wpAnyF_first (r := true) hi (Region.noSelect_spec hs) hQ hif (fun _ => hw) fuel listed a w (Region.free_spec hi hf) (by simpa using hr) (fun _ => hc) (by rcases hy with h | h; exact .inl ⟨h.1, fun w hw => h.2 w ⟨hw.1, hw.2 rfl⟩⟩; exact .inr h) hS (fun _ => hR hc) hR h
theorem wpAnyF_done {listed : Array Bool} {a : Act} {w : World} (hr : Region.ready md ops listed = []) (h : Q .normal a w) :
  ∀ fuel, wpAnyF P md ops Q S R fs fuel listed a w
 | 0 => ⟨hr, h⟩
 | _ + 1 => ⟨fun _ => h, by rw [hr]; simp⟩
def AllReadyF (P : Program) (md : Region.Mode) (ops : Array Oper) (Q : Exit → Act → World → Prop) (S R : World → Prop) (fs : List Nat) (fuel : Nat) (listed : Array Bool) (a : Act) (w : World) (rs : List Nat) : Prop :=
 ∀ i ∈ rs, wpOp P ops Q i (fun a' w' => (S w' ∧ (clean fs (listed.setIfInBounds i true) = true → R w')) ∧ wpAnyF P md ops Q S R fs fuel (listed.setIfInBounds i true) a' w') a w
theorem AllReadyF.nil {fuel : Nat} {listed : Array Bool} {a : Act} {w : World} : AllReadyF P md ops Q S R fs fuel listed a w [] := fun _ h => by cases h
theorem AllReadyF.cons {fuel : Nat} {listed : Array Bool} {a : Act} {w : World} {i : Nat} {o : Oper} {rs : List Nat} (ho : ops[i]? = some o)
  (h : ∀ K' : Act → World → Prop, Shut (∀ a w, S w → (clean fs (listed.setIfInBounds i true) = true → R w) → (S w → (clean fs (listed.setIfInBounds i true) = true → R w) → wpAnyF P md ops Q S R fs fuel (listed.setIfInBounds i true) a w) → K' a w) → if Region.wanted o (yielded ops a.tmps) = true then Oper.wp P o a w K' Q else K' (a.put o.dst undef) w)
  (hs : AllReadyF P md ops Q S R fs fuel listed a w rs) : AllReadyF P md ops Q S R fs fuel listed a w (i :: rs) := fun j hj => by
 rcases List.mem_cons.1 hj with rfl | hj
 ·exact wpOp_step ho (fun K' hK => h K' (fun a w hS hR hW => hK a w ⟨⟨hS, hR⟩, hW hS hR⟩))
 ·exact hs j hj
theorem wpAnyF_ready {rs : List Nat} {fuel : Nat} {listed : Array Bool} {a : Act} {w : World} (hr : Region.ready md ops listed = rs) (hne : rs ≠ [])
  (h : AllReadyF P md ops Q S R fs fuel listed a w rs) : wpAnyF P md ops Q S R fs (fuel + 1) listed a w := ⟨fun h0 => absurd (hr ▸ h0) hne, hr ▸ h⟩
theorem wp_region_F {id : Nat} {a : Act} {w : World} (fs : List Nat) (hm : P.follows .mixedOrders = true) (hS : S w.drew) (hR : R w.drew)
  (h : S w.drew → R w.drew → wpAnyF P .any ops Q S R fs ops.size (Array.replicate ops.size false) a w.drew) : (Code.region id ops true).wp P Q a w :=
 wp_region_any hm (wpAny_of_F _ _ _ _ (h hS hR))
/-- Reading operations, one behind the other: each yields its value wherever C holds. -/
def rd (P : Program) (ops : Array Oper) (Q : Exit → Act → World → Prop) (C : World → Prop) (K : Act → Prop) : List Nat → Act → Prop
 | [], a => K a
 | i :: r, a => match ops[i]? with
  | some o => ∃ v, YieldsIf P ops C o v a ∧ (∀ c a w, Q (.panic c) (a.put o.dst v) w → Q (.panic c) a w) ∧ rd P ops Q C K r (a.put o.dst v)
  | none => False
def tkB (md : Region.Mode) (ops : Array Oper) (fs : List Nat) : List Nat → Array Bool → Bool
 | [], _ => true
 | i :: r, l => (Region.free md ops l i && ((Region.ready md ops l).contains i && (!fs.contains i && (waits md ops fs i && clean fs l)))) && tkB md ops fs r (l.setIfInBounds i true)
def setL (l : Array Bool) : List Nat → Array Bool
 | [] => l
 | i :: r => setL (l.setIfInBounds i true) r
theorem wpAnyF_group (hs : Region.noSelect ops = true) (w : World) (hR : R w) : ∀ (is : List Nat) (fuel : Nat) (listed : Array Bool) (a : Act), tkB md ops fs is listed = true →
  rd P ops Q R (fun a' => wpAnyF P md ops Q (fun _ => True) R fs fuel (setL listed is) a' w) is a → wpAnyF P md ops Q (fun _ => True) R fs (fuel + is.length) listed a w
 | [], _, _, _, _, h => h
 | i :: r, fuel, listed, a, hb, h => by
  unfold tkB at hb
  simp only [Bool.and_eq_true, Bool.not_eq_true'] at hb
  obtain ⟨⟨h1, h2, h3, h4, h5⟩, h6⟩ := hb
  unfold rd at h
  cases ho : ops[i]? with
  | none => rw [ho] at h; exact h.elim
  | some o =>
   rw [ho] at h
   obtain ⟨v, hy, hq, hr⟩ := h
   exact wpAnyF_takeR ho hs h1 h2 h3 h4 h5 hq (by rcases hy with h | h; exact .inl ⟨h.1, fun w hw => h.2 w hw.2⟩; exact .inr h) trivial (fun _ => hR) (wpAnyF_group hs w hR r fuel (listed.setIfInBounds i true) (a.put o.dst v) h6 hr)
def tkS (md : Region.Mode) (ops : Array Oper) (fs : List Nat) : List Nat → Array Bool → Bool
 | [], _ => true
 | i :: r, l => (Region.free md ops l i && ((Region.ready md ops l).contains i && !fs.contains i)) && tkS md ops fs r (l.setIfInBounds i true)
/-- .. that read no memory. -/
theorem wpAnyF_groupS (hs : Region.noSelect ops = true) (w : World) (hR : R w) : ∀ (is : List Nat) (fuel : Nat) (listed : Array Bool) (a : Act), tkS md ops fs is listed = true →
  rd P ops Q (fun _ => True) (fun a' => wpAnyF P md ops Q (fun _ => True) R fs fuel (setL listed is) a' w) is a → wpAnyF P md ops Q (fun _ => True) R fs (fuel + is.length) listed a w
 | [], _, _, _, _, h => h
 | i :: r, fuel, listed, a, hb, h => by
  unfold tkS at hb
  simp only [Bool.and_eq_true, Bool.not_eq_true'] at hb
  obtain ⟨⟨h1, h2, h3⟩, h6⟩ := hb
  unfold rd at h
  cases ho : ops[i]? with
  | none => rw [ho] at h; exact h.elim
  | some o =>
   rw [ho] at h
   obtain ⟨v, hy, hq, hr⟩ := h
   exact wpAnyF_take ho hs h1 h2 h3 hq hy trivial (fun _ => hR) (wpAnyF_groupS hs w hR r fuel (listed.setIfInBounds i true) (a.put o.dst v) h6 hr)
/-- A region that reads, and in the end writes: into the walk. -/
theorem wp_region_G {id : Nat} {a : Act} {w : World} (fs : List Nat) (hm : P.follows .mixedOrders = true) (hR : R w.drew)
  (h : R w.drew → wpAnyF P .any ops Q (fun _ => True) R fs ops.size (Array.replicate ops.size false) a w.drew) : (Code.region id ops true).wp P Q a w :=
 wp_region_F fs hm trivial hR fun _ h2 => h h2
/-- The first group. -/
theorem wp_region_H {id : Nat} {a : Act} {w : World} (fs is : List Nat) (n : Nat) (hm : P.follows .mixedOrders = true) (hR : R w.drew) (hn : ops.size = n + is.length) (hs : Region.noSelect ops = true)
  (hb : tkB .any ops fs is (Array.replicate ops.size false) = true) (h : R w.drew → rd P ops Q R (fun a' => wpAnyF P .any ops Q (fun _ => True) R fs n (setL (Array.replicate ops.size false) is) a' w.drew) is a) : (Code.region id ops true).wp P Q a w :=
 wp_region_G fs hm hR fun h2 => by
  have := wpAnyF_group (md := .any) hs w.drew h2 is n (Array.replicate ops.size false) a hb (h h2)
  rw [← hn] at this
  exact this
theorem rd_nil {C : World → Prop} {K : Act → Prop} {a : Act} (h : K a) : rd P ops Q C K [] a := h
theorem rd_y {C : World → Prop} {K : Act → Prop} {i : Nat} {r : List Nat} {a : Act} {o : Oper} (ho : ops[i]? = some o) (v : Value) (hy : YieldsIf P ops C o v a) (hq : ∀ c a w, Q (.panic c) (a.put o.dst v) w → Q (.panic c) a w) (h : rd P ops Q C K r (a.put o.dst v)) : rd P ops Q C K (i :: r) a := by
 unfold rd
 rw [ho]
 exact ⟨v, hy, hq, h⟩
/-- One reading operation. -/
theorem rd_st {C : World → Prop} {K : Act → Prop} {i : Nat} {r : List Nat} {a : Act} {o : Oper} (ho : ops[i]? = some o) (hw : Region.wanted o (yielded ops a.tmps) = true) (hq : ∀ v c a w, Q (.panic c) (a.put o.dst v) w → Q (.panic c) a w)
  (h : ∃ v, (∀ W, C W → (execOp a.eval o).run P W = .ok (.value v) W) ∧ rd P ops Q C K r (a.put o.dst v)) : rd P ops Q C K (i :: r) a := by
 obtain ⟨v, h1, h2⟩ := h
 exact rd_y ho v (.inl ⟨hw, h1⟩) (hq v) h2
end
end Go.Proofs.YtakmaeohhclngaaGreatDoor.Rf
