/- keyholdref.DropKey, tree.Drop and keyholdlaw.TreeDrops, walked (TdD TdI TdE TdL, joined). -/
import Derived.Test.YtoebmjgkfkfhjaaGreatDoorTdTwo
import Derived.Test.YtoebmjgkfkfhjaaGreatDoorGSlMore
import Derived.Test.YtoebmjgkfkfhjaaGreatDoorGTc1
import Derived.Test.YtoebmjgkfkfhjaaGreatDoorTdOne
import Derived.Test.YtoebmjgkfkfhjaaGreatDoorDdDid
import Derived.Deep.RegionHeld3
namespace Go.Proofs.YtoebmjgkfkfhjaaGreatDoor.Wd
open Go.RowKit Go.Proofs.YtoebmjgkfkfhjaaGreatDoor.Mem Go.Proofs.YtoebmjgkfkfhjaaGreatDoor.Bw Go.Proofs.YtoebmjgkfkfhjaaGreatDoor.Nums Go.Proofs.YtoebmjgkfkfhjaaGreatDoor.Mmu
theorem isB_get {p : PW} {z k : Int} (h : isB p z k = true) : ∃ t : Nat, z = t ∧ p.kinds[t]? = some k := by
 unfold isB kindAt at h
 by_cases h0 : 0 ≤ z
 ·rw [if_pos h0] at h
  exact ⟨z.toNat, by omega, eq_of_beq h⟩
 ·rw [if_neg h0] at h
  cases h
theorem isB_of {p : PW} {t : Nat} {k : Int} (h : p.kinds[t]? = some k) : isB p t k = true := by
 unfold isB kindAt
 rw [if_pos (by omega), Int.toNat_natCast, h]
 exact beq_self_eq_true _
theorem snd_ff {p : PW} (h : Snd p) {f : Nat → Int} (hf : f ∈ p.tasks) : ffB p f = true ∨ ∀ k, k < 20 → f k = bl k := by
 obtain ⟨t, ht⟩ := List.mem_iff_getElem?.1 hf
 obtain ⟨hl, e⟩ := List.getElem?_eq_some_iff.1 ht
 have h1 : btB p t (p.kinds.getD t 0) p.tasks[t] = false := h.b5 t hl
 rw [e] at h1
 unfold btB at h1
 by_cases h6 : p.kinds.getD t 0 = 6
 ·rw [if_pos h6] at h1
  simp only [Bool.not_eq_false', Bool.and_eq_true] at h1
  exact .inl h1.1.1.1.2
 ·rw [if_neg h6, Bool.not_eq_false'] at h1
  exact .inr (blB20_iff.1 h1)
theorem snd_inv {p : PW} (hp : p.Fits) (h : Snd p) : Inv p := by
 refine ⟨hp, h.lf.k2, h.lf.ram, h.lf.slots, h.lf.tasks, h.lf.lines, h.lf.bits, fun f hf => ?_, fun l hl z hz => ?_, fun f hf => ?_, fun i x k hx hk h34 => ?_, fun f hf => ?_⟩
 ·obtain ⟨s, hs⟩ := List.mem_iff_getElem?.1 hf
  obtain ⟨hl, e⟩ := List.getElem?_eq_some_iff.1 hs
  by_cases h0 : f 0 = 0
  ·exact .inl h0
  by_cases h1 : f 0 = 1
  ·exact .inr (.inl h1)
  have ho := snd_op h hl (by rw [e]; exact h0)
  rw [e] at ho
  unfold opB at ho
  rw [Bool.and_eq_true, Bool.or_eq_true] at ho
  rcases ho.2 with h2 | h2
  ·exact absurd (eq_of_beq h2) h1
  obtain ⟨b, hb, hk⟩ := isB_get h2
  obtain ⟨hbl, hke⟩ := List.getElem?_eq_some_iff.1 hk
  have h3 : nkB p.kinds[b] = false := h.b1 b hbl
  rw [hke] at h3
  unfold nkB at h3
  rw [Bool.or_eq_false_iff, Bool.not_eq_false', decide_eq_true_eq] at h3
  exact .inr (.inr ⟨by omega, h3.1.2, b, hb, hk⟩)
 ·obtain ⟨a, ha⟩ := List.mem_iff_getElem?.1 hl
  obtain ⟨hal, e⟩ := List.getElem?_eq_some_iff.1 ha
  have h1 : blB p a (p.kinds.getD a 0) (p.bits.getD a 0) p.lines[a] = false := h.b6 a hal
  rw [e] at h1
  unfold blB at h1
  rw [Bool.or_eq_false_iff] at h1
  have h2 : tB p a (l.getD 0 0) z = false := by
   have := List.any_eq_false.1 h1.2 z hz
   simpa using this
  obtain ⟨t, ht, hk⟩ := isB_get (tB_in h2)
  exact ⟨t, ht, by rw [h.lf.tasks]; exact (List.getElem?_eq_some_iff.1 hk).1⟩
 ·rcases snd_ff h hf with h1 | h1
  ·rcases owes_in h.lf.tasks h1 with h2 | ⟨j, hj, h2⟩
   ·exact .inl h2
   ·exact .inr ⟨j, h2, hj⟩
  ·exact .inl (by rw [h1 17 (by omega)]; rfl)
 ·obtain ⟨hil, e⟩ := List.getElem?_eq_some_iff.1 hx
  have h1 : beB p (p.kinds.getD (i / 16) 0) p.ram[i] = false := h.b9 i hil
  rw [e, List.getD_eq_getElem?_getD, hk, Option.getD_some] at h1
  unfold beB at h1
  by_cases h0 : x = 0
  ·exact .inl h0
  have h0b : (x == 0) = false := by simpa using h0
  have k24 := h.lf.k2
  right
  by_cases h4 : k = 4
  ·rw [if_pos h4, h0b] at h1
   have h2 : isB p (x - 32768) 3 = true := by simpa using h1
   obtain ⟨t, ht, hk2⟩ := isB_get h2
   have := (List.getElem?_eq_some_iff.1 hk2).1
   exact ⟨t, by omega, .inl (by omega)⟩
  ·have h3 : k = 3 := by omega
   rw [if_neg h4, if_pos h3, h0b] at h1
   have h2 : isB p (x - 32768) 2 = true ∨ isB p (x - 32768 - 16384) 2 = true := by
    cases e1 : isB p (x - 32768) 2 with
    | true => exact .inl rfl
    | false => rw [e1] at h1; right; simpa using h1
   rcases h2 with h2 | h2
   ·obtain ⟨t, ht, hk2⟩ := isB_get h2
    have := (List.getElem?_eq_some_iff.1 hk2).1
    exact ⟨t, by omega, .inl (by omega)⟩
   ·obtain ⟨t, ht, hk2⟩ := isB_get h2
    have := (List.getElem?_eq_some_iff.1 hk2).1
    exact ⟨t, by omega, .inr (by omega)⟩
 ·rcases snd_ff h hf with h1 | h1
  ·unfold ffB at h1
   simp only [Bool.and_eq_true] at h1
   have h2 := h1.1.2
   unfold isOrB at h2
   rw [Bool.or_eq_true] at h2
   rcases h2 with h2 | h2
   ·exact .inl (eq_of_beq h2)
   ·exact .inr (isB_get h2)
  ·exact .inl (by rw [h1 13 (by omega)]; rfl)
theorem snd_told {p : PW} (h : Snd p) {l : List Ent} (hl : l ∈ p.tlbs) : l.length ≤ 4 ∧ ∀ e ∈ l, toldB p e = true := by
 obtain ⟨c, hc⟩ := List.mem_iff_getElem?.1 hl
 obtain ⟨hcl, e⟩ := List.getElem?_eq_some_iff.1 hc
 have h1 : bmB p p.tlbs[c] = false := h.b10 c hcl
 rw [e] at h1
 unfold bmB at h1
 rw [Bool.or_eq_false_iff, decide_eq_false_iff_not] at h1
 refine ⟨by omega, fun x hx => ?_⟩
 obtain ⟨j, hj⟩ := List.mem_iff_getElem?.1 hx
 obtain ⟨hjl, -⟩ := List.getElem?_eq_some_iff.1 hj
 have h2 := List.any_eq_false.1 h1.2 j (List.mem_range.2 hjl)
 rw [hj] at h2
 have h3 : emB p l j x = false := by simpa using h2
 exact (emB_told h3).1
theorem snd_tl {p : PW} (h : Snd p) : TL p := by
 refine ⟨fun l hl => ?_, fun l hl e he => ?_, fun z hz => ?_⟩
 ·have := (snd_told h hl).1
  omega
 ·have h1 := (snd_told h hl).2 e he
  unfold toldB at h1
  simp only [Bool.and_eq_true, decide_eq_true_eq] at h1
  exact h1.1.2
 ·obtain ⟨i, hi⟩ := List.mem_iff_getElem?.1 hz
  obtain ⟨hil, e⟩ := List.getElem?_eq_some_iff.1 hi
  have h1 : nwB p.ram[i] = false := h.b0 i hil
  rw [e] at h1
  unfold nwB wB at h1
  rw [Bool.not_eq_false', decide_eq_true_eq] at h1
  omega
def setT (p : PW) (X : List (List Ent)) : PW := { p with tlbs := X }
theorem et_T (p : PW) (t : Nat) (X : List (List Ent)) : etP (setT p X) t = setT (etP p t) X := by
 unfold etP
 by_cases h : p.tasks.getD t bl 17 = -1
 ·have h' : (setT p X).tasks.getD t bl 17 = -1 := h
  rw [if_pos h', if_pos h]
  rfl
 ·have h' : ¬ (setT p X).tasks.getD t bl 17 = -1 := h
  rw [if_neg h', if_neg h]
  rfl
theorem dsl_T : ∀ (l : List Int) (p : PW) (X : List (List Ent)), l.foldl ds1 (setT p X) = setT (l.foldl ds1 p) X
 | [], _, _ => rfl
 | z :: l, p, X => by rw [List.foldl_cons, List.foldl_cons, show ds1 (setT p X) z = setT (ds1 p z) X from rfl, dsl_T l]
theorem ds_T (p : PW) (f : Nat) (X : List (List Ent)) : dsP (setT p X) f = setT (dsP p f) X := by
 unfold dsP
 rw [show (setT p X).lines = p.lines from rfl, show (setT p X).bits = p.bits from rfl, dsl_T]
 rfl
theorem da_T {dr : PW → Nat → PW} (hd : ∀ p s X, dr (setT p X) s = setT (dr p s) X) {f : Nat} : ∀ (a : Nat) (p : PW) (X : List (List Ent)), daF dr f a (setT p X) = setT (daF dr f a p) X
 | 0, p, X => by rw [da_zero, da_zero]
 | a + 1, p, X => by
  rw [da_succ, da_succ, show (setT p X).slots = p.slots from rfl]
  by_cases h0 : (p.slots.getD (f * 16 + a) eS) 0 = 0
  ·rw [if_pos h0, if_pos h0]
   exact da_T hd a p X
  ·rw [if_neg h0, if_neg h0, hd]
   exact da_T hd a _ X
theorem ls_T {dr : PW → Nat → PW} (hd : ∀ p s X, dr (setT p X) s = setT (dr p s) X) (p : PW) (k : Int) (f : Nat) (X : List (List Ent)) : lsF dr (setT p X) k f = setT (lsF dr p k f) X := by
 unfold lsF
 by_cases e23 : k = 2 ∨ k = 3
 ·rw [if_pos e23, if_pos e23]; rfl
 rw [if_neg e23, if_neg e23]
 by_cases e4 : k = 4
 ·rw [if_pos e4, if_pos e4]; rfl
 rw [if_neg e4, if_neg e4]
 by_cases e5 : k = 5
 ·rw [if_pos e5, if_pos e5]
  exact da_T hd 16 (fgP 11 (nkP p f) f) X
 rw [if_neg e5, if_neg e5]
 by_cases e6 : k = 6
 ·rw [if_pos e6, if_pos e6]
  exact et_T (nkP p f) f X
 rw [if_neg e6, if_neg e6]
 show fgP 13 (dsP (setT (nkP p f) X) f) f = _
 rw [ds_T]
 rfl
theorem dr_T : ∀ (m : Nat) (p : PW) (s : Nat) (X : List (List Ent)), drF m (setT p X) s = setT (drF m p s) X
 | 0, _, _, _ => rfl
 | m + 1, p, s, X => by
  show (if (p.slots.getD s eS) 0 = 1 ∨ opnd (drA p s) ((p.slots.getD s eS) 0) ((p.slots.getD s eS) 1) = true then setT (drA p s) X else lsF (drF m) (setT (drA p s) X) ((p.slots.getD s eS) 0) ((p.slots.getD s eS) 1).toNat) = setT (if (p.slots.getD s eS) 0 = 1 ∨ opnd (drA p s) ((p.slots.getD s eS) 0) ((p.slots.getD s eS) 1) = true then drA p s else lsF (drF m) (drA p s) ((p.slots.getD s eS) 0) ((p.slots.getD s eS) 1).toNat) X
  by_cases h : (p.slots.getD s eS) 0 = 1 ∨ opnd (drA p s) ((p.slots.getD s eS) 0) ((p.slots.getD s eS) 1) = true
  ·rw [if_pos h, if_pos h]
  ·rw [if_neg h, if_neg h]
   exact ls_T (fun p s X => dr_T m p s X) _ _ _ X
theorem dr_tlbs (m : Nat) (p : PW) (s : Nat) : (drF m p s).tlbs = p.tlbs := by
 have h := dr_T m p s p.tlbs
 rw [show setT p p.tlbs = p from rfl] at h
 rw [h]
 rfl
/-- Frames' kinds and words only go. -/
structure Lo (q p : PW) : Prop where
 kinds : ∀ (t : Nat) (k : Int), k ≠ 0 → q.kinds[t]? = some k → p.kinds[t]? = some k
 len : q.ram.length = p.ram.length
 ram : ∀ i, q.ram.getD i 0 = p.ram.getD i 0 ∨ q.ram.getD i 0 = 0
theorem Lo.refl (p : PW) : Lo p p := ⟨fun _ _ _ h => h, rfl, fun _ => .inl rfl⟩
theorem Lo.trans {r q p : PW} (a : Lo r q) (b : Lo q p) : Lo r p := ⟨fun t k h0 h => b.kinds t k h0 (a.kinds t k h0 h), a.len.trans b.len, fun i => by
 rcases a.ram i with h | h
 ·rcases b.ram i with h2 | h2
  ·exact .inl (h.trans h2)
  ·exact .inr (h.trans h2)
 ·exact .inr h⟩
theorem Lo.of {q p : PW} (h1 : ∀ (t : Nat) (k : Int), k ≠ 0 → q.kinds[t]? = some k → p.kinds[t]? = some k) (h2 : q.ram = p.ram) : Lo q p := ⟨h1, by rw [h2], fun i => .inl (by rw [h2])⟩
theorem e0_no {n : Int} : ¬ isE 0 n := fun h => absurd h.1 (by decide)
theorem walk_lo {ys zs : List Int} (hl : ys.length = zs.length) (hr : ∀ i, ys.getD i 0 = zs.getD i 0 ∨ ys.getD i 0 = 0) {s a : Int} (h : (walkR ys s a).2.2 = 0) : walkR ys s a = walkR zs s a := by
 have hn : n16 ys = n16 zs := by unfold n16; rw [hl]
 by_cases hi : inb ys.length s a
 rotate_left
 ·rw [walkR_range hi] at h; cases h
 by_cases h1 : isE (e1 ys s a) (n16 ys)
 rotate_left
 ·rw [walkR_no1 hi h1] at h; cases h
 by_cases h2 : isE (e2 ys (e1 ys s a % 1024) a) (n16 ys)
 rotate_left
 ·rw [walkR_no2 hi h1 h2] at h; cases h
 have q1 : e1 ys s a = e1 zs s a := by
  rcases hr (s * 16 + a / 256).toNat with e | e
  ·exact e
  ·exact absurd (show isE 0 (n16 ys) by have := h1; unfold e1 at this; rw [e] at this; exact this) e0_no
 have q2 : e2 ys (e1 ys s a % 1024) a = e2 zs (e1 zs s a % 1024) a := by
  rcases hr ((e1 ys s a % 1024) * 16 + a / 16 % 16).toNat with e | e
  ·rw [← q1]; exact e
  ·exact absurd (show isE 0 (n16 ys) by have := h2; unfold e2 at this; rw [e] at this; exact this) e0_no
 have k1 := h1
 have k2 := h2
 rw [q1, hn] at k1
 rw [q2, hn] at k2
 rw [walkR_yes hi h1 h2, walkR_yes (by rw [← hl]; exact hi) k1 k2, q2]
theorem Lo.told {q p : PW} (a : Lo q p) {e : Ent} (h : toldB q e = true) : toldB p e = true := by
 unfold toldB at h ⊢
 rw [Bool.and_eq_true, Bool.and_eq_true] at h ⊢
 obtain ⟨t, ht, hk⟩ := isB_get h.1.1
 have h0 : (walkR q.ram e.1 (e.2.1 * 16)).2.2 = 0 := by
  have h3 := h.2
  simp only [Bool.and_eq_true] at h3
  exact eq_of_beq h3.1.1
 rw [← walk_lo a.len a.ram h0]
 exact ⟨⟨by rw [ht]; exact isB_of (a.kinds t 4 (by decide) hk), h.1.2⟩, h.2⟩
theorem kp_told {q : PW} {k f : Int} {e : Ent} (h : toldB q e = true) (h4 : k = 4 → isB q f 4 = false) : kpE q k f e = true := by
 unfold toldB at h
 rw [Bool.and_eq_true, Bool.and_eq_true] at h
 unfold kpE
 rw [Int.mul_comm 16 e.2.1, h.2, Bool.true_and]
 cases e1 : (k == 4 && e.1 == f) with
 | false => rfl
 | true =>
  rw [Bool.and_eq_true] at e1
  have h5 := h4 (eq_of_beq e1.1)
  rw [← eq_of_beq e1.2, h.1.1] at h5
  cases h5
theorem kp_back {p q : PW} {k f : Int} {e : Ent} (h : toldB p e = true) (h4 : isB q e.1 4 = true) (hk : kpE q k f e = true) : toldB q e = true := by
 unfold toldB at h ⊢
 rw [Bool.and_eq_true, Bool.and_eq_true] at h ⊢
 unfold kpE at hk
 rw [Int.mul_comm 16 e.2.1, Bool.and_eq_true] at hk
 exact ⟨⟨h4, h.1.2⟩, hk.1⟩
def Gd (p q r : PW) (g : Ent → Bool) : Prop := r = setT q (p.tlbs.map (List.filter g)) ∧ Lo q p ∧ (∀ e, toldB q e = true → g e = true) ∧ (∀ e, toldB p e = true → g e = true → toldB q e = true)
theorem filt_all (X : List (List Ent)) : X.map (List.filter fun _ => true) = X := by
 conv => rhs; rw [← List.map_id X]
 exact List.map_congr_left fun l _ => List.filter_eq_self.2 fun _ _ => rfl
theorem filt_two (X : List (List Ent)) (g1 g2 : Ent → Bool) : (X.map (List.filter g1)).map (List.filter g2) = X.map (List.filter fun e => g2 e && g1 e) := by
 rw [List.map_map]
 exact List.map_congr_left fun l _ => by rw [Function.comp, List.filter_filter]
theorem Gd.same {p q : PW} (h1 : q.tlbs = p.tlbs) (h2 : q.kinds = p.kinds) (h3 : q.ram = p.ram) : Gd p q q (fun _ => true) := by
 refine ⟨by rw [filt_all, ← h1]; rfl, .of (fun t k _ h => by rw [← h2]; exact h) h3, fun _ _ => rfl, fun e h _ => ?_⟩
 unfold toldB isB kindAt at h ⊢
 rw [h2, h3]
 exact h
theorem nk_lo (p : PW) (f : Nat) : Lo (nkP p f) p := .of (fun _ _ h0 h => (nk_get h h0).1) rfl
theorem ut_lo (p : PW) (f : Int) : Lo (utP p f) p := ⟨fun _ _ _ h => h, List.length_mapIdx .., fun i => by
 show (p.ram.mapIdx (ut1 p.kinds f)).getD i 0 = _ ∨ (p.ram.mapIdx (ut1 p.kinds f)).getD i 0 = 0
 rw [List.getD_eq_getElem?_getD, List.getElem?_mapIdx, List.getD_eq_getElem?_getD]
 cases p.ram[i]? with
 | none => exact .inl rfl
 | some x =>
  show ut1 p.kinds f i x = x ∨ ut1 p.kinds f i x = 0
  unfold ut1
  split
  ·exact .inr rfl
  ·exact .inl rfl⟩
/-- Another thing than a node goes. -/
theorem ls_one {dr : PW → Nat → PW} {p : PW} {k : Int} {f : Nat} (h5 : k ≠ 5) : Lo (lsF dr p k f) p ∧ (lsF dr p k f).kinds = p.kinds.set f 0 ∧ (lsF dr p k f).tlbs = p.tlbs := by
 unfold lsF
 by_cases e23 : k = 2 ∨ k = 3
 ·rw [if_pos e23]; exact ⟨(ut_lo _ _).trans (nk_lo p f), rfl, rfl⟩
 rw [if_neg e23]
 by_cases e4 : k = 4
 ·rw [if_pos e4]; exact ⟨Lo.trans (q := nkP p f) ⟨fun _ _ _ h => h, rfl, fun _ => .inl rfl⟩ (nk_lo p f), rfl, rfl⟩
 rw [if_neg e4, if_neg h5]
 by_cases e6 : k = 6
 ·rw [if_pos e6]
  exact ⟨Lo.trans (.of (fun t k _ h => by rw [← et_kinds (nkP p f) f]; exact h) (et_tl (nkP p f) f).2) (nk_lo p f), et_kinds (nkP p f) f, (et_tl (nkP p f) f).1⟩
 rw [if_neg e6]
 exact ⟨Lo.trans (.of (fun t k _ h => by rw [← ds_kinds (nkP p f) f]; exact h) (ds_tl (nkP p f) f).2) (nk_lo p f), ds_kinds (nkP p f) f, (ds_tl (nkP p f) f).1⟩
theorem ls_eq {d1 d2 : PW → Nat → PW} {p : PW} {k : Int} {f : Nat} (h5 : k ≠ 5) : lsF d1 p k f = lsF d2 p k f := by
 unfold lsF
 rw [if_neg (h5 : ¬ k = 5), if_neg (h5 : ¬ k = 5)]
def RecAt (m : Nat) : Prop := ∀ p s, nds p < m → Inv p → TL p → s < p.slots.length → (p.slots.getD s eS) 0 ≠ 0 → ∃ g, Gd p (drF m p s) (drR m p s) g
theorem da_G {m : Nat} (hR : RecAt m) {f : Nat} : ∀ (a : Nat) (p : PW), nds p < m → Inv p → TL p → f * 16 + a ≤ p.slots.length → ∃ g, Gd p (daF (drF m) f a p) (daF (drR m) f a p) g
 | 0, p, _, _, _, _ => ⟨_, by rw [da_zero, da_zero]; exact Gd.same rfl rfl rfl⟩
 | a + 1, p, hn, hi, ht, hl => by
  rw [da_succ, da_succ]
  by_cases h0 : (p.slots.getD (f * 16 + a) eS) 0 = 0
  ·rw [if_pos h0, if_pos h0]
   exact da_G hR a p hn hi ht (by omega)
  rw [if_neg h0, if_neg h0]
  have hs : f * 16 + a < p.slots.length := by omega
  obtain ⟨g1, r1, l1, a1, b1⟩ := hR p (f * 16 + a) hn hi ht hs h0
  obtain ⟨i1, i2, i3⟩ := (rr_inv m).1 p (f * 16 + a) hn hi hs h0
  obtain ⟨g2, r2, l2, a2, b2⟩ := da_G hR (f := f) a (drR m p (f * 16 + a)) (by omega) i1 ((rr_inv m).2 p (f * 16 + a) hn hi hs h0 ht) (by rw [i1.slots, i3, ← hi.slots]; omega)
  rw [r1] at r2 l2 a2 b2 ⊢
  rw [da_T (dr_T m) (f := f)] at r2 l2 a2 b2
  refine ⟨fun e => g2 e && g1 e, ?_, ?_, fun e h => ?_, fun e h h2 => ?_⟩
  ·rw [r2, ← filt_two]; rfl
  ·exact Lo.trans (q := drF m p (f * 16 + a)) ⟨l2.kinds, l2.len, l2.ram⟩ l1
  ·rw [Bool.and_eq_true]
   exact ⟨a2 e h, a1 e (l2.told h)⟩
  ·rw [Bool.and_eq_true] at h2
   exact b2 e (b1 e h h2.2) h2.1
theorem rec_next {m : Nat} (hR : RecAt m) : RecAt (m + 1) := by
 intro p s hn hi ht hs h0
 unfold drF drR
 by_cases hc : (p.slots.getD s eS) 0 = 1 ∨ opnd (drA p s) ((p.slots.getD s eS) 0) ((p.slots.getD s eS) 1) = true
 ·rw [if_pos hc, if_pos hc]
  exact ⟨_, Gd.same rfl rfl rfl⟩
 rw [if_neg hc, if_neg hc]
 obtain ⟨b, hb, hk, -, -⟩ := ls_in hi hs h0 (fun e => hc (.inl e))
 rw [hb] at hc ⊢
 rw [Int.toNat_natCast]
 have hqi := drA_inv hi s
 have ho : opnd (drA p s) ((p.slots.getD s eS) 0) b = false := by
  cases e : opnd (drA p s) ((p.slots.getD s eS) 0) b with
  | false => rfl
  | true => exact absurd (.inr e) hc
 have htq : TL (drA p s) := ht.of rfl rfl
 have hnq : nds (drA p s) < m + 1 := hn
 have hkq : (drA p s).kinds[b]? = some ((p.slots.getD s eS) 0) := hk
 suffices hx : ∃ g, Gd (drA p s) (lsF (drF m) (drA p s) ((p.slots.getD s eS) 0) b) (gnF (drR m) (drA p s) ((p.slots.getD s eS) 0) b) g by
  obtain ⟨g, h1, h2, h3, h4⟩ := hx
  exact ⟨g, h1, ⟨h2.kinds, h2.len, h2.ram⟩, h3, h4⟩
 generalize (p.slots.getD s eS) 0 = k at *
 generalize drA p s = q at *
 clear hi ht hs h0 hn hk hc hb
 unfold gnF
 by_cases h5 : k = 5
 ·subst h5
  have e : ∀ dr : PW → Nat → PW, lsF dr q 5 b = daF dr b 16 (fgP 11 (nkP q b) b) := fun dr => by unfold lsF; rw [if_neg (by decide), if_neg (by decide), if_pos rfl]
  rw [e, e]
  have hc2 : nds (nkP q b) + 1 = nds q := (cnt_set q.kinds b).2 hkq
  have hbl : b < q.kinds.length := (List.getElem?_eq_some_iff.1 hkq).1
  obtain ⟨g0, r0, l0, a0, b0⟩ := da_G hR (f := b) 16 (fgP 11 (nkP q b) b) (by show nds (nkP q b) < m; omega) (fg_full (nk_inv7 hqi hkq ho (by decide)) 11 (by decide) (b : Int)) (htq.of rfl rfl) (by show b * 16 + 16 ≤ q.slots.length; have := hqi.slots; omega)
  generalize daF (drF m) b 16 (fgP 11 (nkP q b) b) = x at *
  rw [r0]
  refine ⟨fun e => kpE x 5 b e && g0 e, ?_, Lo.trans (q := nkP q b) ⟨l0.kinds, l0.len, l0.ram⟩ (nk_lo q b), fun e h => ?_, fun e h h2 => ?_⟩
  ·show setT x (((q.tlbs.map (List.filter g0))).map (List.filter (kpE x 5 b))) = _
   rw [filt_two]
  ·rw [Bool.and_eq_true]
   exact ⟨kp_told h (fun e => absurd e (by decide)), a0 e h⟩
  ·rw [Bool.and_eq_true] at h2
   refine b0 e ?_ h2.2
   unfold toldB at h ⊢
   rw [Bool.and_eq_true, Bool.and_eq_true] at h ⊢
   obtain ⟨t, ht, hk⟩ := isB_get h.1.1
   refine ⟨⟨?_, h.1.2⟩, h.2⟩
   rw [ht]
   refine isB_of (show (q.kinds.set b 0)[t]? = some 4 from ?_)
   rw [List.getElem?_set_ne (fun e => by subst e; rw [hk] at hkq; cases hkq)]
   exact hk
 ·rw [ls_eq (d1 := drR m) (d2 := drF m) h5]
  obtain ⟨lo, hkd, htl⟩ := ls_one (dr := drF m) (p := q) (f := b) h5
  generalize lsF (drF m) q k b = x at *
  refine ⟨kpE x k b, by unfold fwP; rw [htl]; rfl, lo, fun e h => kp_told h (fun _ => ?_), fun e h h2 => ?_⟩
  ·cases e1 : isB x b 4 with
   | false => rfl
   | true =>
    obtain ⟨t, ht, hk⟩ := isB_get e1
    have : b = t := by omega
    subst this
    rw [hkd, List.getElem?_set] at hk
    rw [if_pos rfl] at hk
    split at hk <;> cases hk
  ·obtain ⟨t, ht, hk⟩ : ∃ t : Nat, e.1 = t ∧ q.kinds[t]? = some 4 := by
    unfold toldB at h
    rw [Bool.and_eq_true, Bool.and_eq_true] at h
    exact isB_get h.1.1
   refine kp_back h ?_ h2
   rw [ht]
   refine isB_of ?_
   rw [hkd, List.getElem?_set_ne (fun eb => ?_)]
   ·exact hk
   ·subst eb
    rw [hk] at hkq
    unfold kpE at h2
    rw [Bool.and_eq_true] at h2
    have h3 := h2.2
    rw [← Option.some.inj hkq, ht] at h3
    simp at h3
theorem rec_any : ∀ m, RecAt m
 | 0 => fun _ _ hn => absurd hn (Nat.not_lt_zero _)
 | m + 1 => rec_next (rec_any m)
theorem rr_eq {p : PW} (hp : p.Fits) (h : Snd p) {m s : Nat} (hn : nds p < m) (hs : s < p.slots.length) (h0 : (p.slots.getD s eS) 0 ≠ 0) : drR m p s = fgt (drF m p s) := by
 obtain ⟨g, r, lo, a, b⟩ := rec_any m p s hn (snd_inv hp h) (snd_tl h) hs h0
 rw [r]
 unfold fgt setT
 rw [dr_tlbs]
 have e : p.tlbs.map (List.filter g) = p.tlbs.map (goneP fun e => !toldB (drF m p s) e) := List.map_congr_left fun l hl => by
  unfold goneP
  refine List.filter_congr fun e he => ?_
  have h1 := (snd_told h hl).2 e he
  rw [Bool.not_not]
  cases e1 : toldB (drF m p s) e with
  | true => exact a e e1
  | false =>
   cases e2 : g e with
   | false => rfl
   | true => rw [b e h1 e2] at e1; cases e1
 rw [e]
theorem hnd_setE (l : List (Nat → Int)) (s : Nat) (x : Int) : hnd s x (l.set s eS) = (hnd s x l).set s eS := by
 unfold hnd
 rw [List.map_set, show hnd1 (s : Int) x eS = eS from if_neg (by show ¬ ((-1 : Int) = (s : Int)); omega)]
theorem gone_any {m : Nat} (hd : RefAt m) (q : PW) (k : Int) (f : Nat) (wb : Nat) (V : Nat → Value) (hi : Inv q) (ht : TL q) (hn : nds q < m + 1) (hk : q.kinds[f]? = some k) (ho : opnd q k f = false) (h2 : 2 ≤ k) (h8 : k ≤ 8) (X : World) (tg : Nat → Nat) (bt : BoxT X wb tg V q) :
  Calls Tryz.prog 46 #[.pointer (some ⟨wb, 0, none⟩), .int .i64 f] X fun r W' => r = .returned (.tuple #[]) ∧ ∃ tag', BoxT W' wb tag' V (gnF (drR m) q k f) ∧ Kt tg tag' X W' := by
 have h : k = 2 ∨ k = 3 ∨ k = 4 ∨ k = 5 ∨ k = 6 ∨ k = 7 ∨ k = 8 := by omega
 rcases h with rfl | rfl | rfl | rfl | rfl | rfl | rfl
 ·exact gone_2 q f X wb tg V hi ht hk ho bt
 ·exact gone_3 q f X wb tg V hi ht hk ho bt
 ·exact gone_4 q f X wb tg V hi ht hk ho bt
 ·exact gone_5 hd q f X wb tg V hi ht hk ho hn bt
 ·exact gone_6 q f X wb tg V hi ht hk ho bt
 ·exact gone_7 q f X wb tg V hi ht hk ho bt
 ·exact gone_8 q f X wb tg V hi ht hk ho bt
set_option maxRecDepth 100000 in
set_option maxHeartbeats 8000000 in
theorem ref_next {m : Nat} (hd : RefAt m) : RefAt (m + 1) := by
 intro p s W wb tag V hn hi ht hs bt0
 have hse : hasE p s = if (p.slots.getD s eS) 0 = 0 then 6 else 0 := by
  unfold hasE
  rw [show slotB p s = true from decide_eq_true ⟨by omega, by omega⟩, if_pos rfl, Int.toNat_natCast, slot_get hs, List.getD_eq_getElem?_getD, List.getElem?_eq_getElem hs]
  rfl
 have HHAS := hid (has_ref wb V p s W (bt0.view hi.fits ht.len))
 rw [hse] at HHAS
 by_cases h0 : (p.slots.getD s eS) 0 = 0
 ·simp only [if_pos h0] at HHAS ⊢
  have HB := hid bt0
  clear hd hn hi ht hs bt0 hse h0
  go_enter Tryz.func18, Tryz.ntmps18
  go_wp2_with fail
  refine HHAS.out.mono ?_
  rintro r w1 ⟨rfl, rfl⟩
  go_wp2_with fail
  go_ret
  exact ⟨rfl, tag, HB.out, Kt.refl _ _⟩
 simp only [if_neg h0] at HHAS ⊢
 obtain ⟨bt, kr⟩ := retagD bt0 0
 have KR := hid kr
 have T0 := hid (fun x (h : W.heap.size ≤ x) => show tagN tag W.heap.size 0 x = 0 from if_neg (by omega))
 generalize tagN tag W.heap.size 0 = tg at *
 clear bt0 kr hse
 have hsl := hi.slots
 have h24 := hi.k24
 have hl1 : p.slots.length ≤ 1000 := by omega
 have hl2 : (p.slots.length : Int) ≤ 1000 := by omega
 have hs2 : (s : Int) < (p.slots.length : Int) := by omega
 obtain ⟨g2, cap2, e2⟩ := bt.o.slots.form (show 0 < p.slots.length by omega)
 have E2 := hid e2
 have HS := hid hs
 have HL1 := hid hl1
 have c2 : W.cell? ⟨wb, 2, none⟩ = some (.slice (some ⟨g2, 0, none⟩) p.slots.length cap2) := by rw [range_cell bt.r (k := 2) rfl, e2]
 obtain ⟨f, hf⟩ : ∃ f, p.slots.getD s eS = f := ⟨_, rfl⟩
 have X6 := hid (fun X (h : BoxT X wb tg V p) => show X.cell? ⟨g2, s * 7 + 6, none⟩ = some (.int .i64 (f 6)) from by
  have h2 := h.slotsAt e2 hs (show 6 < 7 by omega)
  rw [← slot_get hs, hf] at h2
  exact h2)
 have RS := hid (show W.rangeAt g2 (s * 7) (cf 6 f) from by
  have h2 := bt.o.slots
  rw [e2] at h2
  have h3 := h2.range hs
  rw [← slot_get hs, hf] at h3
  exact six_ofD h3)
 have HTH := hid (there_new W #[.int .i64 0, .int .i64 0, .int .i64 0, .int .i64 0, .int .i64 0, .int .i64 0] 60 W.heap.size 6 rfl (by decide))
 have BL1 := hid (show Below W.heap.size W ((W.alloc (.cells #[.int .i64 0, .int .i64 0, .int .i64 0, .int .i64 0, .int .i64 0, .int .i64 0] 60)).setCells W.heap.size 0 (cf 6 f)) from below_setCells (bal (Below.refl W.heap.size W) (.cells #[.int .i64 0, .int .i64 0, .int .i64 0, .int .i64 0, .int .i64 0, .int .i64 0] 60)) (Nat.le_refl _) _ 0)
 have RK1 := hid (World.rangeAt_setCells_same (W.alloc (.cells #[.int .i64 0, .int .i64 0, .int .i64 0, .int .i64 0, .int .i64 0, .int .i64 0] 60)) W.heap.size 0 (cf 6 f) (by rw [cf_len]; exact HTH.out))
 have T4 := hid (T0.out W.heap.size (Nat.le_refl _))
 have HB := hid bt
 have HQ := hid (show drA p s = { p with slots := (hnd s (f 6) p.slots).set s eS } by unfold drA; rw [hf, hnd_setE])
 have hqi := drA_inv hi s
 have HQL := hid (show (drA p s).slots.length = p.slots.length by rw [HQ.out]; show ((hnd _ _ _).set _ _).length = _; rw [List.length_set, hnd_len])
 have HRES := hid (show drR (m + 1) p s = if f 0 = 1 ∨ opnd (drA p s) (f 0) (f 1) = true then drA p s else gnF (drR m) (drA p s) (f 0) (f 1).toNat by
  show (if _ then _ else _) = _
  rw [hf])
 have HGN := hid (show f 0 ≠ 1 → opnd (drA p s) (f 0) (f 1) = false → ∃ b : Nat, f 1 = b ∧ ∀ X tgx, BoxT X wb tgx V (drA p s) → Calls Tryz.prog 46 #[.pointer (some ⟨wb, 0, none⟩), .int .i64 b] X fun r W' => r = .returned (.tuple #[]) ∧ ∃ tag', BoxT W' wb tag' V (gnF (drR m) (drA p s) (f 0) b) ∧ Kt tgx tag' X W' from fun h1 ho => by
  obtain ⟨b, hb, hk, h2, h8⟩ := ls_in hi hs h0 (by rw [hf]; exact h1)
  rw [hf] at hb hk h2 h8
  rw [hb] at ho
  exact ⟨b, hb, fun X tgx h => gone_any hd (drA p s) (f 0) b wb V hqi (ht.of rfl rfl) hn hk ho h2 h8 X tgx h⟩)
 clear bt hi hs h0 hn hd e2 hsl h24 hf hqi T0 ht hl1
 go_enter Tryz.func18, Tryz.ntmps18
 go_wp2_with fail
 refine HHAS.out.mono ?_
 rintro r w1 ⟨rfl, rfl⟩
 go_upto_region 5 with (first | ((with_reducible (show wpList _ _ _ (⟨_, Op.load 60 _, _, _, _, _⟩ :: _) _ _)); refine wp_ldY rfl _ rfl g2 (s * 7) rfl (cf 6 f) (cf_len _ _) RS.out ?_) | ((with_reducible (show wpList _ _ _ (⟨_, Op.store 60 _ _, _, _, _, _⟩ :: _) _ _)); refine wp_stY rfl _ _ rfl W.heap.size 0 rfl (cf 6 f) rfl (cf_len _ _) (cf_one _ _) HTH.out ?_))
 generalize World.setCells _ _ _ _ = W1 at *
 obtain ⟨kb, hkb⟩ : ∃ kb, W.heap.size = kb := ⟨_, rfl⟩
 rw [hkb] at RK1 T4 ⊢
 clear hkb c2 RS HTH HHAS
 have B1 := hid (HB.out.below BL1.out)
 have K1 := hid (show Kt tag tg W W1 from KR.out.trans (.below BL1.out))
 clear HB KR BL1
 have c2 : W1.cell? ⟨wb, 2, none⟩ = some (.slice (some ⟨g2, 0, none⟩) p.slots.length cap2) := by rw [range_cell B1.out.r (k := 2) rfl, E2.out]
 have x6 := X6.out _ B1.out
 clear X6
 have HTN := hid (turn_ref wb tg V p s (f 6) W1 B1.out HL1.out)
 generalize hz6 : f 6 = z6 at x6 HTN HQ
 clear hz6
 go_wp2_with fail
 refine HTN.out.mono ?_
 rintro r w2 ⟨rfl, b2, k2⟩
 have B2 := hid b2
 have K2 := hid (K1.out.trans k2)
 have RK2 := hid (show w2.rangeAt kb 0 (cf 6 f) from fun o v hv => k2.cell (RK1.out o v hv) T4.out)
 clear b2 k2 x6 c2 HTN B1 K1 RK1
 have he : V 2 = .slice (some ⟨g2, 0, none⟩) (hnd s z6 p.slots).length cap2 := by rw [hnd_len]; exact E2.out
 have c2 : w2.cell? ⟨wb, 2, none⟩ = some (.slice (some ⟨g2, 0, none⟩) p.slots.length cap2) := by rw [range_cell B2.out.r (k := 2) rfl, E2.out]
 have T2 := hid (B2.out.slotsThereD he (s * 7) 7 (by show s * 7 + 7 ≤ (hnd s z6 p.slots).length * 7; rw [hnd_len]; have := HS.out; omega))
 obtain ⟨b3, k3⟩ := B2.out.slotsRow he (i := s) (by show s < (hnd s z6 p.slots).length; rw [hnd_len]; exact HS.out) eS
 have B3 := hid (show BoxT (w2.setCells g2 (s * 7) (cf 7 eS)) wb tg V (drA p s) by rw [HQ.out]; exact b3)
 have K3 := hid (K2.out.trans k3)
 have RK3 := hid (show (w2.setCells g2 (s * 7) (cf 7 eS)).rangeAt kb 0 (cf 6 f) from fun o v hv => k3.cell (RK2.out o v hv) T4.out)
 clear b3 k3 he
 go_upto_region 7 with (first | ((with_reducible (show wpList _ _ _ (⟨_, Op.store 64 _ _, _, _, _, _⟩ :: _) _ _)); refine wp_stS rfl _ _ rfl g2 (s * 7) rfl (cf 7 eS) rfl (cf_len _ _) (cf_one _ _) T2.out ?_))
 generalize World.setCells _ _ _ _ = W3 at *
 clear c2 T2 B2 K2 RK2 HQ HS HL1
 generalize drA p s = q at *
 have EQ := hid (show V 2 = .slice (some ⟨g2, 0, none⟩) q.slots.length cap2 by rw [HQL.out]; exact E2.out)
 have RKB := hid (fun X (h : Below W3.heap.size W3 X) => show X.rangeAt kb 0 (cf 6 f) from range_belowO RK3.out h)
 generalize hz0 : f 0 = z0 at HRES HGN
 generalize hz1 : f 1 = z1 at HRES HGN
 have Y0 := hid (fun X (h : Below W3.heap.size W3 X) => show X.cell? ⟨kb, 0, none⟩ = some (.int .i64 z0) from range_cell (RKB.out X h) (k := 0) (by rw [cf_at 6 _ 0 (by omega), hz0]))
 have Y1 := hid (fun X (h : Below W3.heap.size W3 X) => show X.cell? ⟨kb, 1, none⟩ = some (.int .i64 z1) from range_cell (RKB.out X h) (k := 1) (by rw [cf_at 6 _ 1 (by omega), hz1]))
 clear RK3 RKB hz0 hz1
 go_wp2_with fail
 go_loopw [7] (fun i wr => ∃ (j : Nat), j ≤ p.slots.length ∧ i = .int .i64 j ∧ Hid (∀ t, t < j → ∀ g, q.slots[t]? = some g → (g 0 == z0 && g 1 == z1) = false) ∧ Hid (Below W3.heap.size W3 wr)) (fun i _ => p.slots.length - (intOf i).toNat)
 case atStart => exact ⟨0, by omega, rfl, hid (fun t h => absurd h (Nat.not_lt_zero _)), hid (Below.refl _ _)⟩
 case round =>
  obtain ⟨j, hj, rfl, HNO, HBL⟩ := hrel
  have c2 : wr.cell? ⟨wb, 2, none⟩ = some (.slice (some ⟨g2, 0, none⟩) p.slots.length cap2) := by rw [range_cell (B3.out.below HBL.out).r (k := 2) rfl, E2.out]
  have y0 := Y0.out _ HBL.out
  have y1 := Y1.out _ HBL.out
  by_cases hjl : j < p.slots.length
  ·have hjl2 : (j : Int) < (p.slots.length : Int) := by omega
   have hjq : j < q.slots.length := by rw [HQL.out]; exact hjl
   have x0 : wr.cell? ⟨g2, j * 7, none⟩ = some (.int .i64 (q.slots[j] 0)) := (B3.out.below HBL.out).slotsAt EQ.out hjq (show 0 < 7 by omega)
   have x1 := (B3.out.below HBL.out).slotsAt EQ.out hjq (show 1 < 7 by omega)
   have HM := hid (show q.slots[j]? = some q.slots[j] from List.getElem?_eq_getElem hjq)
   generalize q.slots[j] = g at x0 x1 HM
   have HYES := hid (show (g 0 == z0 && g 1 == z1) = true → opnd q z0 z1 = true from fun h => List.any_eq_true.2 ⟨g, List.mem_iff_getElem?.2 ⟨j, HM.out⟩, h⟩)
   have HNEXT := hid (show (g 0 == z0 && g 1 == z1) = false → ∀ t, t < j + 1 → ∀ g, q.slots[t]? = some g → (g 0 == z0 && g 1 == z1) = false from fun h t ht g2 h2 => by
    by_cases e : t = j
    ·rw [e, HM.out] at h2
     rw [← Option.some.inj h2]
     exact h
    ·exact HNO.out t (by omega) g2 h2)
   generalize g 0 = u0 at *
   generalize g 1 = u1 at *
   clear HM HNO
   by_cases e0 : u0 = z0
   ·have e0b : (u0 == z0) = true := by simpa using e0
    by_cases e1 : u1 = z1
    ·have e1b : (u1 == z1) = true := by simpa using e1
     have HOP := hid (HYES.out (by rw [e0b, e1b]; rfl))
     have HR := hid (show drR (m + 1) p s = q by rw [HRES.out, if_pos (.inr HOP.out)])
     clear e0 e1 HYES HNEXT
     go_wp2_with fail
     go_quiet (fail)
     have BB := hid (below_drewN HBL.out nq)
     generalize World.drewN _ _ = W4 at BB ⊢
     clear c2 y0 y1 x0 x1
     go_wp2_with fail
     go_ret
     exact ⟨rfl, tg, by rw [HR.out]; exact B3.out.below BB.out, K3.out.trans (.below BB.out)⟩
    ·have e1b : (u1 == z1) = false := by simpa using e1
     have HN := hid (HNEXT.out (by rw [e0b, e1b]; rfl))
     clear e0 e1 HYES HNEXT
     go_wp2_with fail
     go_quiet (fail)
     have BB := hid (below_drewN HBL.out nq)
     generalize World.drewN _ _ = W4 at BB ⊢
     clear c2 y0 y1 x0 x1
     go_wp2_with fail
     exact ⟨⟨j + 1, by omega, by go_num, HN, BB⟩, by simp [intOf]; omega⟩
   ·have e0b : (u0 == z0) = false := by simpa using e0
    have HN := hid (HNEXT.out (by rw [e0b]; rfl))
    clear e0 HYES HNEXT
    go_wp2_with fail
    go_quiet (fail)
    have BB := hid (below_drewN HBL.out nq)
    generalize World.drewN _ _ = W4 at BB ⊢
    clear c2 y0 y1 x0 x1
    go_wp2_with fail
    exact ⟨⟨j + 1, by omega, by go_num, HN, BB⟩, by simp [intOf]; omega⟩
  ·obtain rfl : j = p.slots.length := by omega
   have hge2 : ¬ ((p.slots.length : Int) < (p.slots.length : Int)) := by omega
   have HOP := hid (show opnd q z0 z1 = false from List.any_eq_false.2 fun g hg h => by
    obtain ⟨t, ht⟩ := List.mem_iff_getElem?.1 hg
    have h3 := HNO.out t (by have := (List.getElem?_eq_some_iff.1 ht).1; rw [HQL.out] at this; exact this) g ht
    rw [h3] at h
    cases h)
   have B5 := hid (B3.out.below HBL.out)
   have K5 := hid (K3.out.trans (.below HBL.out))
   clear HNO
   by_cases h1 : z0 = 1
   ·have h1b : (z0 != 1) = false := by rw [h1]; rfl
    have HR := hid (show drR (m + 1) p s = q by rw [HRES.out, if_pos (.inl h1)])
    clear h1
    go_wp2_with fail
    go_ret
    exact ⟨rfl, tg, by rw [HR.out]; exact B5.out, K5.out⟩
   ·have h1b : (z0 != 1) = true := by simpa using h1
    obtain ⟨b, hb, hlo⟩ := HGN.out h1 HOP.out
    have HR := hid (show drR (m + 1) p s = gnF (drR m) q z0 b by rw [HRES.out, if_neg (by rintro (e | e); exact h1 e; rw [HOP.out] at e; cases e), hb, Int.toNat_natCast])
    rw [hb] at y1
    have HL := hid (hlo _ _ B5.out)
    clear h1 hb hlo HGN HRES HOP
    go_wp2_with fail
    refine HL.out.mono ?_
    rintro r w9 ⟨rfl, tg9, b9, k9⟩
    have B9 := hid b9
    have K9 := hid (K5.out.trans k9)
    clear b9 k9
    go_wp2_with fail
    go_ret
    exact ⟨rfl, tg9, by rw [HR.out]; exact B9.out, K9.out⟩
theorem ref_any : ∀ m, RefAt m
 | 0 => fun _ _ _ _ _ _ hn => absurd hn (Nat.not_lt_zero _)
 | m + 1 => ref_next (ref_any m)
theorem has_inD {p : PW} {n : Int} (h : hasE p n = 0) : ∃ j : Nat, n = j ∧ j < p.slots.length ∧ (p.slots.getD j eS) 0 ≠ 0 := by
 unfold hasE at h
 cases hs : slotB p n with
 | false => rw [hs, if_neg (by decide)] at h; cases h
 | true =>
  obtain ⟨j, rfl, hj⟩ := slotB_in hs
  rw [hs, if_pos rfl, Int.toNat_natCast] at h
  refine ⟨j, rfl, hj, fun e => ?_⟩
  rw [List.getD_eq_getElem?_getD, List.getElem?_eq_getElem hj, Option.getD_some] at h e
  rw [if_pos e] at h
  cases h
theorem snd_back {p : PW} (h : Snd p) : sndB p = true := by
 have h1 : lfB p = true := by
  have := h.lf
  unfold lfB
  simp only [Bool.and_eq_true, decide_eq_true_eq, beq_iff_eq]
  have a := this.k1
  have b := this.k2
  have c := this.c1
  have d := this.c2
  have e := this.d1
  have f := this.d2
  have g := this.ram
  have i := this.slots
  have j := this.tasks
  have k := this.lines
  have l := this.bits
  have m := this.ready
  have n := this.tlbs
  omega
 unfold sndB wmA
 rw [h1, h.tm, Bool.and_self, if_pos rfl, looks_eq, lk_none h.b0, lk_none h.b1, lk_none h.b2, lk_none h.b3, lk_none h.b4, lk_none h.b5, lk_none h.b6, lk_none h.b7, lk_none h.b8, lk_none h.b9, lk_none h.b10]
 rfl
/-- The world behind the drop of a key. -/
def dkP (p : PW) (a : Int) : PW := if sndB p = true ∧ hasE p a = 0 then fgt (drF (nds p + 1) p a.toNat) else p
theorem dk_yes {p : PW} {j : Nat} (h : Snd p) (h0 : hasE p j = 0) : dkP p j = fgt (drF (nds p + 1) p j) := by
 unfold dkP
 rw [if_pos ⟨snd_back h, h0⟩, Int.toNat_natCast]
theorem dr_tl {p : PW} (hp : p.Fits) (h : Snd p) {j : Nat} (hj : j < p.slots.length) (h0 : (p.slots.getD j eS) 0 ≠ 0) : Inv (drF (nds p + 1) p j) ∧ TL (drF (nds p + 1) p j) := by
 have hi := snd_inv hp h
 have ht := snd_tl h
 obtain ⟨g, -, lo, -, -⟩ := rec_any (nds p + 1) p j (by omega) hi ht hj h0
 refine ⟨(dr_inv (nds p + 1) p j (by omega) hi hj h0).1, by rw [dr_tlbs]; exact ht.len, by rw [dr_tlbs]; exact ht.page, fun z hz => ?_⟩
 obtain ⟨i, hi2⟩ := List.mem_iff_getElem?.1 hz
 have e : (drF (nds p + 1) p j).ram.getD i 0 = z := by rw [List.getD_eq_getElem?_getD, hi2]; rfl
 rcases lo.ram i with h1 | h1
 ·rw [e] at h1
  rw [h1]
  cases e2 : p.ram[i]? with
  | none => rw [List.getD_eq_getElem?_getD, e2]; exact ⟨by decide, by decide⟩
  | some y => rw [List.getD_eq_getElem?_getD, e2]; exact ht.word y (List.mem_iff_getElem?.2 ⟨i, e2⟩)
 ·rw [e] at h1
  rw [h1]
  exact ⟨by decide, by decide⟩
theorem dk_ok {p : PW} (hp : p.Fits) (hl : ∀ l ∈ p.tlbs, l.length ≤ 100) (a : Int) : (dkP p a).Fits ∧ ∀ l ∈ (dkP p a).tlbs, l.length ≤ 100 := by
 by_cases hc : sndB p = true ∧ hasE p a = 0
 ·obtain ⟨j, rfl, hj, h0⟩ := has_inD hc.2
  rw [dk_yes (snd_of hc.1) hc.2]
  obtain ⟨hi, ht⟩ := dr_tl hp (snd_of hc.1) hj h0
  have f := hi.fits
  refine ⟨⟨f.ram, f.kinds, f.slots, f.tasks, f.lines, f.line, f.bits, f.cores, f.ready, f.next, ?_, f.doms⟩, fun l hl2 => ?_⟩
  ·show (List.map _ _).length ≤ 1000
   rw [List.length_map]; exact f.tlbs
  ·obtain ⟨l0, h1, rfl⟩ := List.mem_map.1 (show l ∈ (drF (nds p + 1) p j).tlbs.map _ from hl2)
   exact Nat.le_trans (List.length_filter_le ..) (ht.len l0 h1)
 ·have e : dkP p a = p := by unfold dkP; rw [if_neg hc]
  rw [e]
  exact ⟨hp, hl⟩
set_option maxRecDepth 100000 in
theorem drop1_any (c0 : Nat) (m : Nat) (p : PW) (s : Nat) (W : World) (wb : Nat) (tag : Nat → Nat) (V : Nat → Value) (hn : nds p < m) (hi : Inv p) (hs : s < p.slots.length) (h0 : (p.slots.getD s eS) 0 ≠ 0) (bt : BoxT W wb tag V p) (x : W.cell? ⟨c0, 0, none⟩ = some (.int .i64 s)) :
  Calls Tryz.prog 43 #[.pointer (some ⟨wb, 0, none⟩), .pointer (some ⟨c0, 0, none⟩)] W fun r W' => r = .returned (.tuple #[]) ∧ ∃ tag', BoxT W' wb tag' V (drF m p s) ∧ Kt tag tag' W W' := by
 have HD := hid (drop_any m p s W wb tag V hn hi hs h0 bt)
 clear hn hi hs h0 bt
 go_enter Tryz.func43, Tryz.ntmps43
 go_wp2_with fail
 refine HD.out.mono ?_
 rintro r w1 ⟨rfl, h1⟩
 have H1 := hid h1
 clear h1
 go_wp2_with fail
 exact bodyPost_end (results_none rfl _ _ _) rfl ⟨rfl, H1.out⟩
/-- What a taking of keys does to a world in its box. -/
def Takes (fn c0 : Nat) (a : Int) (p q : PW) : Prop := ∀ (W : World) (wb : Nat) (tag : Nat → Nat) (V : Nat → Value), BoxT W wb tag V p → W.cell? ⟨c0, 0, none⟩ = some (.int .i64 a) → tag c0 = 0 →
 Calls Tryz.prog fn #[.pointer (some ⟨wb, 0, none⟩), .pointer (some ⟨c0, 0, none⟩)] W fun r W' => r = .returned (.tuple #[]) ∧ ∃ tag', BoxT W' wb tag' V q ∧ Kt tag tag' W W'
set_option maxRecDepth 100000 in
set_option maxHeartbeats 2000000 in
theorem taken_deed (fn c1 c2 c0 : Nat) (a : Int) (p q P : PW) (hp : p.Fits) (hl : ∀ l ∈ p.tlbs, l.length ≤ 100) (hcf : ∀ args (W : World), (callFunc fn args).run Tryz.prog W = .ok (.enter fn args) W) (hq : hasE p a = 0 → Inv q ∧ TL q ∧ P = fgt q ∧ Takes fn c0 a p q) :
  DeedT 63 #[ptr c1, ptr c2] (CapsT [(c1, .int .i64 a), (c2, .func (.func fn) #[] #[.pointer (some ⟨c0, 0, none⟩)]), (c0, .int .i64 a)]) eV p P (hasE p a) := by
 intro W wb tag V bt hc
 have x1 := (hc (c1, .int .i64 a) (by simp)).1
 have x2 := (hc (c2, .func (.func fn) #[] #[.pointer (some ⟨c0, 0, none⟩)]) (by simp)).1
 have x0 := hc (c0, .int .i64 a) (by simp)
 have HB := hid (full_any wb V p a W (bt.view hp hl))
 unfold ptr
 simp only [List.append_toArray, List.cons_append, List.nil_append]
 by_cases hb : hasE p a = 0
 rotate_left
 ·have HN := hid hb
  rw [eV_n hb] at HB ⊢
  generalize hasE p a = x at HB HN ⊢
  clear hb hl hp bt hc hq
  go_enter Tryz.func63, Tryz.ntmps63
  go_wp2_with fail
  refine HB.out.mono ?_
  rintro q w1 ⟨rfl, rfl⟩
  go_wp2_with fail
  go_ret
  exact ⟨rfl, tag, Kt.refl _ _, fun h => absurd h HN.out⟩
 obtain ⟨hi, ht, he, hT⟩ := hq hb
 have HD := hid (hT W wb tag V bt x0.1 x0.2)
 have HPP := hid he
 have HF := hid (fun X tgx (h : BoxT X wb tgx V q) => forget_any wb tgx V q X h hi.fits ht.len ht.word (by have := hi.ram; have := hi.k24; omega))
 rw [hb, eV_0] at HB
 rw [hb, eV_0]
 clear hb hl hp bt hc hi ht he hT hq x0
 go_enter Tryz.func63, Tryz.ntmps63
 go_wp2_with fail
 refine HB.out.mono ?_
 rintro y w1 ⟨rfl, rfl⟩
 go_wp2_with fail
 refine HD.out.mono ?_
 rintro y w2 ⟨rfl, tg2, b2, k2⟩
 have B2 := hid b2
 have K2 := hid k2
 clear b2 k2 HD
 go_wp2_with fail
 refine (HF.out _ _ B2.out).mono ?_
 rintro y w3 ⟨rfl, tg3, b3, k3⟩
 have B3 := hid b3
 have K3 := hid (K2.out.trans k3)
 clear b3 k3 HF
 go_wp2_with fail
 go_ret
 exact ⟨rfl, tg3, K3.out, fun _ => ⟨V, by rw [HPP.out]; exact B3.out⟩⟩
theorem dropKey_any (a : Int) (p : PW) (hp : p.Fits) (hl : ∀ l ∈ p.tlbs, l.length ≤ 100) (hs : Snd p) (W : World) (wb : Nat) (tag : Nat → Nat) (V : Nat → Value) (bt : BoxT W wb tag V p) :
  Calls Tryz.prog 18 #[.pointer (some ⟨wb, 0, none⟩), .int .i64 a] W fun x W' => x = .returned (.int .i64 (hasE p a)) ∧ ∃ tag', Kt tag tag' W W' ∧ (hasE p a = 0 → ∃ V', BoxT W' wb tag' V' (dkP p a)) := by
 by_cases hb : hasE p a = 0
 ·obtain ⟨j, rfl, hj, h0⟩ := has_inD hb
  refine (ref_any (nds p + 1) p j W wb tag V (by omega) (snd_inv hp hs) (snd_tl hs) hj bt).mono ?_
  rintro r w1 ⟨rfl, tg1, b1, k1⟩
  rw [if_neg h0] at b1 ⊢
  exact ⟨by rw [hb], tg1, k1, fun _ => ⟨V, by rw [dk_yes hs hb, ← rr_eq hp hs (by omega) hj h0]; exact b1⟩⟩
 ·have HN := hid hb
  have hbb : (hasE p a != 0) = true := by simpa using hb
  have HB := hid (has_ref wb V p a W (bt.view hp hl))
  generalize hasE p a = x at HB HN hbb ⊢
  clear hb hs hl hp bt
  go_enter Tryz.func18, Tryz.ntmps18
  go_wp2_with fail
  refine HB.out.mono ?_
  rintro q w1 ⟨rfl, rfl⟩
  go_wp2_with fail
  go_ret
  exact ⟨rfl, tag, Kt.refl _ _, fun h => absurd h HN.out⟩
theorem cf_t0 (args : Array Value) (W : World) : (callFunc 43 args).run Tryz.prog W = .ok (.enter 43 args) W := by
 go_simp
theorem drop_deed (c1 c2 c0 : Nat) (a : Int) (p : PW) (hp : p.Fits) (hl : ∀ l ∈ p.tlbs, l.length ≤ 100) (hs : Snd p) : DeedT 63 #[ptr c1, ptr c2] (CapsT [(c1, .int .i64 a), (c2, .func (.func 43) #[] #[.pointer (some ⟨c0, 0, none⟩)]), (c0, .int .i64 a)]) eV p (dkP p a) (hasE p a) :=
 taken_deed _ c1 c2 c0 a p (drF (nds p + 1) p a.toNat) _ hp hl cf_t0 fun hb => by
  obtain ⟨j, rfl, hj, h0⟩ := has_inD hb
  rw [Int.toNat_natCast]
  obtain ⟨hi, ht⟩ := dr_tl hp hs hj h0
  exact ⟨hi, ht, dk_yes hs hb, fun W wb tag V bt x _ => drop1_any c0 (nds p + 1) p j W wb tag V (by omega) (snd_inv hp hs) hj h0 bt x⟩
theorem cf_t1 (args : Array Value) (W : World) : (callFunc 63 args).run Tryz.prog W = .ok (.enter 63 args) W := by
 go_simp
theorem cf_t2 (args : Array Value) (W : World) : (callFunc 17 args).run Tryz.prog W = .ok (.enter 17 args) W := by
 go_simp
set_option maxRecDepth 100000 in
theorem dropRef_deed (c1 : Nat) (a : Int) (p : PW) (hp : p.Fits) (hl : ∀ l ∈ p.tlbs, l.length ≤ 100) (hs : Snd p) : DeedT 17 #[ptr c1] (CapsT [(c1, .int .i64 a)]) (fun e => .int .i64 e) p (dkP p a) (hasE p a) := by
 intro W wb tag V bt hc
 have x1 := (hc (c1, .int .i64 a) (by simp)).1
 have HK := hid (dropKey_any a p hp hl hs W wb tag V bt)
 clear hs hl hp bt hc
 unfold ptr
 simp only [List.append_toArray, List.cons_append, List.nil_append]
 go_enter Tryz.func17, Tryz.ntmps17
 go_wp2_with fail
 refine HK.out.mono ?_
 rintro q w1 ⟨rfl, h1⟩
 have H1 := hid h1
 clear h1
 go_wp2_with fail
 go_ret
 exact ⟨rfl, H1.out⟩
set_option maxRecDepth 100000 in
set_option maxHeartbeats 4000000 in
theorem taken_any (fn : Nat) (V : Nat → Value) (p P : PW) (a : Int) (c0 : Nat) (w : World) (hv : WorldV w V p) (hp : p.Fits) (hc : w.cell? ⟨c0, 0, none⟩ = some (.int .i64 a)) (hP : ∀ l ∈ P.tlbs, l.length ≤ 100) (hd : Snd p → ∀ c1 c2, DeedT 63 #[ptr c1, ptr c2] (CapsT [(c1, .int .i64 a), (c2, .func (.func fn) #[] #[.pointer (some ⟨c0, 0, none⟩)]), (c0, .int .i64 a)]) eV p P (hasE p a)) :
  Calls Tryz.prog 42 #[.agg (arr11 V), .int .i64 a, .func (.func fn) #[] #[.pointer (some ⟨c0, 0, none⟩)]] w fun x w' => ∃ X, x = .returned (.tuple #[.agg (arr11 X), eV (dE p (hasE p a))]) ∧ FarV w' w.heap.size X (dP p P (hasE p a)) ∧ Below w.heap.size w w' := by
 have RG0 := boxed w V 28
 have RG1 := range_below RG0 (bal (Below.refl _ (w.alloc (.cells (arr11 V) 28))) (.cells #[.int .i64 a] 3))
 have RG2 := range_below RG1 (bal (Below.refl _ ((w.alloc (.cells (arr11 V) 28)).alloc (.cells #[.int .i64 a] 3))) (.cells #[.func (.func fn) #[] #[.pointer (some ⟨c0, 0, none⟩)]] 73))
 have RG3 := range_below RG2 (bal (Below.refl _ (((w.alloc (.cells (arr11 V) 28)).alloc (.cells #[.int .i64 a] 3)).alloc (.cells #[.func (.func fn) #[] #[.pointer (some ⟨c0, 0, none⟩)]] 73))) (.cells #[.slice none 0 0, .slice none 0 0, .slice none 0 0, .slice none 0 0, .slice none 0 0, .slice none 0 0, .slice none 0 0, .slice none 0 0, .slice none 0 0, .slice none 0 0, .int .i64 0] 28))
 have RG := hid RG3
 have B0 := hid (bal (bal (bal (bal (Below.refl w.heap.size w) (.cells (arr11 V) 28)) (.cells #[.int .i64 a] 3)) (.cells #[.func (.func fn) #[] #[.pointer (some ⟨c0, 0, none⟩)]] 73)) (.cells #[.slice none 0 0, .slice none 0 0, .slice none 0 0, .slice none 0 0, .slice none 0 0, .slice none 0 0, .slice none 0 0, .slice none 0 0, .slice none 0 0, .slice none 0 0, .int .i64 0] 28))
 have y1 := (cells_alloc (cells_alloc (cells_at (w.alloc (.cells (arr11 V) 28)) #[.int .i64 a] 3 (w.heap.size + 1) (by simp)) (by simp) (.cells #[.func (.func fn) #[] #[.pointer (some ⟨c0, 0, none⟩)]] 73)) (by simp) (.cells #[.slice none 0 0, .slice none 0 0, .slice none 0 0, .slice none 0 0, .slice none 0 0, .slice none 0 0, .slice none 0 0, .slice none 0 0, .slice none 0 0, .slice none 0 0, .int .i64 0] 28)) 0
 have y2 := (cells_alloc (cells_at ((w.alloc (.cells (arr11 V) 28)).alloc (.cells #[.int .i64 a] 3)) #[.func (.func fn) #[] #[.pointer (some ⟨c0, 0, none⟩)]] 73 (w.heap.size + 2) (by simp)) (by simp) (.cells #[.slice none 0 0, .slice none 0 0, .slice none 0 0, .slice none 0 0, .slice none 0 0, .slice none 0 0, .slice none 0 0, .slice none 0 0, .slice none 0 0, .slice none 0 0, .int .i64 0] 28)) 0
 have y3 := (B0.out.cell (World.block_lt_of_cell? _ _ hc)).trans hc
 have HC := hid (show Caps [((w.heap.size + 1), .int .i64 a), ((w.heap.size + 2), .func (.func fn) #[] #[.pointer (some ⟨c0, 0, none⟩)]), (c0, .int .i64 a)] ((((w.alloc (.cells (arr11 V) 28)).alloc (.cells #[.int .i64 a] 3)).alloc (.cells #[.func (.func fn) #[] #[.pointer (some ⟨c0, 0, none⟩)]] 73)).alloc (.cells #[.slice none 0 0, .slice none 0 0, .slice none 0 0, .slice none 0 0, .slice none 0 0, .slice none 0 0, .slice none 0 0, .slice none 0 0, .slice none 0 0, .slice none 0 0, .int .i64 0] 28)) from fun x hx => by
  simp only [List.mem_cons, List.not_mem_nil, or_false] at hx
  rcases hx with rfl | rfl | rfl
  ·exact y1
  ·exact y2
  ·exact y3)
 have SZ := hid (show ((((w.alloc (.cells (arr11 V) 28)).alloc (.cells #[.int .i64 a] 3)).alloc (.cells #[.func (.func fn) #[] #[.pointer (some ⟨c0, 0, none⟩)]] 73)).alloc (.cells #[.slice none 0 0, .slice none 0 0, .slice none 0 0, .slice none 0 0, .slice none 0 0, .slice none 0 0, .slice none 0 0, .slice none 0 0, .slice none 0 0, .slice none 0 0, .int .i64 0] 28)).heap.size = w.heap.size + 4 by simp)
 have TR := hid (there_new (((w.alloc (.cells (arr11 V) 28)).alloc (.cells #[.int .i64 a] 3)).alloc (.cells #[.func (.func fn) #[] #[.pointer (some ⟨c0, 0, none⟩)]] 73)) #[.slice none 0 0, .slice none 0 0, .slice none 0 0, .slice none 0 0, .slice none 0 0, .slice none 0 0, .slice none 0 0, .slice none 0 0, .slice none 0 0, .slice none 0 0, .int .i64 0] 28 (w.heap.size + 3) 11 (by simp) (by decide))
 clear RG0 RG1 RG2 RG3
 have HD := hid (do_far 63 #[ptr (w.heap.size + 1), ptr (w.heap.size + 2)] (Caps [((w.heap.size + 1), .int .i64 a), ((w.heap.size + 2), .func (.func fn) #[] #[.pointer (some ⟨c0, 0, none⟩)]), (c0, .int .i64 a)]) V p P (hasE p a) ((((w.alloc (.cells (arr11 V) 28)).alloc (.cells #[.int .i64 a] 3)).alloc (.cells #[.func (.func fn) #[] #[.pointer (some ⟨c0, 0, none⟩)]] 73)).alloc (.cells #[.slice none 0 0, .slice none 0 0, .slice none 0 0, .slice none 0 0, .slice none 0 0, .slice none 0 0, .slice none 0 0, .slice none 0 0, .slice none 0 0, .slice none 0 0, .int .i64 0] 28)) (hv.below B0.out) hp cf_t1 (fun X h => HC.out.below h) (fun h => (hd h _ _).caps hP))
 unfold ptr at HD
 generalize dE p (hasE p a) = de at HD ⊢
 generalize dP p P (hasE p a) = dp at HD ⊢
 clear hv hp y1 y2 y3 hc hP hd
 go_enter Tryz.func42, Tryz.ntmps42
 go_wp2_with (first | ((with_reducible (show wpList _ _ _ (⟨_, Op.load 28 _, _, _, _, _⟩ :: _) _ _)); refine wp_ldWg (by rfl) _ rfl _ rfl V RG.out ?_))
 generalize World.alloc _ _ = W0 at *
 refine HD.out.mono ?_
 rintro q w1 ⟨X, rfl, hF, hb⟩
 have T1 := hid (there_belowO TR.out hb)
 have one := hid (world_one hF.v0)
 have RX := hid (World.rangeAt_setCells_same w1 (w.heap.size + 3) 0 (arr11 X).toList T1.out)
 have BX := hid (below_setCells (btr B0.out hb) (show w.heap.size ≤ w.heap.size + 3 by omega) (arr11 X).toList 0)
 have WX := hid ((hF.put (w.heap.size + 3) 0 (arr11 X).toList (by rw [SZ.out]; omega)).mono (show w.heap.size ≤ _ by rw [SZ.out]; omega))
 clear hF hb HD
 go_wp2_with (first | ((with_reducible (show wpList _ _ _ (⟨_, Op.store 28 _ _, _, _, _, _⟩ :: _) _ _)); refine wpList_store_mid rfl 28 _ _ rfl (w.heap.size + 3) 0 (arr11 X) rfl rfl T1.out infoW one.out ?_))
 exact bodyPost_ret (v := .tuple #[.agg (arr11 X), eV de]) (results_d2 rfl rfl (run_loadVar_mid _ (w.heap.size + 3) 0 28 (arr11 X).toList _ RX.out Tryz.underlying28 rfl infoW) rfl) rfl ⟨X, rfl, WX.out, BX.out⟩
set_option maxRecDepth 100000 in
set_option maxHeartbeats 4000000 in
theorem treeDrop_any (V : Nat → Value) (p : PW) (a : Int) (w : World) (hv : WorldV w V p) (hp : p.Fits) :
  Calls Tryz.prog 16 #[.agg (arr11 V), .int .i64 a] w fun x w' => ∃ X, x = .returned (.tuple #[.agg (arr11 X), eV (dE p (hasE p a))]) ∧ FarV w' w.heap.size X (dP p (dkP p a) (hasE p a)) ∧ Below w.heap.size w w' := by
 have RG0 := boxed w V 28
 have RG1 := range_below RG0 (bal (Below.refl _ (w.alloc (.cells (arr11 V) 28))) (.cells #[.int .i64 a] 3))
 have RG2 := range_below RG1 (bal (Below.refl _ ((w.alloc (.cells (arr11 V) 28)).alloc (.cells #[.int .i64 a] 3))) (.cells #[.slice none 0 0, .slice none 0 0, .slice none 0 0, .slice none 0 0, .slice none 0 0, .slice none 0 0, .slice none 0 0, .slice none 0 0, .slice none 0 0, .slice none 0 0, .int .i64 0] 28))
 have RG := hid RG2
 have B0 := hid (bal (bal (bal (Below.refl w.heap.size w) (.cells (arr11 V) 28)) (.cells #[.int .i64 a] 3)) (.cells #[.slice none 0 0, .slice none 0 0, .slice none 0 0, .slice none 0 0, .slice none 0 0, .slice none 0 0, .slice none 0 0, .slice none 0 0, .slice none 0 0, .slice none 0 0, .int .i64 0] 28))
 have y1 := (cells_alloc (cells_at (w.alloc (.cells (arr11 V) 28)) #[.int .i64 a] 3 (w.heap.size + 1) (by simp)) (by simp) (.cells #[.slice none 0 0, .slice none 0 0, .slice none 0 0, .slice none 0 0, .slice none 0 0, .slice none 0 0, .slice none 0 0, .slice none 0 0, .slice none 0 0, .slice none 0 0, .int .i64 0] 28)) 0
 have HC := hid (show Caps [((w.heap.size + 1), .int .i64 a)] (((w.alloc (.cells (arr11 V) 28)).alloc (.cells #[.int .i64 a] 3)).alloc (.cells #[.slice none 0 0, .slice none 0 0, .slice none 0 0, .slice none 0 0, .slice none 0 0, .slice none 0 0, .slice none 0 0, .slice none 0 0, .slice none 0 0, .slice none 0 0, .int .i64 0] 28)) from fun x hx => by
  simp only [List.mem_cons, List.not_mem_nil, or_false] at hx
  subst hx
  exact y1)
 have SZ := hid (show (((w.alloc (.cells (arr11 V) 28)).alloc (.cells #[.int .i64 a] 3)).alloc (.cells #[.slice none 0 0, .slice none 0 0, .slice none 0 0, .slice none 0 0, .slice none 0 0, .slice none 0 0, .slice none 0 0, .slice none 0 0, .slice none 0 0, .slice none 0 0, .int .i64 0] 28)).heap.size = w.heap.size + 3 by simp)
 have TR := hid (there_new ((w.alloc (.cells (arr11 V) 28)).alloc (.cells #[.int .i64 a] 3)) #[.slice none 0 0, .slice none 0 0, .slice none 0 0, .slice none 0 0, .slice none 0 0, .slice none 0 0, .slice none 0 0, .slice none 0 0, .slice none 0 0, .slice none 0 0, .int .i64 0] 28 (w.heap.size + 2) 11 (by simp) (by decide))
 clear RG0 RG1 RG2
 have HL := hid (tlbs_le hv.tlbs)
 have HD := hid (taken_any 43 V p (dkP p a) a (w.heap.size + 1) (((w.alloc (.cells (arr11 V) 28)).alloc (.cells #[.int .i64 a] 3)).alloc (.cells #[.slice none 0 0, .slice none 0 0, .slice none 0 0, .slice none 0 0, .slice none 0 0, .slice none 0 0, .slice none 0 0, .slice none 0 0, .slice none 0 0, .slice none 0 0, .int .i64 0] 28)) (hv.below B0.out) hp y1 (dk_ok hp HL.out a).2 (fun h c1 c2 => drop_deed c1 c2 _ a p hp HL.out h))
 generalize dE p (hasE p a) = de at HD ⊢
 generalize dP p (dkP p a) (hasE p a) = dp at HD ⊢
 clear hv hp HL y1
 go_enter Tryz.func16, Tryz.ntmps16
 go_wp2_with (first | ((with_reducible (show wpList _ _ _ (⟨_, Op.load 28 _, _, _, _, _⟩ :: _) _ _)); refine wp_ldWg (by rfl) _ rfl _ rfl V RG.out ?_))
 generalize World.alloc _ _ = W0 at *
 refine HD.out.mono ?_
 rintro q w1 ⟨X, rfl, hF, hb⟩
 have T1 := hid (there_belowO TR.out hb)
 have one := hid (world_one hF.v0)
 have RX := hid (World.rangeAt_setCells_same w1 (w.heap.size + 2) 0 (arr11 X).toList T1.out)
 have BX := hid (below_setCells (btr B0.out hb) (show w.heap.size ≤ w.heap.size + 2 by omega) (arr11 X).toList 0)
 have WX := hid ((hF.put (w.heap.size + 2) 0 (arr11 X).toList (by rw [SZ.out]; omega)).mono (show w.heap.size ≤ _ by rw [SZ.out]; omega))
 clear hF hb HD
 go_wp2_with (first | ((with_reducible (show wpList _ _ _ (⟨_, Op.store 28 _ _, _, _, _, _⟩ :: _) _ _)); refine wpList_store_mid rfl 28 _ _ rfl (w.heap.size + 2) 0 (arr11 X) rfl rfl T1.out infoW one.out ?_))
 exact bodyPost_ret (v := .tuple #[.agg (arr11 X), eV de]) (results_d2 rfl rfl (run_loadVar_mid _ (w.heap.size + 2) 0 28 (arr11 X).toList _ RX.out Tryz.underlying28 rfl infoW) rfl) rfl ⟨X, rfl, WX.out, BX.out⟩
set_option maxRecDepth 100000 in
set_option maxHeartbeats 4000000 in
theorem treeDrops_any (V : Nat → Value) (p : PW) (a : Int) (w : World) (hv : WorldR w V p) (hg : ETok w) :
  Calls Tryz.prog 5 #[.agg (arr11 V), .int .i64 a] w fun x w' => x = .returned (.bool true) ∧ Below w.heap.size w w' := by
 have RG0 := boxed w V 28
 have RG1 := range_below RG0 (bal (Below.refl _ (w.alloc (.cells (arr11 V) 28))) (.cells #[.int .i64 a] 3))
 have RG := hid RG1
 have B0 := hid (bal (bal (Below.refl w.heap.size w) (.cells (arr11 V) 28)) (.cells #[.int .i64 a] 3))
 have y1 := (cells_at (w.alloc (.cells (arr11 V) 28)) #[.int .i64 a] 3 (w.heap.size + 1) (by simp)) 0
 have HC := hid (show Caps [((w.heap.size + 1), .int .i64 a)] ((w.alloc (.cells (arr11 V) 28)).alloc (.cells #[.int .i64 a] 3)) from fun x hx => by
  simp only [List.mem_cons, List.not_mem_nil, or_false] at hx
  subst hx
  exact y1)
 have SZ := hid (show ((w.alloc (.cells (arr11 V) 28)).alloc (.cells #[.int .i64 a] 3)).heap.size = w.heap.size + 2 by simp)
 clear RG0 RG1
 have HH := hid (hugeWorld_any V p ((w.alloc (.cells (arr11 V) 28)).alloc (.cells #[.int .i64 a] 3)) (hv.below B0.out))
 by_cases hs : Small p
 rotate_left
 ·rw [huge_t hs] at HH
  clear hv hg hs
  go_enter Tryz.func5, Tryz.ntmps5
  go_wp2_with (first | ((with_reducible (show wpList _ _ _ (⟨_, Op.load 28 _, _, _, _, _⟩ :: _) _ _)); refine wp_ldWg (by rfl) _ rfl _ rfl V RG.out ?_))
  refine HH.out.mono ?_
  rintro q w1 ⟨rfl, hb⟩
  have BB := hid (btr B0.out hb)
  clear hb
  go_wp2_with fail
  go_ret
  exact ⟨rfl, BB.out⟩
 rw [huge_f hs] at HH
 obtain ⟨hw, hp⟩ := small_world hv hs
 have HP := hid hp
 have HV := hid hw
 have HG := hid hg
 have HL := hid (tlbs_le hw.tlbs)
 have HSM := hid hs
 clear hv hg hs hw hp y1
 go_enter Tryz.func5, Tryz.ntmps5
 go_wp2_with (first | ((with_reducible (show wpList _ _ _ (⟨_, Op.load 28 _, _, _, _, _⟩ :: _) _ _)); refine wp_ldWg (by rfl) _ rfl _ rfl V RG.out ?_))
 generalize World.alloc _ _ = W0 at *
 refine HH.out.mono ?_
 rintro q w1 ⟨rfl, hb⟩
 have B1 := hid (btr B0.out hb)
 have R1 := hid (range_below RG.out hb)
 have C1 := hid (HC.out.below hb)
 have z1 := C1.out ((w.heap.size + 1), .int .i64 a) (by simp)
 have D1 := hid (show Below W0.heap.size W0 w1 from hb)
 clear hb HH
 go_wp2_with (first | ((with_reducible (show wpList _ _ _ (⟨_, Op.load 28 _, _, _, _, _⟩ :: _) _ _)); refine wp_ldWg (by rfl) _ rfl _ rfl V R1.out ?_))
 refine (treeDrop_any V p a w1 (HV.out.below B1.out) HP.out).mono ?_
 rintro q w2 ⟨X, rfl, hF, hb⟩
 have hX := hF.v0
 clear hF
 have B2 := hid (btr B1.out hb)
 have TN := hid (there_new w2 #[.slice none 0 0, .slice none 0 0, .slice none 0 0, .slice none 0 0, .slice none 0 0, .slice none 0 0, .slice none 0 0, .slice none 0 0, .slice none 0 0, .slice none 0 0, .int .i64 0] 28 w2.heap.size 11 rfl (by decide))
 have one := hid (world_one hX)
 have D3 := hid (show Below w2.heap.size w2 ((w2.alloc (.cells #[.slice none 0 0, .slice none 0 0, .slice none 0 0, .slice none 0 0, .slice none 0 0, .slice none 0 0, .slice none 0 0, .slice none 0 0, .slice none 0 0, .slice none 0 0, .int .i64 0] 28)).setCells w2.heap.size 0 (arr11 X).toList) from below_setCells (bal (Below.refl _ w2) (.cells #[.slice none 0 0, .slice none 0 0, .slice none 0 0, .slice none 0 0, .slice none 0 0, .slice none 0 0, .slice none 0 0, .slice none 0 0, .slice none 0 0, .slice none 0 0, .int .i64 0] 28)) (Nat.le_refl _) _ 0)
 have RX := hid (World.rangeAt_setCells_same (w2.alloc (.cells #[.slice none 0 0, .slice none 0 0, .slice none 0 0, .slice none 0 0, .slice none 0 0, .slice none 0 0, .slice none 0 0, .slice none 0 0, .slice none 0 0, .slice none 0 0, .int .i64 0] 28)) w2.heap.size 0 (arr11 X).toList TN.out)
 have WX := hid (hX.below D3.out)
 have R3 := hid (range_below (range_below R1.out hb) D3.out)
 have B3 := hid (btr B2.out D3.out)
 have D4 := hid (btr (btr D1.out hb) D3.out)
 clear hX hb z1
 go_upto_region 4 with (first | ((with_reducible (show wpList _ _ _ (⟨_, Op.store 28 _ _, _, _, _, _⟩ :: _) _ _)); refine wpList_store_mid rfl 28 _ _ rfl w2.heap.size 0 (arr11 X) rfl rfl TN.out infoW one.out ?_))
 generalize World.setCells _ _ _ _ = W3 at *
 generalize w2.heap.size = xb at RX ⊢
 clear TN one D3 D1 B1 B2
 have BD : Hid (Below W3.heap.size W3 W3.drew) := hid (below_drew W3 1)
 have KS := hid (show ∀ Y, Below W3.heap.size W3 Y → Y.rangeAt xb 0 (arr11 X).toList ∧ Y.rangeAt w.heap.size 0 (arr11 V).toList from fun Y h => ⟨range_below RX.out h, range_below R3.out h⟩)
 have HSO := hid (fun Y (h : Below W3.heap.size W3 Y) => sound_law V p Y (HV.out.below (btr B3.out h)) HP.out)
 have HDI := hid (fun Y (h : Below W3.heap.size W3 Y) => did_any 17 #[ptr (w.heap.size + 1)] (Caps [((w.heap.size + 1), .int .i64 a)]) V X p (dkP p a) (hasE p a) Y (HV.out.below (btr B3.out h)) HP.out ((dk_ok HP.out HL.out a).1) (WX.out.below h) cf_t2 (fun Z hz => HC.out.below (btr (btr D4.out h) hz)) (fun h => (dropRef_deed _ a p HP.out HL.out h).caps (dk_ok HP.out HL.out a).2) (HG.out.below (btr B3.out h)))
 unfold ptr at HDI
 generalize eV (dE p (hasE p a)) = ev at HDI ⊢
 generalize sndE p = se at HSO HDI
 refine wp_region_held_drew (S := fun Y => Y.rangeAt xb 0 (arr11 X).toList ∧ Y.rangeAt w.heap.size 0 (arr11 V).toList) (by kernel_rfl) (KS.out _ BD.out) (fun hH0 => ?_)
 have hH := hid hH0
 clear hH0
 refine Mem.tg 0 (.agg (arr11 X)) rfl (yieldsIf_load_mid (by rfl) _ _ rfl _ _ rfl ((arr11 X).toList) _ (fun _ h => h.1) Tryz.underlying28 rfl infoW) hH.out ?_
 simp only [jj]
 refine tk 1 ev rfl hH.out ?_
 simp only [jj]
 refine Mem.tg 2 (.agg (arr11 V)) rfl (yieldsIf_load_mid (by rfl) _ _ rfl _ _ rfl ((arr11 V).toList) _ (fun _ h => h.2) Tryz.underlying28 rfl infoW) hH.out ?_
 simp only [jj]
 refine Mem.tg 3 (.agg (arr11 V)) rfl (yieldsIf_load_mid (by rfl) _ _ rfl _ _ rfl ((arr11 V).toList) _ (fun _ h => h.2) Tryz.underlying28 rfl infoW) hH.out ?_
 simp only [jj]
 refine tk 5 (.func (.func 17) #[] #[.pointer (some ⟨w.heap.size + 1, 0, none⟩)]) rfl hH.out ?_
 simp only [jj]
 refine wpAnyH_ready (rs := [4]) (by kernel_rfl) (by simp) (AllReadyH.cons rfl (fun K hK => ?_) AllReadyH.nil)
 go_simp
 refine (HSO.out _ BD.out).mono ?_
 rintro q w4 ⟨rfl, hb⟩
 have A4 := hid (btr BD.out hb)
 clear hb
 go_wp2_with fail
 refine hK.out _ _ (KS.out _ A4.out) (fun hH0 => ?_)
 have hH2 := hid hH0
 clear hK K hH0
 try simp only [Act.put, jD, jE, jF]
 refine wpAnyH_ready (rs := [6]) (by kernel_rfl) (by simp) (AllReadyH.cons rfl (fun K hK => ?_) AllReadyH.nil)
 go_simp
 refine (HDI.out _ A4.out).mono ?_
 rintro q w5 ⟨rfl, hb⟩
 have A5 := hid (btr A4.out hb)
 clear hb
 go_wp2_with fail
 refine hK.out _ _ (KS.out _ A5.out) (fun hH0 => ?_)
 have hH3 := hid hH0
 clear hK K hH0
 try simp only [Act.put, jD, jE, jF]
 refine tk 7 (.bool true) rfl hH3.out ?_
 simp only [jj]
 refine wpAnyH_done (by kernel_rfl) ?_ _
 clear hH hH2 hH3
 go_wp2_with fail
 go_ret
 exact ⟨rfl, btr B3.out A5.out⟩
end Go.Proofs.YtoebmjgkfkfhjaaGreatDoor.Wd
