/- Parts, plain (N1): what joins frames, and of each frame the least one of its part. · Parts: alone and join; walked. · Parts: what keys join; walked. · Parts: what entries and tasks join; parts.Of; walked. -/
import Derived.Test.YtacpjedncjpmpaaGreatDoorGSlM2
import Derived.Test.YtacpjedncjpmpaaGreatDoorPcB
import Derived.Test.YtacpjedncjpmpaaGreatDoorGRep
import Derived.BigQuiet
import Derived.Test.YtacpjedncjpmpaaGreatDoorPcC
import Derived.Test.YtacpjedncjpmpaaGreatDoorWdCheck
namespace Go.Proofs.YtacpjedncjpmpaaGreatDoor.Wd
open Go.RowKit Go.Proofs.YtacpjedncjpmpaaGreatDoor.Mem Go.Proofs.YtacpjedncjpmpaaGreatDoor.Bw Go.Proofs.YtacpjedncjpmpaaGreatDoor.Nums Go.Proofs.YtacpjedncjpmpaaGreatDoor.Mmu
def lv (L : List Int) (i : Nat) : Int := L.getD i 0
/-- Two frames are joined. -/
def jn1 (L : List Int) (a b : Nat) : List Int := L.map fun x => if x = max (lv L a) (lv L b) then min (lv L a) (lv L b) else x
theorem jn_lv (L : List Int) (a b i : Nat) (h : i < L.length) : lv (jn1 L a b) i = if lv L i = max (lv L a) (lv L b) then min (lv L a) (lv L b) else lv L i := by
 unfold lv jn1
 rw [getD_i (by rw [List.length_map]; exact h), List.getElem_map, getD_i h]
 rfl
def alL (n : Nat) : List Int := (List.range n).map fun i : Nat => (i : Int)
theorem al_lv {n i : Nat} (h : i < n) : lv (alL n) i = i := by
 unfold lv alL
 rw [getD_i (by simpa using h)]
 simp
/-- A list tells of each frame the least one of its part, where these pairs are joined. -/
structure Lb (n : Nat) (es : List (Nat × Nat)) (L : List Int) : Prop where
 len : L.length = n
 lo : ∀ i, i < n → 0 ≤ lv L i ∧ lv L i ≤ i ∧ lv L (lv L i).toNat = lv L i
 ed : ∀ e ∈ es, lv L e.1 = lv L e.2
 cn : ∀ S : Nat → Prop, (∀ e ∈ es, (S e.1 ↔ S e.2)) → ∀ i, i < n → (S i ↔ S (lv L i).toNat)
theorem lb_nil (n : Nat) : Lb n [] (alL n) :=
 ⟨by simp [alL], fun i hi => by rw [al_lv hi, Int.toNat_natCast, al_lv hi]; omega, fun e he => (by cases he), fun S _ i hi => by rw [al_lv hi, Int.toNat_natCast]⟩
theorem lb_one {n : Nat} {es : List (Nat × Nat)} {L : List Int} (h : Lb n es L) {a b : Nat} (ha : a < n) (hb : b < n) : Lb n (es ++ [(a, b)]) (jn1 L a b) := by
 have hl := h.len
 have la := h.lo a ha
 have lb := h.lo b hb
 have J : ∀ i, i < n → lv (jn1 L a b) i = if lv L i = max (lv L a) (lv L b) then min (lv L a) (lv L b) else lv L i := fun i hi => jn_lv L a b i (by omega)
 refine ⟨by unfold jn1; rw [List.length_map]; exact hl, fun i hi => ?_, fun e he => ?_, fun S hS i hi => ?_⟩
 ·have li := h.lo i hi
  have hm : ∃ m : Nat, min (lv L a) (lv L b) = m ∧ m < n ∧ lv L m = m := by
   by_cases hle : lv L a ≤ lv L b
   ·exact ⟨(lv L a).toNat, by omega, by omega, by rw [la.2.2]; omega⟩
   ·exact ⟨(lv L b).toNat, by omega, by omega, by rw [lb.2.2]; omega⟩
  obtain ⟨m, hm1, hm2, hm3⟩ := hm
  rw [J i hi]
  by_cases hc : lv L i = max (lv L a) (lv L b)
  ·rw [if_pos hc, hm1, Int.toNat_natCast, J m hm2, hm3, hm1]
   refine ⟨by omega, by omega, ?_⟩
   split <;> rfl
  ·rw [if_neg hc]
   obtain ⟨r, hr⟩ : ∃ r : Nat, lv L i = r := ⟨(lv L i).toNat, by omega⟩
   have h3 := li.2.2
   rw [hr] at hc h3 li ⊢
   rw [Int.toNat_natCast] at h3 ⊢
   rw [J r (by omega), h3, if_neg hc]
   omega
 ·rcases List.mem_append.1 he with he | he
  ·have e0 := h.ed e he
   by_cases h1 : e.1 < n
   ·by_cases h2 : e.2 < n
    ·rw [J _ h1, J _ h2, e0]
    ·have : lv (jn1 L a b) e.2 = lv L e.2 := by unfold lv jn1; rw [List.getD_eq_getElem?_getD, List.getElem?_eq_none (by rw [List.length_map]; omega), List.getD_eq_getElem?_getD, List.getElem?_eq_none (by omega)]
     have z : lv L e.2 = 0 := by unfold lv; rw [List.getD_eq_getElem?_getD, List.getElem?_eq_none (by omega)]; rfl
     rw [this, J _ h1, e0, z]
     split <;> omega
   ·have z1 : lv L e.1 = 0 := by unfold lv; rw [List.getD_eq_getElem?_getD, List.getElem?_eq_none (by omega)]; rfl
    have z2 : lv (jn1 L a b) e.1 = 0 := by unfold lv jn1; rw [List.getD_eq_getElem?_getD, List.getElem?_eq_none (by rw [List.length_map]; omega)]; rfl
    by_cases h2 : e.2 < n
    ·rw [z2, J _ h2, ← e0, z1]
     split <;> omega
    ·rw [z2]
     unfold lv jn1
     rw [List.getD_eq_getElem?_getD, List.getElem?_eq_none (by rw [List.length_map]; omega)]
     rfl
  ·obtain rfl := List.mem_singleton.1 he
   rw [J _ ha, J _ hb]
   split <;> split <;> omega
 ·have hS' : ∀ e ∈ es, (S e.1 ↔ S e.2) := fun e he => hS e (List.mem_append_left _ he)
  have hab : S a ↔ S b := hS (a, b) (List.mem_append_right _ (List.mem_singleton.2 rfl))
  have ca := h.cn S hS' a ha
  have cb := h.cn S hS' b hb
  rw [h.cn S hS' i hi, J i hi]
  by_cases hc : lv L i = max (lv L a) (lv L b)
  ·rw [if_pos hc, hc]
   by_cases hle : lv L a ≤ lv L b
   ·rw [show max (lv L a) (lv L b) = lv L b by omega, show min (lv L a) (lv L b) = lv L a by omega, ← cb, ← ca, hab]
   ·rw [show max (lv L a) (lv L b) = lv L a by omega, show min (lv L a) (lv L b) = lv L b by omega, ← cb, ← ca, hab]
  ·rw [if_neg hc]
theorem lb_le {n : Nat} {es : List (Nat × Nat)} {L M : List Int} (h : Lb n es L) (k : Lb n es M) {i : Nat} (hi : i < n) : lv L i ≤ lv M i := by
 have m := k.lo i hi
 have c := (k.cn (fun j => lv L j = lv L i) (fun e he => by rw [h.ed e he]) i hi).1 rfl
 have := h.lo (lv M i).toNat (by omega)
 rw [c] at this
 omega
theorem lb_uniq {n : Nat} {es : List (Nat × Nat)} {L M : List Int} (h : Lb n es L) (k : Lb n es M) : L = M := by
 apply List.ext_getElem (by rw [h.len, k.len])
 intro i h1 h2
 have h3 : lv L i = lv M i := by
  have a := lb_le h k (i := i) (by rw [← h.len]; exact h1)
  have b := lb_le k h (i := i) (by rw [← h.len]; exact h1)
  omega
 unfold lv at h3
 rwa [getD_i h1, getD_i h2] at h3
def jnL (n : Nat) (es : List (Nat × Nat)) : List Int := es.foldl (fun L e => jn1 L e.1 e.2) (alL n)
theorem lb_jn {n : Nat} : ∀ (es pre : List (Nat × Nat)) (L : List Int), (∀ e ∈ es, e.1 < n ∧ e.2 < n) → Lb n pre L → Lb n (pre ++ es) (es.foldl (fun L e => jn1 L e.1 e.2) L)
 | [], pre, L, _, h => by rw [List.append_nil]; exact h
 | e :: es, pre, L, he, h => by
  have := lb_jn es (pre ++ [e]) (jn1 L e.1 e.2) (fun x hx => he x (List.mem_cons_of_mem _ hx)) (lb_one h (he e (List.mem_cons_self ..)).1 (he e (List.mem_cons_self ..)).2)
  rw [List.append_assoc] at this
  exact this
/-- What a slot joins; what a word of a table does; what a task does. -/
def egS (p : PW) (k : Nat) : List (Nat × Nat) := ((List.range ((p.slots.getD k z0) 2).toNat).map fun i => (k / 16, ((p.slots.getD k z0) 1).toNat + i)) ++ if (p.slots.getD k z0) 6 = -1 then [] else [(k / 16, ((p.slots.getD k z0) 6).toNat / 16)]
def egR (p : PW) (k : Nat) : List (Nat × Nat) := if (p.kinds.getD (k / 16) 0 = 3 ∨ p.kinds.getD (k / 16) 0 = 4) ∧ p.ram.getD k 0 ≠ 0 then [(k / 16, (p.ram.getD k 0).toNat % 1024)] else []
def egC (p : PW) (f c : Nat) : List (Nat × Nat) := if (p.tasks.getD f z0) c = -1 then [] else [(f, ((p.tasks.getD f z0) c).toNat)]
def egT (p : PW) (f : Nat) : List (Nat × Nat) := egC p f 11 ++ egC p f 12 ++ egC p f 13 ++ egC p f 14 ++ egC p f 17
def upto (g : Nat → List (Nat × Nat)) (k : Nat) : List (Nat × Nat) := (List.range k).flatMap g
theorem upto_succ (g : Nat → List (Nat × Nat)) (k : Nat) : upto g (k + 1) = upto g k ++ g k := by
 unfold upto
 rw [List.range_succ, List.flatMap_append]
 simp
theorem upto_0 (g : Nat → List (Nat × Nat)) : upto g 0 = [] := rfl
theorem upto_mem {g : Nat → List (Nat × Nat)} {k : Nat} {e : Nat × Nat} (h : e ∈ upto g k) : ∃ i, i < k ∧ e ∈ g i := by
 unfold upto at h
 obtain ⟨i, hi, he⟩ := List.mem_flatMap.1 h
 exact ⟨i, List.mem_range.1 hi, he⟩
/-- All that joins. -/
def egA (p : PW) : List (Nat × Nat) := upto (egS p) p.slots.length ++ upto (egR p) p.ram.length ++ upto (egT p) p.kinds.length
/-- A world as far as it has to be sound here. -/
structure Eg (p : PW) : Prop where
 lf : LF p
 sl : ∀ k, k < p.slots.length → 0 ≤ (p.slots.getD k z0) 1 ∧ 0 ≤ (p.slots.getD k z0) 2 ∧ (p.slots.getD k z0) 1 + (p.slots.getD k z0) 2 ≤ (p.kinds.length : Int) ∧ -1 ≤ (p.slots.getD k z0) 6 ∧ (p.slots.getD k z0) 6 < (p.kinds.length : Int) * 16
 ra : ∀ k, k < p.ram.length → p.kinds.getD (k / 16) 0 = 3 ∨ p.kinds.getD (k / 16) 0 = 4 → p.ram.getD k 0 = 0 ∨ ∃ f : Nat, f < p.kinds.length ∧ (p.ram.getD k 0 = 32768 + f ∨ p.ram.getD k 0 = 49152 + f)
 ta : ∀ f, f < p.kinds.length → ∀ c, c = 11 ∨ c = 12 ∨ c = 13 ∨ c = 14 ∨ c = 17 → (p.tasks.getD f z0) c = -1 ∨ ∃ g : Nat, g < p.kinds.length ∧ (p.tasks.getD f z0) c = g
theorem eg_of {p : PW} (h : Snd p) : Eg p := by
 have hl := h.lf
 refine ⟨hl, fun k hk => ?_, fun k hk h34 => ?_, fun f hf c hc => ?_⟩
 ·rw [getD_z hk]
  have h1 : bsB p (p.kinds.getD (k / 16) 0) p.slots[k] = false := h.b3 k hk
  generalize p.slots[k] = s at h1 ⊢
  have hs := hl.slots
  unfold bsB at h1
  cases hz : zkB s with
  | true =>
   rw [hz, if_pos rfl] at h1
   have h6 : s 6 = -1 := by simpa using h1
   unfold zkB at hz
   have := of_decide_eq_true hz
   omega
  | false =>
   rw [hz, if_neg (by decide)] at h1
   simp only [Bool.not_eq_false', Bool.and_eq_true] at h1
   have ho := h1.1.1.2
   have hm := h1.1.2
   unfold opB at ho
   simp only [Bool.and_eq_true, beq_iff_eq, decide_eq_true_eq] at ho
   have hk0 : KP.chk (s 0) (s 1) (s 2) (s 3) (s 4) (s 5) = 0 := ho.1.1
   obtain ⟨k0, k1, b0, b1, l0, l1, m0, m1, r0, r1, g0, g1⟩ := KP.chk_zero hk0
   have h6 : s 6 = -1 ∨ (0 ≤ s 6 ∧ s 6 ≤ (p.slots.length : Int) - 1) := by
    unfold mdB at hm
    rw [Bool.or_eq_true] at hm
    rcases hm with hm | hm
    ·exact .inl (eq_of_beq hm)
    ·rw [Bool.and_eq_true] at hm
     exact .inr (of_decide_eq_true hm.1)
   have := ho.1.2
   omega
 ·have h1 : beB p (p.kinds.getD (k / 16) 0) p.ram[k] = false := h.b9 k hk
  rw [getD_i hk]
  generalize p.ram[k] = x at h1 ⊢
  unfold beB at h1
  rcases h34 with e | e
  ·rw [e, if_neg (by decide), if_pos rfl] at h1
   by_cases hx : x = 0
   ·exact .inl hx
   ·refine .inr ?_
    have hx' : (x == 0) = false := by simpa using hx
    rw [hx'] at h1
    cases h2 : isB p (x - 32768) 2 with
    | true =>
     obtain ⟨j, hj, hj2⟩ := isB_in h2
     exact ⟨j, hj2, .inl (by omega)⟩
    | false =>
     cases h3 : isB p (x - 32768 - 16384) 2 with
     | true =>
      obtain ⟨j, hj, hj2⟩ := isB_in h3
      exact ⟨j, hj2, .inr (by omega)⟩
     | false => rw [h2, h3] at h1; cases h1
  ·rw [e, if_pos rfl] at h1
   by_cases hx : x = 0
   ·exact .inl hx
   ·refine .inr ?_
    have hx' : (x == 0) = false := by simpa using hx
    rw [hx'] at h1
    cases h2 : isB p (x - 32768) 3 with
    | true =>
     obtain ⟨j, hj, hj2⟩ := isB_in h2
     exact ⟨j, hj2, .inl (by omega)⟩
    | false => rw [h2] at h1; cases h1
 ·have hft : f < p.tasks.length := by rw [hl.tasks]; exact hf
  have h1 : btB p f (p.kinds.getD f 0) p.tasks[f] = false := h.b5 f hft
  rw [getD_z hft]
  generalize p.tasks[f] = t at h1 ⊢
  unfold btB at h1
  by_cases h6 : p.kinds.getD f 0 = 6
  ·rw [if_pos h6] at h1
   simp only [Bool.not_eq_false', Bool.and_eq_true] at h1
   have ff := h1.1.1.1.2
   have sr := h1.1.2
   unfold ffB at ff
   simp only [Bool.and_eq_true] at ff
   have or_in : ∀ x k, isOrB p x k = true → x = -1 ∨ ∃ g : Nat, g < p.kinds.length ∧ x = g := fun x k hx => by
    unfold isOrB at hx
    rw [Bool.or_eq_true] at hx
    rcases hx with hx | hx
    ·exact .inl (eq_of_beq hx)
    ·obtain ⟨j, hj, hj2⟩ := isB_in hx
     exact .inr ⟨j, hj2, hj⟩
   rcases hc with rfl | rfl | rfl | rfl | rfl
   ·exact or_in _ _ ff.1.1.1
   ·exact or_in _ _ ff.1.1.2
   ·exact or_in _ _ ff.1.2
   ·unfold srB at sr
    split at sr
    ·simp only [Bool.and_eq_true, beq_iff_eq] at sr
     exact .inl sr.1
    ·simp only [Bool.and_eq_true] at sr
     obtain ⟨j, hj, hj2⟩ := isB_in sr.1.1
     exact .inr ⟨j, hj2, hj⟩
   ·exact or_in _ _ ff.2
  ·rw [if_neg h6, Bool.not_eq_false'] at h1
   have hb := blB20_iff.1 h1
   left
   rcases hc with rfl | rfl | rfl | rfl | rfl
   ·exact hb 11 (by decide)
   ·exact hb 12 (by decide)
   ·exact hb 13 (by decide)
   ·exact hb 14 (by decide)
   ·exact hb 17 (by decide)
theorem egS_in {p : PW} (h : Eg p) {k : Nat} (hk : k < p.slots.length) : ∀ e ∈ egS p k, e.1 < p.kinds.length ∧ e.2 < p.kinds.length := by
 intro e he
 have h1 := h.sl k hk
 have hs := h.lf.slots
 unfold egS at he
 rcases List.mem_append.1 he with he | he
 ·obtain ⟨i, hi, rfl⟩ := List.mem_map.1 he
  have := List.mem_range.1 hi
  simp only
  omega
 ·split at he
  ·cases he
  ·obtain rfl := List.mem_singleton.1 he
   simp only
   omega
theorem egR_in {p : PW} (h : Eg p) {k : Nat} (hk : k < p.ram.length) : ∀ e ∈ egR p k, e.1 < p.kinds.length ∧ e.2 < p.kinds.length := by
 intro e he
 have hs := h.lf.ram
 have h24 := h.lf.k2
 unfold egR at he
 split at he
 ·rename_i hc
  obtain rfl := List.mem_singleton.1 he
  simp only
  rcases h.ra k hk hc.1 with h0 | ⟨f, hf, h0⟩
  ·exact absurd h0 hc.2
  ·omega
 ·cases he
theorem egC_in {p : PW} (h : Eg p) {f c : Nat} (hf : f < p.kinds.length) (hc : c = 11 ∨ c = 12 ∨ c = 13 ∨ c = 14 ∨ c = 17) : ∀ e ∈ egC p f c, e.1 < p.kinds.length ∧ e.2 < p.kinds.length := by
 intro e he
 unfold egC at he
 split at he
 ·cases he
 ·rename_i hn
  obtain rfl := List.mem_singleton.1 he
  simp only
  rcases h.ta f hf c hc with h0 | ⟨g, hg, h0⟩
  ·exact absurd h0 hn
  ·omega
theorem egA_in {p : PW} (h : Eg p) : ∀ e ∈ egA p, e.1 < p.kinds.length ∧ e.2 < p.kinds.length := by
 intro e he
 unfold egA at he
 rcases List.mem_append.1 he with he | he
 ·rcases List.mem_append.1 he with he | he
  ·obtain ⟨i, hi, he⟩ := upto_mem he
   exact egS_in h hi e he
  ·obtain ⟨i, hi, he⟩ := upto_mem he
   exact egR_in h hi e he
 ·obtain ⟨i, hi, he⟩ := upto_mem he
  unfold egT at he
  simp only [List.mem_append] at he
  rcases he with (((he | he) | he) | he) | he
  ·exact egC_in h hi (by simp) e he
  ·exact egC_in h hi (by simp) e he
  ·exact egC_in h hi (by simp) e he
  ·exact egC_in h hi (by simp) e he
  ·exact egC_in h hi (by simp) e he
/-- Of each frame the least one of its part. -/
def ptL (p : PW) : List Int := jnL p.kinds.length (egA p)
theorem lb_pt {p : PW} (h : Eg p) : Lb p.kinds.length (egA p) (ptL p) := by
 have := lb_jn (egA p) [] (alL p.kinds.length) (egA_in h) (lb_nil _)
 rw [List.nil_append] at this
 exact this
/-- All blocks but those of T are as they were. -/
structure Kq (T : Nat → Prop) (w w' : World) : Prop where
 os : w'.os = w.os
 tape : w'.tape = w.tape
 output : w'.output = w.output
 size : w.heap.size ≤ w'.heap.size
 block : ∀ k, k < w.heap.size → ¬ T k → w'.heap[k]? = w.heap[k]?
theorem Kq.refl (T : Nat → Prop) (w : World) : Kq T w w := ⟨rfl, rfl, rfl, Nat.le_refl _, fun _ _ _ => rfl⟩
theorem Kq.trans {T : Nat → Prop} {a b c : World} (h : Kq T a b) (k : Kq T b c) : Kq T a c :=
 ⟨k.os.trans h.os, k.tape.trans h.tape, k.output.trans h.output, Nat.le_trans h.size k.size, fun i hi ht => (k.block i (Nat.lt_of_lt_of_le hi h.size) ht).trans (h.block i hi ht)⟩
theorem Kq.of_below {T : Nat → Prop} {w w' : World} (h : Below w.heap.size w w') : Kq T w w' := ⟨h.os, h.tape, h.output, h.size, fun k hk _ => h.block k hk⟩
theorem Kq.wider {T U : Nat → Prop} {w w' : World} (h : Kq T w w') (hu : ∀ k, k < w.heap.size → T k → U k) : Kq U w w' := ⟨h.os, h.tape, h.output, h.size, fun k hk hn => h.block k hk fun ht => hn (hu k hk ht)⟩
theorem Kq.cell {T : Nat → Prop} {w w' : World} (h : Kq T w w') {p : Addr} (hp : p.block < w.heap.size) (hn : ¬ T p.block) : w'.cell? p = w.cell? p := World.cell?_of_block (w := w) (h.block p.block hp hn)
theorem Kq.frozen {T : Nat → Prop} {w w' : World} (h : Kq T w w') {p : Addr} (hp : p.block < w.heap.size) (hn : ¬ T p.block) : w'.frozen? p = w.frozen? p := World.frozen?_of_block (w := w) (h.block p.block hp hn)
theorem Kq.below {T : Nat → Prop} {w w' : World} (h : Kq T w w') {B : Nat} {a : World} (hb : Below B a w) (hB : B ≤ w.heap.size) (ht : ∀ k, k < B → ¬ T k) : Below B a w' :=
 ⟨h.os.trans hb.os, h.tape.trans hb.tape, h.output.trans hb.output, Nat.le_trans hb.size h.size, fun k hk => (h.block k (Nat.lt_of_lt_of_le hk hB) (ht k hk)).trans (hb.block k hk)⟩
theorem Kq.alloc {T : Nat → Prop} {w w' : World} (h : Kq T w w') (o : Obj) : Kq T w (w'.alloc o) := h.trans (.of_below (bal (Below.refl _ _) o))
theorem Kq.setCell {T : Nat → Prop} {w w' : World} (h : Kq T w w') {b o : Nat} (hb : T b ∨ w.heap.size ≤ b) (v : Value) : Kq T w (w'.setCell ⟨b, o, none⟩ v) :=
 ⟨h.os, h.tape, h.output, by simp [World.setCell]; exact h.size, fun k hk hn => (Below.heap_setCell w' ⟨b, o, none⟩ v k (by intro e; simp at e; subst e; rcases hb with hb | hb; exact hn hb; omega)).trans (h.block k hk hn)⟩
theorem Kq.drew {T : Nat → Prop} {w w' : World} (h : Kq T w w') (n : Nat) : Kq T w (w'.drewN n) := h.trans (.of_below ⟨rfl, rfl, rfl, Nat.le_refl _, fun _ _ => rfl⟩)
/-- A block of one's own, and what lies there. -/
structure Mine (W : World) (g : Nat) (vs : List Value) : Prop where
 c : ∀ o, W.cell? ⟨g, o, none⟩ = vs[o]?
 f : ∀ o, W.frozen? ⟨g, o, none⟩ = false
 lt : g < W.heap.size
theorem Mine.set {W : World} {g : Nat} {vs : List Value} (h : Mine W g vs) {i : Nat} (hi : i < vs.length) (v : Value) : Mine (W.setCell ⟨g, i, none⟩ v) g (vs.set i v) := by
 refine ⟨fun o => ?_, fun o => ?_, by simp [World.setCell]; exact h.lt⟩
 ·by_cases ho : i = o
  ·subst ho
   rw [World.cell?_setCell_same W _ _ ((h.c i).trans (List.getElem?_eq_getElem hi)), List.getElem?_set_self hi]
  ·rw [World.cell?_setCell_other W _ _ _ (by intro e; cases e; exact ho rfl), h.c o, List.getElem?_set_ne ho]
 ·rw [World.frozen?_setCell]
  exact h.f o
theorem Mine.kept {T : Nat → Prop} {W W' : World} {g : Nat} {vs : List Value} (h : Mine W g vs) (k : Kq T W W') (hn : ¬ T g) : Mine W' g vs :=
 ⟨fun o => (k.cell (p := ⟨g, o, none⟩) h.lt hn).trans (h.c o), fun o => (k.frozen (p := ⟨g, o, none⟩) h.lt hn).trans (h.f o), Nat.lt_of_lt_of_le h.lt k.size⟩
theorem Mine.next {W W' : World} {g : Nat} {vs : List Value} (h : Mine W g vs) (hb : Below W.heap.size W W') : Mine W' g vs := h.kept (T := fun _ => False) (.of_below hb) id
theorem Mine.sl {W : World} {g c : Nat} {L : List Int} (h : Mine W g (ints L)) : IntsIn W (.slice (some ⟨g, 0, none⟩) L.length c) L :=
 ⟨some ⟨g, 0, none⟩, g, 0, c, rfl, fun _ => rfl, fun j hj => by rw [Nat.zero_add, h.c j]; unfold ints; rw [List.getElem?_map, List.getElem?_eq_getElem hj]; rfl⟩
theorem ints_set (L : List Int) (i : Nat) (x : Int) : (ints L).set i (.int .i64 x) = ints (L.set i x) := by unfold ints; rw [List.map_set]
theorem ints_length (L : List Int) : (ints L).length = L.length := by unfold ints; rw [List.length_map]
theorem Mine.at {W : World} {g : Nat} {L : List Int} (h : Mine W g (ints L)) {i : Nat} (hi : i < L.length) : W.cell? ⟨g, i, none⟩ = some (.int .i64 (lv L i)) := by
 rw [h.c i]
 unfold ints lv
 rw [List.getElem?_map, List.getElem?_eq_getElem hi, getD_i hi]
 rfl
/-- The first so many frames stand for themselves. -/
def alK (n k : Nat) : List Int := (List.range n).map fun i : Nat => if i < k then (i : Int) else 0
theorem alK_0 (n : Nat) : alK n 0 = List.replicate n 0 := by
 apply List.ext_getElem (by simp [alK])
 intro i h1 h2
 simp [alK]
theorem alK_n (n : Nat) : alK n n = alL n := by
 unfold alK alL
 exact List.map_congr_left fun i hi => if_pos (List.mem_range.1 hi)
theorem alK_succ (n k : Nat) : (alK n k).set k (k : Int) = alK n (k + 1) := by
 apply List.ext_getElem (by simp [alK])
 intro i h1 h2
 rw [List.getElem_set]
 by_cases h : k = i
 ·subst h; simp [alK]
 ·rw [if_neg h]
  simp [alK]
  by_cases h3 : i < k
  ·rw [if_pos h3, if_pos (by omega)]
  ·rw [if_neg h3, if_neg (by omega)]
theorem alK_len (n k : Nat) : (alK n k).length = n := by simp [alK]
theorem made_mine (w : World) (z : Value) (n E : Nat) (hz : z.cells = #[z]) : Mine (w.alloc (.cells (madeCells z.cells (n * 1)) E)) w.heap.size (List.replicate n z) := by
 refine ⟨fun o => ?_, fun o => World.frozen?_alloc_at _ _ _ _ rfl, by simp⟩
 rw [cells_new w _ E o]
 by_cases h : o < n
 ·rw [made_one z n o hz h, List.getElem?_replicate, if_pos h]
 ·rw [Array.getElem?_eq_none (by unfold madeCells; simp; omega), List.getElem?_replicate, if_neg h]
set_option maxRecDepth 100000 in
set_option maxHeartbeats 2000000 in
theorem alone_any (n : Nat) (w : World) (hn : n ≤ 1000) :
  Calls Tryz.prog 19 #[.int .i64 n] w fun x w' => x = .returned (.slice (some ⟨w.heap.size, 0, none⟩) n n) ∧ Mine w' w.heap.size (ints (alL n)) ∧ Below w.heap.size w w' := by
 have hn2 : (n : Int) ≤ 1000 := by omega
 have hmk := make_row (T := 63) Tryz.underlying63 infoI (by decide) (by decide) n hn w
 have M0 := hid (show Mine (w.alloc (.cells (madeCells #[.int .i64 0] n) 3)) w.heap.size (List.replicate n (.int .i64 0)) by
  have := made_mine w (.int .i64 0) n 3 rfl
  rwa [Nat.mul_one] at this)
 have B0 := hid (bal (Below.refl w.heap.size w) (.cells (madeCells #[.int .i64 0] n) 3))
 go_enter Tryz.func19, Tryz.ntmps19
 go_wp2_with fail
 clear hmk
 generalize w.alloc (.cells (madeCells #[.int .i64 0] n) 3) = W0 at *
 go_loopw [9] (fun i wr => ∃ k : Nat, k ≤ n ∧ i = .int .i64 k ∧ Hid (Mine wr w.heap.size (ints (alK n k))) ∧ Hid (Below w.heap.size w wr)) (fun i _ => n - (intOf i).toNat)
 case atStart => exact ⟨0, by omega, rfl, hid (by rw [alK_0]; unfold ints; rw [List.map_replicate]; exact M0.out), B0⟩
 case round =>
  obtain ⟨k, hk, rfl, HM, HB⟩ := hrel
  by_cases hlt : k < n
  ·have hlt2 : (k : Int) < (n : Int) := by omega
   have hc := HM.out.at (i := k) (by rw [alK_len]; exact hlt)
   have hf := HM.out.f k
   go_wp2_with fail
   refine ⟨⟨k + 1, by omega, by go_num, hid ?_, hid (bset HB.out (Nat.le_refl _) _)⟩, by simp [intOf]; omega⟩
   rw [← alK_succ, ← ints_set]
   exact HM.out.set (by rw [ints_length, alK_len]; exact hlt) _
  ·obtain rfl : k = n := by omega
   have hge : ¬ ((k : Int) < (k : Int)) := by omega
   go_wp2_with fail
   go_ret
   exact ⟨rfl, by rw [← alK_n]; exact HM.out, HB.out⟩
/-- In the midst of a join: of the first so many frames those of the one part are told the other's least. -/
def jnK (L : List Int) (mx mn : Int) (k : Nat) : List Int := (L.take k).map (fun x => if x = mx then mn else x) ++ L.drop k
theorem jnK_0 (L : List Int) (mx mn : Int) : jnK L mx mn 0 = L := by simp [jnK]
theorem jnK_n (L : List Int) (a b : Nat) : jnK L (max (lv L a) (lv L b)) (min (lv L a) (lv L b)) L.length = jn1 L a b := by simp [jnK, jn1]
theorem jnK_len (L : List Int) (mx mn : Int) (k : Nat) : (jnK L mx mn k).length = L.length := by
 simp [jnK]
 omega
theorem jnK_at {L : List Int} {mx mn : Int} {k : Nat} (h : k < L.length) : lv (jnK L mx mn k) k = lv L k := by
 unfold lv
 rw [getD_i (by rw [jnK_len]; exact h), getD_i h]
 unfold jnK
 rw [List.getElem_append_right (by simp; omega)]
 simp [Nat.min_eq_left (Nat.le_of_lt h)]
theorem jnK_succ {L : List Int} {mx mn : Int} {k : Nat} (h : k < L.length) : jnK L mx mn (k + 1) = if lv L k = mx then (jnK L mx mn k).set k mn else jnK L mx mn k := by
 have e : lv L k = L[k] := getD_i h
 apply List.ext_getElem (by split <;> simp [jnK_len])
 intro i h1 h2
 rw [jnK_len] at h1
 have A : ∀ (j : Nat) (hj : i < (jnK L mx mn j).length), (jnK L mx mn j)[i] = if i < j then (if L[i] = mx then mn else L[i]) else L[i] := fun j hj => by
  simp only [jnK]
  by_cases hij : i < j
  ·rw [List.getElem_append_left (by simp; omega), if_pos hij]
   simp
  ·rw [List.getElem_append_right (by simp; omega), if_neg hij]
   simp [Nat.min_eq_left (show j ≤ L.length by omega)]
   congr 1
   omega
 rw [A]
 by_cases hm : lv L k = mx
 ·simp only [if_pos hm, List.getElem_set]
  by_cases hk : k = i
  ·subst hk
   rw [if_pos (by omega), if_pos rfl, if_pos (by rw [← e]; exact hm)]
  ·rw [if_neg hk, A]
   by_cases h3 : i < k
   ·rw [if_pos h3, if_pos (by omega)]
   ·rw [if_neg h3, if_neg (by omega)]
 ·simp only [if_neg hm]
  rw [A]
  by_cases h3 : i < k
  ·rw [if_pos h3, if_pos (by omega)]
  ·by_cases hk : k = i
   ·subst hk
    rw [if_neg h3, if_pos (by omega), if_neg (by rw [← e]; exact hm)]
   ·rw [if_neg h3, if_neg (by omega)]
set_option maxRecDepth 100000 in
set_option maxHeartbeats 4000000 in
theorem join_any (g n a b : Nat) (L : List Int) (w : World) (hm : Mine w g (ints L)) (hL : L.length = n) (hn : n ≤ 1000) (ha : a < n) (hb : b < n) :
  Calls Tryz.prog 47 #[.slice (some ⟨g, 0, none⟩) n n, .int .i64 a, .int .i64 b] w fun r w' => r = .returned (.tuple #[]) ∧ Mine w' g (ints (jn1 L a b)) ∧ Kq (fun k => k = g) w w' := by
 have ha2 : (a : Int) < (n : Int) := by omega
 have hb2 : (b : Int) < (n : Int) := by omega
 have hn2 : (n : Int) ≤ 1000 := by omega
 have ca := hm.at (i := a) (by omega)
 have cb := hm.at (i := b) (by omega)
 have HM := hid hm
 have HL := hid hL
 have HJ := hid (fun k (h : k < L.length) => jnK_succ (mx := max (lv L a) (lv L b)) (mn := min (lv L a) (lv L b)) h)
 have HZ := hid (jnK_n L a b)
 have HA := hid (fun k (h : k < L.length) => jnK_at (mx := max (lv L a) (lv L b)) (mn := min (lv L a) (lv L b)) h)
 obtain ⟨x, hx⟩ : ∃ x, lv L a = x := ⟨_, rfl⟩
 obtain ⟨y, hy⟩ : ∃ y, lv L b = y := ⟨_, rfl⟩
 rw [hx] at ca HJ HZ HA
 rw [hy] at cb HJ HZ HA
 clear hm hL hx hy
 go_enter Tryz.func47, Tryz.ntmps47
 go_wp2_with fail
 go_quiet (fail)
 rw [show (if y < x then y else x) = min x y by split <;> omega, show (if x < y then y else x) = max x y by split <;> omega]
 generalize min x y = mn at *
 generalize max x y = mx at *
 have K0 := hid (show Kq (fun k => k = g) w (w.drewN nq) from (Kq.refl _ _).drew nq)
 have M0 := hid (HM.out.next (below_drewN (Below.refl _ _) nq))
 generalize w.drewN nq = W0 at *
 clear ca cb
 go_wp2_with fail
 go_loopw [30] (fun i wr => ∃ k : Nat, k ≤ n ∧ i = .int .i64 k ∧ Hid (Mine wr g (ints (jnK L mx mn k))) ∧ Hid (Kq (fun k => k = g) w wr)) (fun i _ => n - (intOf i).toNat)
 case atStart => exact ⟨0, by omega, rfl, hid (by rw [jnK_0]; exact M0.out), K0⟩
 case round =>
  obtain ⟨k, hk, rfl, HM, HB⟩ := hrel
  by_cases hlt : k < n
  ·have hlt2 : (k : Int) < (n : Int) := by omega
   have hkl : k < L.length := by rw [HL.out]; exact hlt
   have HKL := hid hkl
   have hc := HM.out.at (i := k) (by rw [jnK_len]; exact hkl)
   have hf := HM.out.f k
   have HS := hid (HJ.out k hkl)
   rw [HA.out k hkl] at hc
   generalize lv L k = z at hc HS
   clear hkl
   by_cases hz : z = mx
   ·rw [if_pos hz] at HS
    have hzb : (z == mx) = true := by simpa using hz
    clear hz
    go_wp2_with fail
    refine ⟨⟨k + 1, by omega, by go_num, hid ?_, hid (HB.out.setCell (Or.inl rfl) _)⟩, by simp [intOf]; omega⟩
    rw [HS.out, ← ints_set]
    exact HM.out.set (by rw [ints_length, jnK_len]; exact HKL.out) _
   ·rw [if_neg hz] at HS
    have hzb : (z == mx) = false := by simpa using hz
    clear hz
    go_wp2_with fail
    exact ⟨⟨k + 1, by omega, by go_num, hid (by rw [HS.out]; exact HM.out), HB⟩, by simp [intOf]; omega⟩
  ·obtain rfl : k = n := by omega
   have hge : ¬ ((k : Int) < (k : Int)) := by omega
   go_wp2_with fail
   exact bodyPost_end (results_none rfl _ _ _) rfl ⟨rfl, by rw [← HZ.out, HL.out]; exact HM.out, HB.out⟩
/-- A world in its box, and a list of one's own behind it. -/
structure Vg (w1 : World) (vb : Nat) (V : Nat → Value) (p : PW) (g : Nat) (es : List (Nat × Nat)) (L : List Int) (w : World) : Prop where
 va : ViewAt w1 vb V p
 be : Below w1.heap.size w1 w
 hg : w1.heap.size ≤ g
 mi : Mine w g (ints L)
 lb : Lb p.kinds.length es L
theorem Vg.view {w1 w : World} {vb g : Nat} {V : Nat → Value} {p : PW} {es : List (Nat × Nat)} {L : List Int} (h : Vg w1 vb V p g es L w) : ViewAt w vb V p := h.va.below h.be
theorem Vg.next {w1 w w' : World} {vb g : Nat} {V : Nat → Value} {p : PW} {es : List (Nat × Nat)} {L : List Int} (h : Vg w1 vb V p g es L w) (hb : Below w.heap.size w w') : Vg w1 vb V p g es L w' :=
 ⟨h.va, btr h.be hb, h.hg, h.mi.next hb, h.lb⟩
theorem Vg.one {w1 w w' : World} {vb g a b : Nat} {V : Nat → Value} {p : PW} {es : List (Nat × Nat)} {L : List Int} (h : Vg w1 vb V p g es L w) (ha : a < p.kinds.length) (hb : b < p.kinds.length) (hm : Mine w' g (ints (jn1 L a b))) (hk : Kq (fun k => k = g) w w') : Vg w1 vb V p g (es ++ [(a, b)]) (jn1 L a b) w' :=
 ⟨h.va, hk.below h.be h.be.size (fun k hk e => by have := h.hg; omega), h.hg, hm, lb_one h.lb ha hb⟩
theorem range_kq {w w' : World} {T : Nat → Prop} {b : Nat} {cs : List Value} (h : w.rangeAt b 0 cs) (hb : b < w.heap.size) (hk : Kq T w w') (hn : ¬ T b) : w'.rangeAt b 0 cs := fun j v hv => (hk.cell (p := ⟨b, 0 + j, none⟩) hb hn).trans (h j v hv)
/-- A struct of numbers in a box of its own. -/
structure Bx (w : World) (b n : Nat) (f : Nat → Int) : Prop where
 r : w.rangeAt b 0 (cf n f)
 lt : b < w.heap.size
theorem Bx.at {w : World} {b n : Nat} {f : Nat → Int} (h : Bx w b n f) (k : Nat) (hk : k < n) : w.cell? ⟨b, k, none⟩ = some (.int .i64 (f k)) := by
 have := h.r k _ (cf_at n f k hk)
 rwa [Nat.zero_add] at this
theorem Bx.kq {w w' : World} {T : Nat → Prop} {b n : Nat} {f : Nat → Int} (h : Bx w b n f) (hk : Kq T w w') (hn : ¬ T b) : Bx w' b n f := ⟨range_kq h.r h.lt hk hn, Nat.lt_of_lt_of_le h.lt hk.size⟩
set_option maxRecDepth 100000 in
set_option maxHeartbeats 4000000 in
theorem joinKeys_any (w1 : World) (vb : Nat) (V : Nat → Value) (p : PW) (g : Nat) (es : List (Nat × Nat)) (L : List Int) (w : World) (h : Vg w1 vb V p g es L w) (he : Eg p) :
  Calls Tryz.prog 20 #[.slice (some ⟨g, 0, none⟩) p.kinds.length p.kinds.length, .pointer (some ⟨vb, 0, none⟩)] w fun r w' => r = .returned (.tuple #[]) ∧ ∃ L', Vg w1 vb V p g (es ++ upto (egS p) p.slots.length) L' w' := by
 have HH := hid h
 have HE := hid he
 have c2 : w.cell? ⟨vb, 2, none⟩ = some (V 2) := range_cell h.view.r rfl
 obtain ⟨q2, b2, o2, k2, e2, hq2, hz2⟩ := h.va.v.slots
 rw [e2] at c2
 have hl : (p.slots.length : Int) ≤ 1000 := by have := h.va.f.slots; omega
 have HZ := hid hz2
 have HQ := hid hq2
 clear hz2 hq2 e2 h he
 go_enter Tryz.func20, Tryz.ntmps20
 go_wp2_with fail
 clear c2
 go_loopw [13] (fun i wr => ∃ (k : Nat) (L' : List Int), k ≤ p.slots.length ∧ i = .int .i64 k ∧ Hid (Vg w1 vb V p g (es ++ upto (egS p) k) L' wr)) (fun i _ => p.slots.length - (intOf i).toNat)
 case atStart => exact ⟨0, L, by omega, rfl, hid (by rw [upto_0, List.append_nil]; exact HH.out)⟩
 case round =>
  obtain ⟨k, M, hk, rfl, HV⟩ := hrel
  by_cases hlt : k < p.slots.length
  rotate_left
  ·obtain rfl : k = p.slots.length := by omega
   have hge : ¬ ((p.slots.length : Int) < (p.slots.length : Int)) := by omega
   go_wp2_with fail
   exact bodyPost_end (results_none rfl _ _ _) rfl ⟨rfl, M, HV.out⟩
  have hlt2 : (k : Int) < (p.slots.length : Int) := by omega
  obtain rfl := HQ.out (by omega)
  have X0 := hid (range_belowO (HZ.out k hlt) HV.out.be)
  have T5 := hid (there_new wr #[.int .i64 0, .int .i64 0, .int .i64 0, .int .i64 0, .int .i64 0, .int .i64 0, .int .i64 0] 58 wr.heap.size 7 rfl (by decide))
  have HS := hid (show egS p k = ((List.range (p.slots[k] 2).toNat).map fun i => (k / 16, (p.slots[k] 1).toNat + i)) ++ if p.slots[k] 6 = -1 then [] else [(k / 16, (p.slots[k] 6).toNat / 16)] by unfold egS; rw [getD_z hlt])
  have HU := hid (upto_succ (egS p) k)
  have HL := hid (show 0 ≤ p.slots[k] 1 ∧ 0 ≤ p.slots[k] 2 ∧ p.slots[k] 1 + p.slots[k] 2 ≤ (p.kinds.length : Int) ∧ -1 ≤ p.slots[k] 6 ∧ p.slots[k] 6 < (p.kinds.length : Int) * 16 by have := HE.out.sl k hlt; rwa [getD_z hlt] at this)
  generalize p.slots[k] = s at X0 HS HL
  have R5 := hid (World.rangeAt_setCells_same _ wr.heap.size 0 (cf 7 s) (by rw [cf_len]; exact T5.out))
  have B5 := hid (below_setCells (bal (Below.refl wr.heap.size wr) (.cells #[.int .i64 0, .int .i64 0, .int .i64 0, .int .i64 0, .int .i64 0, .int .i64 0, .int .i64 0] 58)) (Nat.le_refl _) (cf 7 s) 0)
  have T6 := hid (show (wr.alloc (.cells #[.int .i64 0, .int .i64 0, .int .i64 0, .int .i64 0, .int .i64 0, .int .i64 0, .int .i64 0] 58)).there wr.heap.size 0 (cf 7 s).toArray.size by rw [show (cf 7 s).toArray.size = 7 by simp [cf_len]]; exact T5.out)
  have I7 := hid (show (Tryz.prog.info? 58).map (·.size) = some (cf 7 s).length by rw [cf_len]; exact info7)
  have J7 := hid (show (Tryz.prog.info? 58).map (·.size) = some (cf 7 s).toArray.size by rw [List.size_toArray]; exact I7.out)
  have hgl : g < wr.heap.size := HV.out.mi.lt
  have B6 := hid (show wr.heap.size < ((wr.alloc (.cells #[.int .i64 0, .int .i64 0, .int .i64 0, .int .i64 0, .int .i64 0, .int .i64 0, .int .i64 0] 58)).setCells wr.heap.size 0 (cf 7 s)).heap.size from World.block_lt_of_cell? _ _ (R5.out 0 _ (cf_at 7 s 0 (by omega))))
  obtain ⟨m, hm⟩ : ∃ m : Nat, k / 16 = m := ⟨_, rfl⟩
  have hm2 : (k : Int) / 16 = (m : Int) := by omega
  have hmn : m < p.kinds.length := by have := HE.out.lf.slots; omega
  obtain ⟨ln, hln⟩ : ∃ ln : Nat, s 2 = ln := ⟨(s 2).toNat, by have := HL.out; omega⟩
  obtain ⟨bs, hbs⟩ : ∃ bs : Nat, s 1 = bs := ⟨(s 1).toNat, by have := HL.out; omega⟩
  rw [hm, hln, hbs, Int.toNat_natCast, Int.toNat_natCast] at HS
  have HLN := hid hln
  have HBS := hid hbs
  have hle : bs + ln ≤ p.kinds.length := by have := HL.out; omega
  have hl24 : p.kinds.length ≤ 24 := HE.out.lf.k2
  clear hln hbs hm
  go_upto_region 2 with fail
  go_wp2_with (first
   | ((with_reducible (show wpList _ _ _ (⟨_, Op.store 58 _ _, _, _, _, _⟩ :: _) _ _)); refine wpList_store_mid rfl 58 _ _ rfl wr.heap.size 0 (cf 7 s).toArray rfl rfl T6.out J7.out (all_oneCell_toArray (cf_one 7 s)) ?_; (generalize hW5 : World.setCells _ _ _ _ = W5 at R5 B5 B6 ⊢); clear hW5; have VG := hid (HV.out.next B5.out); have BX := hid (⟨R5.out, B6.out⟩ : Bx W5 wr.heap.size 7 s); have x2 := BX.out.at 2 (by omega); rw [HLN.out] at x2)
   | ((with_reducible (show wpList _ _ _ (⟨_, Op.load 58 _, _, _, _, _⟩ :: _) _ _)); refine wpList_load_mid rfl 58 _ rfl b2 (o2 + k * 7) rfl (cf 7 s) _ X0.out Tryz.underlying58 rfl I7.out ?_))
  clear x2 T5 R5 B5 T6 I7 J7 B6 X0 HV
  generalize wr.heap.size = bx at *
  have hbg : ¬ bx = g := by omega
  go_loopw [23] (fun i wx => ∃ (j : Nat) (M' : List Int), j ≤ ln ∧ i = .int .i64 j ∧ Hid (Vg w1 vb V p g (es ++ upto (egS p) k ++ (List.range j).map fun i => (m, bs + i)) M' wx) ∧ Hid (Bx wx bx 7 s)) (fun i _ => ln - (intOf i).toNat)
  case atStart => exact ⟨0, M, by omega, rfl, hid (by simpa using VG.out), BX⟩
  case round =>
   obtain ⟨j, M', hj, rfl, HV, HX⟩ := hrel
   have x6 := HX.out.at 6 (by omega)
   have x1 := HX.out.at 1 (by omega)
   rw [HBS.out] at x1
   by_cases hjl : j < ln
   ·have hjl2 : (j : Int) < (ln : Int) := by omega
    have HJ := hid (join_any g p.kinds.length m (bs + j) M' wr HV.out.mi HV.out.lb.len (by omega) hmn (by omega))
    rw [Int.natCast_add] at HJ
    go_wp2_with fail
    refine HJ.out.mono ?_
    rintro r w2 ⟨rfl, hmi, hkq⟩
    have V2 := hid (HV.out.one hmn (show bs + j < p.kinds.length by omega) hmi hkq)
    have X2 := hid (HX.out.kq hkq hbg)
    clear hmi hkq HJ x1 x6
    go_wp2_with fail
    refine ⟨⟨j + 1, jn1 M' m (bs + j), by omega, by go_num, hid ?_, X2⟩, by simp [intOf]; omega⟩
    rw [List.range_succ, List.map_append, ← List.append_assoc]
    exact V2.out
   ·obtain rfl : j = ln := by omega
    have hge : ¬ ((j : Int) < (j : Int)) := by omega
    by_cases h6 : s 6 = -1
    ·have HS2 := hid (show upto (egS p) (k + 1) = upto (egS p) k ++ (List.range j).map fun i => (m, bs + i) by rw [HU.out, HS.out, if_pos h6, List.append_nil])
     rw [h6] at x6
     clear h6 x1
     go_wp2_with fail
     exact ⟨⟨k + 1, M', by omega, by go_num, hid (by rw [HS2.out, ← List.append_assoc]; exact HV.out)⟩, by simp [intOf]; omega⟩
    ·obtain ⟨f6, hf6⟩ : ∃ f : Nat, s 6 = f := ⟨(s 6).toNat, by have := HL.out; omega⟩
     obtain ⟨d6, hd6⟩ : ∃ d : Nat, f6 / 16 = d := ⟨_, rfl⟩
     have HS2 := hid (show upto (egS p) (k + 1) = upto (egS p) k ++ ((List.range j).map (fun i => (m, bs + i)) ++ [(m, d6)]) by rw [HU.out, HS.out, if_neg h6, hf6, Int.toNat_natCast, hd6])
     have hdn : d6 < p.kinds.length := by have := HL.out; omega
     have hd2 : (f6 : Int) / 16 = (d6 : Int) := by omega
     rw [hf6] at x6
     have hn6 : ((f6 : Int) != -1) = true := by simp
     have HJ := hid (join_any g p.kinds.length m d6 M' wr HV.out.mi HV.out.lb.len (by omega) hmn hdn)
     clear h6 x1 hf6 hd6
     go_wp2_with fail
     refine HJ.out.mono ?_
     rintro r w2 ⟨rfl, hmi, hkq⟩
     have V2 := hid (HV.out.one hmn hdn hmi hkq)
     clear hmi hkq HJ x6
     go_wp2_with fail
     refine ⟨⟨k + 1, jn1 M' m d6, by omega, by go_num, hid ?_⟩, by simp [intOf]; omega⟩
     rw [HS2.out, ← List.append_assoc, ← List.append_assoc]
     exact V2.out
theorem upto_none {g : Nat → List (Nat × Nat)} {a : Nat} : ∀ m, (∀ j, j < m → g (a + j) = []) → upto g (a + m) = upto g a
 | 0, _ => rfl
 | m + 1, h => by
  rw [← Nat.add_assoc, upto_succ, h m (by omega), List.append_nil]
  exact upto_none m fun j hj => h j (by omega)
theorem bit_no : (bits .and .i64 0 32768 == 0) = true := by decide
theorem bit_yes {x : Int} {f : Nat} (hf : f < 1024) (h : x = 32768 + f ∨ x = 49152 + f) : (bits .and .i64 x 32768 == 0) = false := by
 rw [and15 x (by omega) (by omega)]
 have : x / 32768 % 2 * 32768 ≠ 0 := by omega
 simpa using this
set_option maxRecDepth 100000 in
set_option maxHeartbeats 4000000 in
theorem joinEntries_any (w1 : World) (vb : Nat) (V : Nat → Value) (p : PW) (g : Nat) (es : List (Nat × Nat)) (L : List Int) (w : World) (h : Vg w1 vb V p g es L w) (he : Eg p) (r0 : RoomV (V 0)) :
  Calls Tryz.prog 21 #[.slice (some ⟨g, 0, none⟩) p.kinds.length p.kinds.length, .pointer (some ⟨vb, 0, none⟩)] w fun r w' => r = .returned (.tuple #[]) ∧ ∃ L', Vg w1 vb V p g (es ++ upto (egR p) p.ram.length) L' w' := by
 have HH := hid h
 have HE := hid he
 have c1 : w.cell? ⟨vb, 1, none⟩ = some (V 1) := range_cell h.view.r rfl
 obtain ⟨q1, b1, o1, k1, e1, hq1, hz1⟩ := h.va.v.kinds
 obtain ⟨q0, b0, o0, k0, e0, hq0, hz0⟩ := h.va.v.ram
 rw [e1] at c1
 rw [e0] at r0
 have HC0 := hid (fun W (hb : Below w1.heap.size w1 W) => show W.cell? ⟨vb, 0, none⟩ = some (.slice q0 p.ram.length k0) from e0 ▸ range_cell (h.va.below hb).r rfl)
 have hl : (p.kinds.length : Int) ≤ 1000 := by have := h.va.f.kinds; omega
 have hr := he.lf.ram
 have hlr : (p.ram.length : Int) ≤ 1000 := by have := h.va.f.ram; omega
 have HR0 := hid (show p.ram.length ≤ k0 from r0)
 have HZ1 := hid hz1
 have HZ0 := hid hz0
 have HQ1 := hid hq1
 have HQ0 := hid hq0
 have HRL := hid hr
 have hl24 : p.kinds.length ≤ 24 := he.lf.k2
 clear hz1 hz0 hq0 hq1 e1 e0 h he hr r0
 go_enter Tryz.func21, Tryz.ntmps21
 go_wp2_with fail
 clear c1
 go_loopw [16] (fun i wr => ∃ (k : Nat) (L' : List Int), k ≤ p.kinds.length ∧ i = .int .i64 k ∧ Hid (Vg w1 vb V p g (es ++ upto (egR p) (k * 16)) L' wr)) (fun i _ => p.kinds.length - (intOf i).toNat)
 case atStart => exact ⟨0, L, by omega, rfl, hid (by rw [Nat.zero_mul, upto_0, List.append_nil]; exact HH.out)⟩
 case round =>
  obtain ⟨k, M, hk, rfl, HV⟩ := hrel
  by_cases hlt : k < p.kinds.length
  rotate_left
  ·obtain rfl : k = p.kinds.length := by omega
   have hge : ¬ ((p.kinds.length : Int) < (p.kinds.length : Int)) := by omega
   go_wp2_with fail
   exact bodyPost_end (results_none rfl _ _ _) rfl ⟨rfl, M, by rw [HRL.out]; exact HV.out⟩
  have hlt2 : (k : Int) < (p.kinds.length : Int) := by omega
  obtain rfl := HQ1.out (by omega)
  obtain rfl := HQ0.out (by have := HRL.out; omega)
  have ck := (HZ1.out.below HV.out.be) k hlt
  have HKD := hid (getD_i hlt)
  generalize p.kinds[k] = kd at ck HKD
  by_cases h34 : kd = 3 ∨ kd = 4
  rotate_left
  ·have h3 : (kd != 3) = true := by simp; omega
   have h4 : (kd != 4) = true := by simp; omega
   have HN := hid (show upto (egR p) ((k + 1) * 16) = upto (egR p) (k * 16) by
    rw [Nat.add_mul]
    refine upto_none 16 fun j hj => ?_
    unfold egR
    rw [show (k * 16 + j) / 16 = k by omega, HKD.out]
    exact if_neg fun h => h34 h.1)
   clear h34
   go_wp2_with fail
   exact ⟨⟨k + 1, M, by omega, by go_num, hid (by rw [HN.out]; exact HV.out)⟩, by simp [intOf]; omega⟩
  have hc0 := HC0.out wr HV.out.be
  have HPC := hid (pieceI_any (some ⟨b0, o0, none⟩) p.ram.length k0 k b0 o0 wr rfl HR0.out (by have := HRL.out; omega) (by have := HH.out.va.f.ram; omega))
  have hcut : Hid ((kd != 3 && kd != 4) = false) := hid (by rcases h34 with rfl | rfl <;> rfl)
  rcases h34 with rfl | rfl
  all_goals
   go_wp2_with fail
   refine HPC.out.mono ?_
   rintro r w2 ⟨rfl, rfl⟩
   clear HPC hc0 ck hcut
   go_wp2_with fail
   go_loopw [34] (fun i wx => ∃ (j : Nat) (M' : List Int), j ≤ 16 ∧ i = .int .i64 j ∧ Hid (Vg w1 vb V p g (es ++ upto (egR p) (k * 16 + j)) M' wx)) (fun i _ => 16 - (intOf i).toNat)
   case atStart => exact ⟨0, M, by omega, rfl, HV⟩
   case round =>
    obtain ⟨j, M', hj, rfl, HV⟩ := hrel
    by_cases hjl : j < 16
    rotate_left
    ·obtain rfl : j = 16 := by omega
     go_wp2_with fail
     exact ⟨⟨k + 1, M', by omega, by go_num, hid (by rw [Nat.add_mul]; exact HV.out)⟩, by simp [intOf]; omega⟩
    have hjl2 : (j : Int) < 16 := by omega
    have hkl : k * 16 + j < p.ram.length := by have := HRL.out; omega
    have cx := (HZ0.out.below HV.out.be) (k * 16 + j) hkl
    rw [← Nat.add_assoc] at cx
    have HU := hid (upto_succ (egR p) (k * 16 + j))
    have HG := hid (show egR p (k * 16 + j) = if p.ram.getD (k * 16 + j) 0 ≠ 0 then [(k, (p.ram.getD (k * 16 + j) 0).toNat % 1024)] else [] by
     unfold egR
     rw [show (k * 16 + j) / 16 = k by omega, HKD.out]
     by_cases hx : p.ram.getD (k * 16 + j) 0 ≠ 0
     ·rw [if_pos ⟨by decide, hx⟩, if_pos hx]
     ·rw [if_neg fun h => hx h.2, if_neg hx])
    have HX := hid (show p.ram.getD (k * 16 + j) 0 = 0 ∨ ∃ f : Nat, f < p.kinds.length ∧ (p.ram.getD (k * 16 + j) 0 = 32768 + f ∨ p.ram.getD (k * 16 + j) 0 = 49152 + f) from HE.out.ra _ hkl (by rw [show (k * 16 + j) / 16 = k by omega, HKD.out]; decide))
    rw [getD_i hkl] at HX HG
    generalize p.ram[k * 16 + j] = x at cx HX HG
    clear hkl
    rcases HX.out with rfl | ⟨f, hf, hx⟩
    ·rw [if_neg (fun h => h rfl)] at HG
     go_wp2_with fail
     refine (leads_no 0 wr bit_no).mono ?_
     rintro r w3 ⟨rfl, rfl⟩
     go_wp2_with fail
     exact ⟨⟨j + 1, M', by omega, by go_num, hid (by rw [← Nat.add_assoc, HU.out, HG.out, List.append_nil]; exact HV.out)⟩, by simp [intOf]; omega⟩
    ·have HXY := hid (leads_yes x wr (bit_yes (by omega) hx))
     have HG2 := hid (show egR p (k * 16 + j) = [(k, f)] by rw [HG.out, if_pos (by omega), show x.toNat % 1024 = f by omega])
     rw [show x % 1024 = (f : Int) by omega] at HXY
     have HJ := hid (join_any g p.kinds.length k f M' wr HV.out.mi HV.out.lb.len (by omega) hlt hf)
     clear hx HX HG
     go_wp2_with fail
     refine HXY.out.mono ?_
     rintro r w3 ⟨rfl, rfl⟩
     clear HXY
     go_wp2_with fail
     refine HJ.out.mono ?_
     rintro r w4 ⟨rfl, hmi, hkq⟩
     have V2 := hid (HV.out.one hlt hf hmi hkq)
     clear hmi hkq HJ cx
     go_wp2_with fail
     refine ⟨⟨j + 1, jn1 M' k f, by omega, by go_num, hid ?_⟩, by simp [intOf]; omega⟩
     rw [← Nat.add_assoc, HU.out, HG2.out, ← List.append_assoc]
     exact V2.out
def tcol (j : Nat) : Nat := [11, 12, 13, 14, 17].getD j 0
theorem tcol_in {j : Nat} (h : j < 5) : tcol j = 11 ∨ tcol j = 12 ∨ tcol j = 13 ∨ tcol j = 14 ∨ tcol j = 17 := by
 match j, h with
 | 0, _ => exact .inl rfl
 | 1, _ => exact .inr (.inl rfl)
 | 2, _ => exact .inr (.inr (.inl rfl))
 | 3, _ => exact .inr (.inr (.inr (.inl rfl)))
 | 4, _ => exact .inr (.inr (.inr (.inr rfl)))
 | _ + 5, h => omega
theorem egT_cols (p : PW) (f : Nat) : egT p f = (List.range 5).flatMap fun j => egC p f (tcol j) := by
 rw [show List.range 5 = [0, 1, 2, 3, 4] from rfl]
 simp only [List.flatMap_cons, List.flatMap_nil, List.append_nil]
 unfold egT
 simp only [List.append_assoc]
 rfl
theorem range_cells {w : World} {b : Nat} {vs : List Value} (h : ∀ o, w.cell? ⟨b, o, none⟩ = vs[o]?) : w.rangeAt b 0 vs := fun j v hv => by rw [Nat.zero_add, h j]; exact hv
set_option maxRecDepth 100000 in
set_option maxHeartbeats 4000000 in
theorem joinTasks_any (w1 : World) (vb : Nat) (V : Nat → Value) (p : PW) (g : Nat) (es : List (Nat × Nat)) (L : List Int) (w : World) (h : Vg w1 vb V p g es L w) (he : Eg p) :
  Calls Tryz.prog 22 #[.slice (some ⟨g, 0, none⟩) p.kinds.length p.kinds.length, .pointer (some ⟨vb, 0, none⟩)] w fun r w' => r = .returned (.tuple #[]) ∧ ∃ L', Vg w1 vb V p g (es ++ upto (egT p) p.kinds.length) L' w' := by
 have HH := hid h
 have HE := hid he
 have c3 : w.cell? ⟨vb, 3, none⟩ = some (V 3) := range_cell h.view.r rfl
 obtain ⟨q3, b3, o3, k3, e3, hq3, hz3⟩ := h.va.v.tasks
 rw [e3] at c3
 have hl : (p.tasks.length : Int) ≤ 1000 := by have := h.va.f.tasks; omega
 have HTL := hid he.lf.tasks
 have hl24 : p.kinds.length ≤ 24 := he.lf.k2
 have HZ := hid hz3
 have HQ := hid hq3
 clear hz3 hq3 e3 h he
 go_enter Tryz.func22, Tryz.ntmps22
 go_wp2_with fail
 clear c3
 go_loopw [13] (fun i wr => ∃ (k : Nat) (L' : List Int), k ≤ p.tasks.length ∧ i = .int .i64 k ∧ Hid (Vg w1 vb V p g (es ++ upto (egT p) k) L' wr)) (fun i _ => p.tasks.length - (intOf i).toNat)
 case atStart => exact ⟨0, L, by omega, rfl, hid (by rw [upto_0, List.append_nil]; exact HH.out)⟩
 case round =>
  obtain ⟨k, M, hk, rfl, HV⟩ := hrel
  by_cases hlt : k < p.tasks.length
  rotate_left
  ·obtain rfl : k = p.tasks.length := by omega
   have hge : ¬ ((p.tasks.length : Int) < (p.tasks.length : Int)) := by omega
   go_wp2_with fail
   exact bodyPost_end (results_none rfl _ _ _) rfl ⟨rfl, M, by rw [← HTL.out]; exact HV.out⟩
  have hlt2 : (k : Int) < (p.tasks.length : Int) := by omega
  have hkn : k < p.kinds.length := by rw [← HTL.out]; exact hlt
  obtain rfl := HQ.out (by omega)
  have X0 := hid (range_belowO (HZ.out k hlt) HV.out.be)
  have T5 := hid (there_new wr #[.int .i64 0, .int .i64 0, .int .i64 0, .int .i64 0, .int .i64 0, .int .i64 0, .int .i64 0, .int .i64 0, .int .i64 0, .int .i64 0, .int .i64 0, .int .i64 0, .int .i64 0, .int .i64 0, .int .i64 0, .int .i64 0, .int .i64 0, .int .i64 0, .int .i64 0, .int .i64 0] 61 wr.heap.size 20 rfl (by decide))
  have HU := hid (upto_succ (egT p) k)
  have HC := hid (show ∀ c, egC p k c = if p.tasks[k] c = -1 then [] else [(k, (p.tasks[k] c).toNat)] from fun c => by unfold egC; rw [getD_z hlt])
  have HT := hid (show ∀ c, c = 11 ∨ c = 12 ∨ c = 13 ∨ c = 14 ∨ c = 17 → p.tasks[k] c = -1 ∨ ∃ g : Nat, g < p.kinds.length ∧ p.tasks[k] c = g from fun c hc => by have := HE.out.ta k hkn c hc; rwa [getD_z hlt] at this)
  generalize p.tasks[k] = s at X0 HC HT
  have R5 := hid (World.rangeAt_setCells_same _ wr.heap.size 0 (cf 20 s) (by rw [cf_len]; exact T5.out))
  have B5 := hid (below_setCells (bal (Below.refl wr.heap.size wr) (.cells #[.int .i64 0, .int .i64 0, .int .i64 0, .int .i64 0, .int .i64 0, .int .i64 0, .int .i64 0, .int .i64 0, .int .i64 0, .int .i64 0, .int .i64 0, .int .i64 0, .int .i64 0, .int .i64 0, .int .i64 0, .int .i64 0, .int .i64 0, .int .i64 0, .int .i64 0, .int .i64 0] 61)) (Nat.le_refl _) (cf 20 s) 0)
  have T6 := hid (show (wr.alloc (.cells #[.int .i64 0, .int .i64 0, .int .i64 0, .int .i64 0, .int .i64 0, .int .i64 0, .int .i64 0, .int .i64 0, .int .i64 0, .int .i64 0, .int .i64 0, .int .i64 0, .int .i64 0, .int .i64 0, .int .i64 0, .int .i64 0, .int .i64 0, .int .i64 0, .int .i64 0, .int .i64 0] 61)).there wr.heap.size 0 (cf 20 s).toArray.size by rw [show (cf 20 s).toArray.size = 20 by simp [cf_len]]; exact T5.out)
  have I7 := hid (show (Tryz.prog.info? 61).map (·.size) = some (cf 20 s).length by rw [cf_len]; exact info20)
  have J7 := hid (show (Tryz.prog.info? 61).map (·.size) = some (cf 20 s).toArray.size by rw [List.size_toArray]; exact I7.out)
  go_upto_region 2 with fail
  go_wp2_with (first
   | ((with_reducible (show wpList _ _ _ (⟨_, Op.store 61 _ _, _, _, _, _⟩ :: _) _ _)); refine wpList_store_mid rfl 61 _ _ rfl wr.heap.size 0 (cf 20 s).toArray rfl rfl T6.out J7.out (all_oneCell_toArray (cf_one 20 s)) ?_; (generalize hW5 : World.setCells _ _ _ _ = W5 at R5 B5 ⊢); clear hW5; have VG := hid (HV.out.next B5.out); have x11 := box_at R5.out 11 (by omega); have x12 := box_at R5.out 12 (by omega); have x13 := box_at R5.out 13 (by omega); have x14 := box_at R5.out 14 (by omega); have x17 := box_at R5.out 17 (by omega))
   | ((with_reducible (show wpList _ _ _ (⟨_, Op.load 61 _, _, _, _, _⟩ :: _) _ _)); refine wpList_load_mid rfl 61 _ rfl b3 (o3 + k * 20) rfl (cf 20 s) _ X0.out Tryz.underlying61 rfl I7.out ?_))
  have hgb : ¬ W5.heap.size = g := by have := VG.out.mi.lt; omega
  have VH := hid (VG.out.next (bal (Below.refl _ _) (.cells #[.int .i64 (s 11), .int .i64 (s 12), .int .i64 (s 13), .int .i64 (s 14), .int .i64 (s 17)] 3)))
  have BX := hid (show Bx (W5.alloc (.cells #[.int .i64 (s 11), .int .i64 (s 12), .int .i64 (s 13), .int .i64 (s 14), .int .i64 (s 17)] 3)) W5.heap.size 5 (fun j => s (tcol j)) from ⟨range_cells fun o => (cells_new W5 #[.int .i64 (s 11), .int .i64 (s 12), .int .i64 (s 13), .int .i64 (s 14), .int .i64 (s 17)] 3 o).trans (by rw [show cf 5 (fun j => s (tcol j)) = (#[.int .i64 (s 11), .int .i64 (s 12), .int .i64 (s 13), .int .i64 (s 14), .int .i64 (s 17)] : Array Value).toList from rfl, Array.getElem?_toList]), by simp⟩)
  generalize W5.alloc (.cells #[.int .i64 (s 11), .int .i64 (s 12), .int .i64 (s 13), .int .i64 (s 14), .int .i64 (s 17)] 3) = W6 at *
  generalize W5.heap.size = bx at *
  clear x11 x12 x13 x14 x17 T5 R5 B5 T6 I7 J7 X0 HV VG
  go_loopw [30] (fun i wx => ∃ (j : Nat) (M' : List Int), j ≤ 5 ∧ i = .int .i64 j ∧ Hid (Vg w1 vb V p g (es ++ upto (egT p) k ++ (List.range j).flatMap fun i => egC p k (tcol i)) M' wx) ∧ Hid (Bx wx bx 5 (fun j => s (tcol j)))) (fun i _ => 5 - (intOf i).toNat)
  case atStart => exact ⟨0, M, by omega, rfl, hid (by simpa using VH.out), BX⟩
  case round =>
   obtain ⟨j, M', hj, rfl, HV, HX⟩ := hrel
   by_cases hjl : j < 5
   rotate_left
   ·obtain rfl : j = 5 := by omega
    go_wp2_with fail
    exact ⟨⟨k + 1, M', by omega, by go_num, hid (by rw [HU.out, egT_cols, ← List.append_assoc]; exact HV.out)⟩, by simp [intOf]; omega⟩
   have hjl2 : (j : Int) < 5 := by omega
   have xj := HX.out.at j hjl
   have HCJ := hid (HC.out (tcol j))
   have HTJ := hid (HT.out (tcol j) (tcol_in hjl))
   have HRS := hid (show (List.range (j + 1)).flatMap (fun i => egC p k (tcol i)) = (List.range j).flatMap (fun i => egC p k (tcol i)) ++ egC p k (tcol j) by rw [List.range_succ, List.flatMap_append]; simp)
   generalize s (tcol j) = x at xj HCJ HTJ
   rcases HTJ.out with rfl | ⟨f, hf, rfl⟩
   ·rw [if_pos rfl] at HCJ
    clear HTJ
    go_wp2_with fail
    exact ⟨⟨j + 1, M', by omega, by go_num, hid (by rw [HRS.out, HCJ.out, List.append_nil]; exact HV.out), HX⟩, by simp [intOf]; omega⟩
   ·rw [if_neg (by omega), Int.toNat_natCast] at HCJ
    have hn6 : ((f : Int) != -1) = true := by simp
    have HJ := hid (join_any g p.kinds.length k f M' wr HV.out.mi HV.out.lb.len (by omega) hkn hf)
    clear HTJ
    go_wp2_with fail
    refine HJ.out.mono ?_
    rintro r w4 ⟨rfl, hmi, hkq⟩
    have V2 := hid (HV.out.one hkn hf hmi hkq)
    have X2 := hid (HX.out.kq hkq hgb)
    clear hmi hkq HJ xj
    go_wp2_with fail
    refine ⟨⟨j + 1, jn1 M' k f, by omega, by go_num, hid ?_, X2⟩, by simp [intOf]; omega⟩
    rw [HRS.out, HCJ.out, ← List.append_assoc]
    exact V2.out
set_option maxRecDepth 100000 in
set_option maxHeartbeats 4000000 in
theorem of_any (V : Nat → Value) (p : PW) (w : World) (hv : WorldV w V p) (hp : p.Fits) (r0 : RoomV (V 0)) :
  Calls Tryz.prog 8 #[.agg (arr11 V)] w fun x w' => (sndB p = false → x = .returned (.tuple #[.slice none 0 0, eV 8])) ∧ (sndB p = true → ∃ g, x = .returned (.tuple #[.slice (some ⟨g, 0, none⟩) p.kinds.length p.kinds.length, .nilIface]) ∧ Mine w' g (ints (ptL p)) ∧ w.heap.size ≤ g) ∧ Below w.heap.size w w' := by
 have RGc := hid (boxed w V 28)
 have B0 := hid (bal (Below.refl w.heap.size w) (.cells (arr11 V) 28))
 have HC := hid (check_any V p (w.alloc (.cells (arr11 V) 28)) (hv.below B0.out) hp)
 have VA := hid (show ViewAt (w.alloc (.cells (arr11 V) 28)) w.heap.size V p from ⟨RGc.out, hv.below B0.out, hp⟩)
 have HR0 := hid r0
 clear hv hp r0
 go_enter Tryz.func8, Tryz.ntmps8
 go_wp2_with (first | ((with_reducible (show wpList _ _ _ (⟨_, Op.load 28 _, _, _, _, _⟩ :: _) _ _)); refine wp_ldWg (by rfl) _ rfl _ rfl V RGc.out ?_))
 generalize w.alloc (.cells (arr11 V) 28) = W0 at *
 refine HC.out.mono ?_
 rintro r w1 ⟨x, rfl, hc, hb⟩
 have B1 := hid hb
 cases hs : sndB p with
 | false =>
  have HX := hid (chk_not3 hc hs)
  have HSN := hid hs
  clear hb hc hs RGc
  rcases HX.out with ⟨e, rfl⟩ | ⟨b, rfl⟩
  all_goals
   clear HX
   go_wp2_with fail
   go_ret2
   exact ⟨fun _ => rfl, fun h => absurd h (by rw [HSN.out]; decide), btr B0.out B1.out⟩
 | true =>
 have HE := hid (eg_of (snd_of hs))
 have HSN := hid hs
 obtain rfl := chk_nil hc hs
 have V1 := hid (VA.out.below hb)
 clear hb hc hs RGc VA HC
 have c1 : w1.cell? ⟨w.heap.size, 1, none⟩ = some (V 1) := range_cell V1.out.r rfl
 obtain ⟨qa, ba, oa, ca, ea, -, -⟩ := V1.out.v.kinds
 rw [ea] at c1
 have HA := hid (alone_any p.kinds.length w1 V1.out.f.kinds)
 clear ea
 go_wp2_with fail
 refine HA.out.mono ?_
 rintro r w2 ⟨rfl, hm, hb⟩
 have G2 := hid (show Vg w1 w.heap.size V p w1.heap.size [] (alL p.kinds.length) w2 from ⟨V1.out, hb, Nat.le_refl _, hm, lb_nil _⟩)
 clear hm hb HA c1
 go_wp2_with fail
 refine (joinKeys_any _ _ _ _ _ _ _ _ G2.out HE.out).mono ?_
 rintro r w3 ⟨rfl, L3, g3⟩
 have G3 := hid g3
 clear g3 G2
 go_wp2_with fail
 refine (joinEntries_any _ _ _ _ _ _ _ _ G3.out HE.out HR0.out).mono ?_
 rintro r w4 ⟨rfl, L4, g4⟩
 have G4 := hid g4
 clear g4 G3
 go_wp2_with fail
 refine (joinTasks_any _ _ _ _ _ _ _ _ G4.out HE.out).mono ?_
 rintro r w5 ⟨rfl, L5, g5⟩
 have G5 := hid g5
 clear g5 G4
 go_wp2_with fail
 go_ret2
 have e5 : L5 = ptL p := lb_uniq (by have := G5.out.lb; rw [List.nil_append] at this; exact this) (lb_pt HE.out)
 subst e5
 have b5 := btr B0.out (btr B1.out G5.out.be)
 exact ⟨fun h => absurd h (by rw [HSN.out]; decide), fun _ => ⟨w1.heap.size, rfl, G5.out.mi, (btr B0.out B1.out).size⟩, b5⟩
end Go.Proofs.YtacpjedncjpmpaaGreatDoor.Wd
