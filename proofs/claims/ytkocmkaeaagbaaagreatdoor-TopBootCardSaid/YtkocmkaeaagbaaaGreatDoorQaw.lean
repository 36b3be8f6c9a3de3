/- Worlds in the making stay such: things out of clay. · Worlds in the making stay such: many things out of clay; a new world is one. -/
import Derived.Test.YtkocmkaeaagbaaaGreatDoorQav
namespace Go.Proofs.YtkocmkaeaagbaaaGreatDoor.Wd
open Go.RowKit Go.Proofs.YtkocmkaeaagbaaaGreatDoor.Mem Go.Proofs.YtkocmkaeaagbaaaGreatDoor.Bw Go.Proofs.YtkocmkaeaagbaaaGreatDoor.Nums Go.Proofs.YtkocmkaeaagbaaaGreatDoor.Mmu
/-- One thing, out of the clay in slot c. -/
def m1 (p : PW) (c : Nat) (k : Int) (b t : Nat) : PW := { shP p b k with slots := (p.slots.set t (nsl k (b : Int) (c : Int))).set c (upd (p.s c) 3 (p.s c 3 + 1)) }
theorem Keys.clay_root {p : PW} {r : Nat → Nat} (h : Keys p r) {c : Nat} (hc : p.s c 0 = 1) : p.s c 6 = -1 := by
 rcases h.up c with h1 | ⟨u, _, _, _, h4, _⟩
 ·exact h1
 ·unfold cmB at h4
  rw [hc] at h4
  split at h4
  ·simp at h4
  ·rename_i h5
   simp only [Bool.and_eq_true, beq_iff_eq] at h4
   exact absurd h4.1.1.1.symm h5
theorem zr_getD : ∀ (n : Nat) (l : List Int) (a j : Nat), a + n ≤ l.length → (zr n l a).getD j 0 = if a ≤ j ∧ j < a + n then 0 else l.getD j 0
 | 0, l, a, j, _ => by rw [zr_zero, if_neg (by omega)]
 | n + 1, l, a, j, h => by
  rw [zr_step, zr_getD n _ _ j (by rw [List.length_set]; omega), getD_set (by omega)]
  split
  ·rw [if_pos (by omega)]
  ·split
   ·rw [if_pos (by omega)]
   ·rw [if_neg (by omega)]
theorem zr_mem : ∀ (n : Nat) (l : List Int) (a : Nat) (x : Int), x ∈ zr n l a → x = 0 ∨ x ∈ l
 | 0, l, a, x, h => by rw [zr_zero] at h; exact .inr h
 | n + 1, l, a, x, h => by
  rw [zr_step] at h
  rcases zr_mem n _ _ x h with h | h
  ·exact .inl h
  ·rcases List.mem_or_eq_of_mem_set h with h | h
   ·exact .inr h
   ·exact .inl h
theorem beB_zero (p : PW) (k : Int) : beB p k 0 = false := by
 unfold beB
 split
 ·rfl
 ·split <;> rfl
theorem beB_mono {p q : PW} (e : ∀ a k, isB p a k = true → k ≠ 0 → isB q a k = true) {k x : Int} (h : beB p k x = false) : beB q k x = false := by
 have g : ∀ a j, j ≠ 0 → (!isB p a j) = false → (!isB q a j) = false := fun a j hj h => by
  rw [e a j (by simpa using h) hj]; rfl
 unfold beB at h ⊢
 split at h
 ·rename_i hk
  rw [if_pos hk]
  rw [Bool.and_eq_false_iff] at h ⊢
  rcases h with h | h
  ·exact .inl h
  ·exact .inr (g _ _ (by decide) h)
 ·rename_i hk
  rw [if_neg hk]
  split at h
  ·rename_i hk2
   rw [if_pos hk2]
   rw [Bool.and_eq_false_iff, Bool.and_eq_false_iff] at h ⊢
   rcases h with (h | h) | h
   ·exact .inl (.inl h)
   ·exact .inl (.inr (g _ _ (by decide) h))
   ·exact .inr (g _ _ (by decide) h)
  ·rename_i hk2
   rw [if_neg hk2]
theorem nsl_is (k f n : Int) : nsl k f n 0 = k ∧ nsl k f n 1 = f ∧ nsl k f n 2 = 1 ∧ nsl k f n 3 = 0 ∧ nsl k f n 4 = 7 ∧ nsl k f n 5 = 0 ∧ nsl k f n 6 = n := ⟨rfl, rfl, rfl, rfl, rfl, rfl, rfl⟩
theorem Bt.make1 {p : PW} {c : Nat} {k : Int} {b t : Nat} (h : Bt p) (hc : p.s c 0 = 1) (hb : (b : Int) = p.s c 1 + p.s c 3) (hm : p.s c 3 < p.s c 2) (hk : 2 ≤ k ∧ k ≤ 8) (ht : t < p.slots.length) (ht0 : p.s t 0 = 0) (ht5 : p.k (t / 16) = 5) : Bt (m1 p c k b t) := by
 obtain ⟨r, ks⟩ := h.keys
 have hcn : p.s c 0 ≠ 0 := by omega
 have hcl := s_in hcn
 have kc := ks.key c hcn
 have ki := kc_in kc.c hcn
 have km := ki.m hc
 have hbl : b < p.kinds.length := by have := kc.le; omega
 have hin : clI (b : Int) (p.s c) = true := clI_iff.2 ⟨hc, by omega, by omega⟩
 have hb0 : p.k b = 0 := Decidable.byContradiction fun e => by
  have := ks.us b e c
  unfold un at this
  rw [hin, Bool.true_and] at this
  exact of_decide_eq_false this (by omega)
 have hct : c ≠ t := fun e => hcn (e ▸ ht0)
 have htl : t < (p.slots.set t (nsl k (b : Int) (c : Int))).length := by rw [List.length_set]; exact ht
 obtain ⟨n0, n1, n2, n3, n4, n5, n6⟩ := nsl_is k (b : Int) (c : Int)
 generalize hn : nsl k (b : Int) (c : Int) = N at *
 have C0 : ∀ j, j ≠ 3 → upd (p.s c) 3 (p.s c 3 + 1) j = p.s c j := fun j hj => if_neg hj
 have C3 : upd (p.s c) 3 (p.s c 3 + 1) 3 = p.s c 3 + 1 := if_pos rfl
 have S : ∀ j, (m1 p c k b t).s j = if j = c then upd (p.s c) 3 (p.s c 3 + 1) else if j = t then N else p.s j := fun j => by
  unfold m1
  rw [hn]
  show ((p.slots.set t N).set c _).getD j eS = _
  rw [getD_set (by rw [List.length_set]; exact hcl), getD_set ht]
 have K : ∀ n, (m1 p c k b t).k n = if n = b then k else p.k n := fun n => getD_set hbl k 0 n
 generalize hC : upd (p.s c) 3 (p.s c 3 + 1) = C at *
 have c0 : C 0 = 1 := (C0 0 (by decide)).trans hc
 have c1 := C0 1 (by decide)
 have c2 := C0 2 (by decide)
 have hlen : (m1 p c k b t).slots.length = p.slots.length := by unfold m1; rw [List.length_set, List.length_set]
 have hkl : (m1 p c k b t).kinds.length = p.kinds.length := List.length_set ..
 have hsh : ∀ a j, isB p a j = true → j ≠ 0 → isB (m1 p c k b t) a j = true := fun a j h1 h2 => by
  obtain ⟨f, rfl, h3, h4⟩ := isB_nat h1
  rw [isB_k (by rw [hkl]; exact h3), K, if_neg (fun e => by subst e; omega)]
  rw [h4]; simp
 have cI : ∀ (n : Int) j, clI n ((m1 p c k b t).s j) = clI n (p.s j) := fun n j => by
  rw [S]
  split
  ·rename_i e
   subst e
   unfold clI
   rw [C0 0 (by decide), c1, c2]
  ·split
   ·rename_i e
    subst e
    unfold clI
    rw [n0, ht0, beq_eq_false_iff_ne.2 (show k ≠ 1 by omega)]
    rfl
   ·rfl
 have hkeep : ∀ u, p.s u 0 ≠ 0 → (m1 p c k b t).s u 0 = p.s u 0 ∧ (m1 p c k b t).s u 1 = p.s u 1 ∧ (m1 p c k b t).s u 6 = p.s u 6 := fun u hu => by
  have hut : u ≠ t := fun e => hu (e ▸ ht0)
  rw [S]
  split
  ·rename_i e
   subst e
   exact ⟨C0 0 (by decide), c1, C0 6 (by decide)⟩
  ·exact ⟨rfl, rfl, rfl⟩
 have hcm : ∀ u s, p.s u 0 ≠ 0 → cmB (p.s u) s = true → cmB ((m1 p c k b t).s u) s = true := fun u s hu h1 => by
  rw [S]
  split
  ·rename_i e
   subst e
   unfold cmB at h1 ⊢
   rw [if_pos hc] at h1
   rw [if_pos c0, c1, C3]
   rw [Bool.and_eq_true, decide_eq_true_eq] at h1 ⊢
   exact ⟨h1.1, h1.2.1, by omega⟩
  ·rw [if_neg (show ¬ u = t from fun e => hu (e ▸ ht0))]; exact h1
 have hk0 : p.k 0 = 5 := h.root.1
 have hnf : nfl (m1 p c k b t).slots = nfl p.slots + 1 := by
  unfold m1
  rw [hn, hC]
  show nfl ((p.slots.set t N).set c C) = _
  have hx : ((p.slots.set t N).getD c eS) 0 ≠ 0 := by rw [getD_set ht, if_neg hct]; exact hcn
  have := nfl_set (S := p.slots) ht ht0 (f := N) (by omega)
  rw [← this]
  have e : (p.slots.set t N)[c]'(by rw [List.length_set]; exact hcl) = (p.slots.set t N).getD c eS := by rw [List.getD_eq_getElem?_getD, List.getElem?_eq_getElem (by rw [List.length_set]; exact hcl)]; rfl
  unfold nfl
  rw [List.countP_set (by rw [List.length_set]; exact hcl), e]
  have h1 : (((p.slots.set t N).getD c eS) 0 != 0) = true := by simpa using hx
  have h2 : (C 0 != 0) = true := by rw [c0]; rfl
  have h3 : 0 < (p.slots.set t N).countP fun f => f 0 != 0 := List.countP_pos_iff.2 ⟨_, List.getElem_mem (by rw [List.length_set]; exact hcl), by rw [e]; exact h1⟩
  rw [if_pos h1, if_pos h2]
  omega
 refine ⟨⟨by rw [hkl]; exact h.lf.k1, by rw [hkl]; exact h.lf.k2, h.lf.c1, h.lf.c2, h.lf.d1, h.lf.d2, ?_, by rw [hlen, hkl]; exact h.lf.slots, by rw [hkl]; exact h.lf.tasks, by rw [hkl]; exact h.lf.lines, by rw [hkl]; exact h.lf.bits, h.lf.ready, h.lf.tlbs⟩, h.tm, fun x hx => ?_, h.ds, ⟨fun j => if j = t then r c + 1 else r j, fun j hj => ?_, fun j hj => ?_, fun j hj => ?_, fun j => ?_, fun j hj => ?_, fun n i j hi hj => ?_, fun n hn => ?_, fun n hn i => ?_, fun i h1 h2 h3 c' => ?_⟩, ⟨fun x hx => ?_, fun j hj => ?_⟩, ⟨fun n hn => ?_, fun n hn => ?_, h.tsk.ln, h.tsk.bt, h.tsk.co, h.tsk.tl, fun i z hz => ?_, fun n hn => ?_⟩, ?_⟩
 ·show (zr 16 p.ram (b * 16)).length = (p.kinds.set b k).length * 16
  rw [zr_len, List.length_set]; exact h.lf.ram
 ·rcases List.mem_or_eq_of_mem_set (show x ∈ p.kinds.set b k from hx) with h1 | rfl
  ·exact h.ks x h1
  ·omega
 ·rw [S] at hj ⊢
  by_cases e : j = c
  ·rw [if_pos e, c0] at hj; omega
  ·rw [if_neg e] at hj ⊢
   by_cases e2 : j = t
   ·rw [if_pos e2, n0] at hj; omega
   ·rw [if_neg e2] at hj ⊢; exact ks.em j hj
 ·rw [K]
  have h5 : p.k (j / 16) = 5 := by
   by_cases e2 : j = t
   ·rw [e2]; exact ht5
   ·refine ks.nd j fun e0 => ?_
    rw [S] at hj
    by_cases e : j = c
    ·rw [e] at e0; exact hcn e0
    ·rw [if_neg e, if_neg e2] at hj; exact hj e0
  rw [if_neg (fun e => by rw [e] at h5; omega)]; exact h5
 ·rw [S] at hj ⊢
  by_cases e : j = c
  ·rw [if_pos e]
   refine ⟨kc_of ⟨by rw [c0]; decide, by rw [c1]; exact ki.b, by rw [c2]; exact ki.l, by rw [c1, c2]; exact ki.bl, fun _ => by rw [C3, c2]; omega, fun e => absurd c0 e, by rw [C0 4 (by decide)]; exact ki.r, by rw [c0, C0 5 (by decide)]; have := ki.g; rw [hc] at this; exact this⟩, by rw [c1, c2, hkl]; exact kc.le, .inl c0⟩
  ·rw [if_neg e] at hj ⊢
   by_cases e2 : j = t
   ·rw [if_pos e2]
    have := h.lf.k2
    refine ⟨kc_of ⟨by rw [n0]; omega, by rw [n1]; omega, by rw [n2]; decide, by rw [n1, n2]; omega, fun e => by omega, fun _ => ⟨n2, n3⟩, by rw [n4]; decide, ?_⟩, by rw [n1, n2, hkl]; omega, .inr ?_⟩
    ·rw [n0, n5]
     by_cases e : k = 7 ∨ k = 8
     ·exact .inl ⟨e, by decide⟩
     ·exact .inr ⟨e, rfl⟩
    ·rw [n1, n0, isB_k (by rw [hkl]; exact hbl), K, if_pos rfl]; simp
   ·rw [if_neg e2] at hj ⊢
    have := ks.key j hj
    exact ⟨this.c, by rw [hkl]; exact this.le, by
     rcases this.is with h1 | h1
     ·exact .inl h1
     ·exact .inr (hsh _ _ h1 hj)⟩
 ·by_cases e : j = c
  ·left; rw [S, if_pos e, C0 6 (by decide)]; exact ks.clay_root hc
  ·by_cases e2 : j = t
   ·refine .inr ⟨c, by rw [S, if_neg e, if_pos e2]; exact n6, by rw [hlen]; exact hcl, by rw [S, if_pos rfl, c0]; decide, ?_, ?_⟩
    ·rw [S, if_pos rfl, S, if_neg e, if_pos e2]
     unfold cmB
     rw [if_pos c0, n0, n1, c1, C3, bne_iff_ne.2 (show k ≠ 1 by omega), decide_eq_true (by omega)]; rfl
    ·rw [if_neg hct, if_pos e2]; omega
   ·rw [show (m1 p c k b t).s j = p.s j by rw [S, if_neg e, if_neg e2]]
    rcases ks.up j with h1 | ⟨u, h1, h2, h3, h4, h5⟩
    ·exact .inl h1
    ·refine .inr ⟨u, h1, by rw [hlen]; exact h2, by rw [(hkeep u h3).1]; exact h3, hcm u _ h3 h4, ?_⟩
     rw [if_neg (show ¬ u = t from fun e => h3 (e ▸ ht0)), if_neg e2]; exact h5
 ·rw [hnf]
  by_cases e2 : j = t
  ·rw [if_pos e2]
   have := ks.rk c hcn
   omega
  ·rw [if_neg e2]
   have h1 : p.s j 0 ≠ 0 := fun e0 => by
    rw [S] at hj
    by_cases e : j = c
    ·rw [e] at e0; exact hcn e0
    ·rw [if_neg e, if_neg e2] at hj; exact hj e0
   have := ks.rk j h1
   omega
 ·rw [cI] at hi hj
  exact ks.one n i j hi hj
 ·rw [K] at hn
  by_cases e : n = b
  ·refine ⟨t, by rw [hlen]; exact ht, ?_⟩
   rw [S, if_neg (fun e => hct e.symm), if_pos rfl]
   exact opn_iff.2 ⟨by omega, by omega, by rw [n1, e]⟩
  ·rw [if_neg e] at hn
   obtain ⟨i, h1, h2⟩ := ks.op n hn
   obtain ⟨o1, o2, o3⟩ := opn_iff.1 h2
   obtain ⟨a1, a2, _⟩ := hkeep i o1
   exact ⟨i, by rw [hlen]; exact h1, opn_iff.2 ⟨by rw [a1]; exact o1, by rw [a1]; exact o2, by rw [a2]; exact o3⟩⟩
 ·rw [K] at hn
  unfold un
  rw [cI]
  cases hx : clI (n : Int) (p.s i) with
  | false => rfl
  | true =>
   rw [Bool.true_and]
   by_cases e : n = b
   ·have hic : i = c := ks.one n i c hx (by rw [e]; exact hin)
    rw [S, if_pos hic, c1, C3]
    exact decide_eq_false (by omega)
   ·rw [if_neg e] at hn
    have h1 := ks.us n hn i
    unfold un at h1
    rw [hx, Bool.true_and] at h1
    have h2 := of_decide_eq_false h1
    rw [S]
    split
    ·rename_i e3
     subst e3
     rw [c1, C3]
     exact decide_eq_false (by omega)
    ·split
     ·rename_i e4
      subst e4
      have := (clI_iff.1 hx).1
      omega
     ·exact h1
 ·rw [cI]
  by_cases e2 : i = t
  ·rw [S, if_neg (fun e => hct (e.symm.trans e2)), if_pos e2, n6] at h3
   omega
  ·by_cases e : i = c
   ·rw [S, if_pos e] at h2
    exact absurd c0 h2
   ·rw [S, if_neg e, if_neg e2] at h1 h2 h3 ⊢
    exact ks.gp i h1 h2 h3 c'
 ·rcases zr_mem 16 _ _ x (show x ∈ zr 16 p.ram (b * 16) from hx) with h1 | h1
  ·omega
  ·exact h.ram.w x h1
 ·have hr := h.lf.ram
  have hj2 : j < p.ram.length := by have : j < (zr 16 p.ram (b * 16)).length := hj; rwa [zr_len] at this
  show beB _ _ ((zr 16 p.ram (b * 16)).getD j 0) = false
  rw [zr_getD 16 _ _ _ (by omega), K]
  by_cases e : b * 16 ≤ j ∧ j < b * 16 + 16
  ·rw [if_pos e]; exact beB_zero _ _
  ·rw [if_neg e, if_neg (by omega)]
   exact beB_mono hsh (h.ram.e j hj2)
 ·rw [K] at hn
  refine h.tsk.no n fun e => ?_
  rw [if_neg (fun e2 => by subst e2; omega)] at hn
  exact hn e
 ·rw [K] at hn
  by_cases e : n = b
  ·have hb6 : p.k b ≠ 6 := by omega
   have ht := h.tsk.no b hb6
   show NewT _ (p.t n)
   rw [e]
   have hc1 := h.lf.c1
   refine ⟨fun k hk => ?_, .inl (ht 9 (by decide)), ?_, ?_, ?_, ?_, ?_⟩
   ·rw [ht k (by omega)]
    have : k = 0 ∨ k = 1 ∨ k = 2 ∨ k = 3 ∨ k = 4 ∨ k = 5 ∨ k = 6 ∨ k = 7 ∨ k = 8 := by omega
    rcases this with rfl | rfl | rfl | rfl | rfl | rfl | rfl | rfl | rfl <;> rfl
   ·rw [ht 10 (by decide)]; decide
   ·rw [ht 11 (by decide), ht 12 (by decide), ht 13 (by decide)]; exact ⟨rfl, rfl, rfl⟩
   ·rw [ht 14 (by decide), ht 15 (by decide), ht 16 (by decide), ht 17 (by decide)]; decide
   ·rw [ht 18 (by decide)]
    show (0 : Int) ≤ 0 ∧ (0 : Int) ≤ (p.cores.length : Int) - 1
    omega
   ·rw [ht 19 (by decide)]; decide
  ·rw [if_neg e] at hn
   exact (h.tsk.yes n hn).to hsh rfl
 ·obtain ⟨u, h1, h2, h3, h4⟩ := h.tsk.rd i z hz
  exact ⟨u, h1, by rw [K, if_neg (fun e => by subst e; omega)]; exact h2, h3, h4⟩
 ·rw [K] at hn
  by_cases e : n = b
  ·have hb6 : p.k b ≠ 6 := by omega
   show cna n p.ready = if p.t n 9 = 1 then 1 else 0
   rw [e, h.tsk.no b hb6 9 (by decide)]
   refine sum_none' _ fun l hl => cn_zero fun hz => ?_
   obtain ⟨i, hi, rfl⟩ := List.getElem_of_mem hl
   obtain ⟨u, h1, h2, _⟩ := h.tsk.rd i (b : Int) (by rw [List.getD_eq_getElem?_getD, List.getElem?_eq_getElem hi]; exact hz)
   obtain rfl : b = u := by omega
   omega
  ·rw [if_neg e] at hn
   exact h.tsk.rn n hn
 ·refine ⟨by rw [K, if_neg (fun e => by rw [← e] at hb0; omega)]; exact hk0, ?_⟩
  rw [(hkeep 0 h.root.2).1]; exact h.root.2
end Go.Proofs.YtkocmkaeaagbaaaGreatDoor.Wd
namespace Go.Proofs.YtkocmkaeaagbaaaGreatDoor.Wd
open Go.RowKit Go.Proofs.YtkocmkaeaagbaaaGreatDoor.Mem Go.Proofs.YtkocmkaeaagbaaaGreatDoor.Bw Go.Proofs.YtkocmkaeaagbaaaGreatDoor.Nums Go.Proofs.YtkocmkaeaagbaaaGreatDoor.Mmu
/-- Where no key is made from clay, its frames are nothing. -/
theorem Keys.free {p : PW} {r : Nat → Nat} (h : Keys p r) {c : Nat} (hf : ∀ i, p.s i 6 ≠ c) {n : Nat} (hn : clI n (p.s c) = true) : p.k n = 0 := by
 have go : ∀ m i, r i < m → opn (n : Int) (p.s i) = true → False := by
  intro m
  induction m with
  | zero => intro i hi; omega
  | succ m ih =>
   intro i hi ho
   obtain ⟨o1, o2, o3⟩ := opn_iff.1 ho
   rcases h.up i with h1 | ⟨u, h1, h2, h3, h4, h5⟩
   ·have := h.gp i o1 o2 h1 c
    rw [o3, hn] at this
    cases this
   ·unfold cmB at h4
    split at h4
    ·rename_i hu
     rw [Bool.and_eq_true, decide_eq_true_eq, o3] at h4
     have km := (kc_in (h.key u h3).c h3).m hu
     have : u = c := h.one n u c (clI_iff.2 ⟨hu, by omega, by omega⟩) hn
     exact hf i (by rw [h1, this])
    ·rename_i hu
     simp only [Bool.and_eq_true, beq_iff_eq] at h4
     exact ih u (by omega) (opn_iff.2 ⟨h3, hu, by omega⟩)
 exact Decidable.byContradiction fun e => by
  obtain ⟨i, _, ho⟩ := h.op n e
  exact go (r i + 1) i (by omega) ho
theorem upd_same (f : Nat → Int) (k : Nat) : upd f k (f k) = f := funext fun j => by
 unfold upd
 split
 ·rename_i e; rw [e]
 ·rfl
theorem upd_upd (f : Nat → Int) (k : Nat) (x y : Int) : upd (upd f k x) k y = upd f k y := funext fun j => by
 unfold upd
 split <;> rfl
theorem set_same {l : List (Nat → Int)} {i : Nat} (h : i < l.length) : l.set i (l.getD i eS) = l := by
 rw [List.getD_eq_getElem?_getD, List.getElem?_eq_getElem h]
 exact List.set_getElem_self h
/-- Clay from which no key is made is as if it had never been used. -/
theorem Bt.reset {p : PW} {c : Nat} (h : Bt p) (hc : p.s c 0 = 1) (hf : ∀ i, p.s i 6 ≠ c) : Bt { p with slots := p.slots.set c (upd (p.s c) 3 0) } := by
 obtain ⟨r, ks⟩ := h.keys
 have hcn : p.s c 0 ≠ 0 := by omega
 have hcl := s_in hcn
 have kc := ks.key c hcn
 have ki := kc_in kc.c hcn
 have C0 : ∀ j, j ≠ 3 → upd (p.s c) 3 0 j = p.s c j := fun j hj => if_neg hj
 have C3 : upd (p.s c) 3 0 3 = 0 := if_pos rfl
 generalize hC : upd (p.s c) 3 0 = C at *
 have S : ∀ j, PW.s { p with slots := p.slots.set c C } j = if j = c then C else p.s j := fun j => getD_set hcl C eS j
 have O : ∀ j k, k ≠ 3 → PW.s { p with slots := p.slots.set c C } j k = p.s j k := fun j k hk => by
  rw [S]
  split
  ·rename_i e; rw [e]; exact C0 k hk
  ·rfl
 have cI : ∀ (n : Int) j, clI n (PW.s { p with slots := p.slots.set c C } j) = clI n (p.s j) := fun n j => by
  unfold clI
  rw [O _ _ (by decide), O _ _ (by decide), O _ _ (by decide)]
 have oI : ∀ (n : Int) j, opn n (PW.s { p with slots := p.slots.set c C } j) = opn n (p.s j) := fun n j => by
  unfold opn
  rw [O _ _ (by decide), O _ _ (by decide)]
 have e : (p.slots)[c]'hcl = p.s c := s_at hcl
 have hnf : nfl (p.slots.set c C) = nfl p.slots := by
  unfold nfl
  rw [List.countP_set hcl, e]
  have h1 : (p.s c 0 != 0) = true := by simpa using hcn
  have h2 : (C 0 != 0) = true := by rw [C0 0 (by decide)]; exact h1
  have h3 : 0 < p.slots.countP fun f => f 0 != 0 := List.countP_pos_iff.2 ⟨_, List.getElem_mem hcl, by rw [e]; exact h1⟩
  rw [if_pos h1, if_pos h2]
  omega
 refine h.keyed (by rw [List.length_set]) ⟨r, fun j hj => ?_, fun j hj => ?_, fun j hj => ?_, fun j => ?_, fun j hj => ?_, fun n i j hi hj => ?_, fun n hn => ?_, fun n hn i => ?_, fun i h1 h2 h3 c' => ?_⟩ ?_
 ·rw [O j 0 (by decide)] at hj
  have e2 : j ≠ c := fun e => hcn (e ▸ hj)
  rw [S, if_neg e2]
  exact ks.em j hj
 ·rw [O j 0 (by decide)] at hj
  exact ks.nd j hj
 ·rw [O j 0 (by decide)] at hj
  have k1 := ks.key j hj
  have k2 := kc_in k1.c hj
  refine ⟨kc_of ⟨by rw [O _ _ (by decide)]; exact k2.k, by rw [O _ _ (by decide)]; exact k2.b, by rw [O _ _ (by decide)]; exact k2.l, by rw [O _ _ (by decide), O _ _ (by decide)]; exact k2.bl, fun e1 => ?_, fun e1 => ?_, by rw [O _ _ (by decide)]; exact k2.r, by rw [O _ _ (by decide), O _ _ (by decide)]; exact k2.g⟩, by rw [O _ _ (by decide), O _ _ (by decide)]; exact k1.le, by rw [O _ _ (by decide), O _ _ (by decide)]; exact k1.is⟩
  ·rw [O j 0 (by decide)] at e1
   have := k2.m e1
   have := k2.l
   rw [O j 2 (by decide), S]
   split
   ·rw [C3]; omega
   ·assumption
  ·rw [O j 0 (by decide)] at e1
   rw [O j 2 (by decide), S, if_neg (fun e => by subst e; exact e1 hc)]
   exact k2.o e1
 ·rw [O j 6 (by decide)]
  rcases ks.up j with h1 | ⟨u, h1, h2, h3, h4, h5⟩
  ·exact .inl h1
  ·have hu : u ≠ c := fun e => hf j (by rw [h1, e])
   refine .inr ⟨u, h1, by rw [List.length_set]; exact h2, by rw [O u 0 (by decide)]; exact h3, ?_, h5⟩
   rw [show PW.s { p with slots := p.slots.set c C } u = p.s u by rw [S, if_neg hu]]
   by_cases e : j = c
   ·rw [e] at h1
    rw [ks.clay_root hc] at h1
    omega
   ·rw [show PW.s { p with slots := p.slots.set c C } j = p.s j by rw [S, if_neg e]]
    exact h4
 ·rw [O j 0 (by decide)] at hj
  show r j < nfl (p.slots.set c C)
  rw [hnf]; exact ks.rk j hj
 ·rw [cI] at hi hj
  exact ks.one n i j hi hj
 ·obtain ⟨i, h1, h2⟩ := ks.op n hn
  exact ⟨i, by rw [List.length_set]; exact h1, by rw [oI]; exact h2⟩
 ·unfold un
  rw [cI]
  cases hx : clI (n : Int) (p.s i) with
  | false => rfl
  | true =>
   by_cases e : i = c
   ·subst e
    exact absurd (ks.free hf hx) hn
   ·have h1 := ks.us n hn i
    unfold un at h1
    rw [hx] at h1
    rw [S, if_neg e]
    exact h1
 ·rw [cI, O i 1 (by decide)]
  rw [O i 0 (by decide)] at h1 h2
  rw [O i 6 (by decide)] at h3
  exact ks.gp i h1 h2 h3 c'
 ·rw [getD_set hcl]
  split
  ·rw [C0 0 (by decide)]; exact hcn
  ·exact h.root.2
theorem Bt.unused {p : PW} {c b : Nat} (h : Bt p) (hc : p.s c 0 = 1) (hb : (b : Int) = p.s c 1 + p.s c 3) (hm : p.s c 3 < p.s c 2) : b < p.kinds.length ∧ p.k b = 0 := by
 obtain ⟨r, ks⟩ := h.keys
 have hcn : p.s c 0 ≠ 0 := by omega
 have kc := ks.key c hcn
 have km := (kc_in kc.c hcn).m hc
 refine ⟨by have := kc.le; omega, Decidable.byContradiction fun e => ?_⟩
 have := ks.us b e c
 unfold un at this
 rw [clI_iff.2 ⟨hc, by omega, by omega⟩, Bool.true_and] at this
 exact of_decide_eq_false this (by omega)
/-- Many things. -/
theorem Bt.makes {p : PW} {c t B : Nat} {k u : Int} (h : Bt { p with slots := p.slots.set c (upd (p.s c) 3 u) }) (hc : p.s c 0 = 1) (hB : (B : Int) = p.s c 1 + u) (hk : 2 ≤ k ∧ k ≤ 8) (ht5 : p.k (t / 16) = 5) : ∀ m : Nat, u + m ≤ p.s c 2 → t % 16 + m ≤ 16 → t + m ≤ p.slots.length → (∀ j, j < m → p.s (t + j) 0 = 0) →
  Bt { mkI p c k B t m with slots := (mkI p c k B t m).slots.set c (upd (p.s c) 3 (u + m)) } ∧ (mkI p c k B t m).k (t / 16) = 5 := by
 have hcn : p.s c 0 ≠ 0 := by omega
 have hcl := s_in hcn
 intro m
 induction m with
 | zero => exact fun _ _ _ _ => ⟨by rw [show u + ((0 : Nat) : Int) = u by omega]; exact h, ht5⟩
 | succ m ih =>
  intro h1 h2 h3 h4
  obtain ⟨b0, k5⟩ := ih (by omega) (by omega) (by omega) (fun j hj => h4 j (by omega))
  have hl := (mkI_len p c k B t m).2.2
  have hcl2 : c < (mkI p c k B t m).slots.length := by rw [hl]; exact hcl
  have hct : c ≠ t + m := fun e => hcn (by rw [e]; exact h4 m (by omega))
  generalize hq : ({ mkI p c k B t m with slots := (mkI p c k B t m).slots.set c (upd (p.s c) 3 (u + m)) } : PW) = q at b0
  have qs : q.slots = (mkI p c k B t m).slots.set c (upd (p.s c) 3 (u + m)) := by rw [← hq]
  have qc : q.s c = upd (p.s c) 3 (u + m) := by show q.slots.getD c eS = _; rw [qs, getD_set hcl2, if_pos rfl]
  have q3 : q.s c 3 = u + m := by rw [qc]; exact if_pos rfl
  have qo : ∀ j, j ≠ 3 → q.s c j = p.s c j := fun j hj => by rw [qc]; exact if_neg hj
  have qt : q.s (t + m) 0 = 0 := by
   show (q.slots.getD (t + m) eS) 0 = 0
   rw [qs, getD_set hcl2, if_neg (fun e => hct e.symm), List.getD_eq_getElem?_getD, mkI_at p c k B t (t + m) m (by omega), ← List.getD_eq_getElem?_getD]
   exact h4 m (by omega)
  have qk : q.k ((t + m) / 16) = 5 := by
   rw [show (t + m) / 16 = t / 16 by omega]
   show q.kinds.getD _ 0 = 5
   rw [← hq]; exact k5
  have ql : t + m < q.slots.length := by rw [qs, List.length_set, hl]; omega
  have b1 := b0.make1 (c := c) (k := k) (b := B + m) (t := t + m) (by rw [qo 0 (by decide)]; exact hc) (by rw [qo 1 (by decide), q3]; omega) (by rw [q3, qo 2 (by decide)]; omega) hk ql qt qk
  have e : m1 q c k (B + m) (t + m) = { mkI p c k B t (m + 1) with slots := (mkI p c k B t (m + 1)).slots.set c (upd (p.s c) 3 (u + ((m + 1 : Nat) : Int))) } := by
   have es : (q.slots.set (t + m) (nsl k ((B + m : Nat) : Int) (c : Int))).set c (upd (q.s c) 3 (q.s c 3 + 1)) = ((mkI p c k B t m).slots.set (t + m) (nsl k ((B + m : Nat) : Int) (c : Int))).set c (upd (p.s c) 3 (u + ((m + 1 : Nat) : Int))) := by
    rw [q3, qc, upd_upd, qs, List.set_comm _ _ hct, List.set_set, show u + m + 1 = u + ((m + 1 : Nat) : Int) by omega]
   unfold m1
   rw [es, ← hq]; rfl
  have hun := b0.unused (c := c) (b := B + m) (by rw [qo 0 (by decide)]; exact hc) (by rw [qo 1 (by decide), q3]; omega) (by rw [q3, qo 2 (by decide)]; omega)
  rw [e] at b1
  refine ⟨b1, ?_⟩
  have hk0 : (mkI p c k B t m).k (B + m) = 0 := by
   have : q.kinds.getD (B + m) 0 = 0 := hun.2
   rw [← hq] at this; exact this
  have hbl : B + m < (mkI p c k B t m).kinds.length := by
   have : B + m < q.kinds.length := hun.1
   rw [← hq] at this; exact this
  show ((mkI p c k B t m).kinds.set (B + m) k).getD (t / 16) 0 = 5
  rw [getD_set hbl, if_neg (fun e => by rw [e] at k5; omega)]
  exact k5
theorem frm_no {p : PW} {n : Nat} (h : frm p n = false) : ∀ i, p.s i 6 ≠ n := fun i e => by
 unfold frm at h
 rw [List.any_eq_false] at h
 rcases Nat.lt_or_ge i p.slots.length with h1 | h1
 ·have := h _ (List.getElem_mem h1)
  rw [s_at h1] at this
  exact this (by simpa using e)
 ·rw [s_out h1] at e
  have : (-1 : Int) = n := e
  omega
/-- Things out of clay. -/
theorem Bt.make {p : PW} {n k m t : Int} (h : Bt p) (he : mkE p n k m t = 0) : Bt (mkP p n k m t) := by
 unfold mkE at he
 split at he
 case isFalse => cases he
 rename_i h1
 obtain ⟨t, rfl, ht⟩ := slotB_nat h1
 by_cases hcE : clE p n = 0
 case neg => rw [if_neg hcE] at he; exact absurd he hcE
 rw [if_pos hcE] at he
 split at he
 case isFalse => cases he
 rename_i hk
 have hk := of_decide_eq_true hk
 by_cases hfE : fcE p (t : Int).toNat m = 0
 case neg => rw [if_neg hfE] at he; exact absurd he hfE
 rw [if_pos hfE] at he
 split at he
 case isTrue => cases he
 rename_i hroom
 unfold clE at hcE
 by_cases ha : hasE p n = 0
 case neg => rw [if_neg ha] at hcE; exact absurd hcE ha
 rw [if_pos ha] at hcE
 obtain ⟨c, rfl, hcl, hc0⟩ := has_s ha
 rw [Int.toNat_natCast, nk_eS hcl] at hcE
 split at hcE
 case isFalse => cases hcE
 rename_i hc
 rw [Int.toNat_natCast] at hfE
 unfold fcE at hfE
 split at hfE
 case isFalse => cases hfE
 rename_i h5
 split at hfE
 case isFalse => cases hfE
 rename_i hw
 have hw := of_decide_eq_true hw
 split at hfE
 case isTrue => cases hfE
 rename_i hus
 obtain ⟨m, rfl⟩ : ∃ m' : Nat, m = m' := ⟨m.toNat, by omega⟩
 rw [Int.toNat_natCast] at hus
 have hsl := h.lf.slots
 have h5l := k_in (p := p) (f := t / 16) (by show p.kinds.getD (t / 16) 0 ≠ 0; omega)
 have hem : ∀ j, j < m → p.s (t + j) 0 = 0 := fun j hj => Decidable.byContradiction fun e => hus (by
  unfold usd
  have hl : t + j < p.slots.length := s_in e
  refine List.any_eq_true.2 ⟨p.s (t + j), ?_, by simpa using e⟩
  rw [← s_at hl]
  refine List.mem_iff_getElem?.2 ⟨j, ?_⟩
  rw [List.getElem?_take, if_pos hj, List.getElem?_drop, List.getElem?_eq_getElem hl])
 have hkey := (h.keys.choose_spec).key c hc0
 have km := (kc_in hkey.c hc0).m hc
 have kb := (kc_in hkey.c hc0).b
 rw [Int.toNat_natCast, nk_eS hcl] at hroom
 have hu : 0 ≤ usV p c ∧ Bt { p with slots := p.slots.set c (upd (p.s c) 3 (usV p c)) } := by
  unfold usV
  rw [Int.toNat_natCast, nk_eS hcl]
  cases hf : frm p c with
  | true =>
   rw [if_pos rfl, upd_same, set_same hcl]
   exact ⟨km.1, h⟩
  | false =>
   rw [if_neg (by decide)]
   exact ⟨Int.le_refl _, h.reset hc (frm_no hf)⟩
 have hB : mkB p c = (p.s c 1 + usV p c).toNat := by unfold mkB; rw [Int.toNat_natCast, nk_eS hcl]
 unfold mkP
 rw [Int.toNat_natCast, Int.toNat_natCast, Int.toNat_natCast, nk_eS hcl]
 exact (Bt.makes hu.2 hc (B := mkB p c) (by rw [hB]; omega) hk h5 m (by omega) (by omega) (by omega) hem).1
/-- A new world, with its node. -/
theorem bt_new {f c : Nat} {zs : List Int} (hf : 1 ≤ f ∧ f ≤ 24) (hc : 1 ≤ c ∧ c ≤ 4) (hz : 1 ≤ zs.length ∧ zs.length ≤ 8) (hd : ∀ d ∈ zs, 0 ≤ d ∧ d ≤ 3) : Bt (wlP f c zs) := by
 have hs0 : 0 < (List.replicate (f * 16) sl).length := by rw [List.length_replicate]; omega
 have hk0 : 0 < (List.replicate f (0 : Int)).length := by rw [List.length_replicate]; omega
 have rep : ∀ {α : Type} (n i : Nat) (x : α), (List.replicate n x).getD i x = x := fun n i x => by
  rw [List.getD_eq_getElem?_getD, List.getElem?_replicate]
  split <;> rfl
 have S : ∀ j, (wlP f c zs).s j = if j = 0 then ndk else eS := fun j => by
  show ((List.replicate (f * 16) sl).set 0 ndk).getD j eS = _
  rw [getD_set hs0]
  split
  ·rfl
  ·exact rep (f * 16) j sl
 have K : ∀ n, (wlP f c zs).k n = if n = 0 then 5 else 0 := fun n => by
  show ((List.replicate f (0 : Int)).set 0 5).getD n 0 = _
  rw [getD_set hk0]
  split
  ·rfl
  ·exact rep f n 0
 have nc : ∀ (n : Int) j, clI n ((wlP f c zs).s j) = false := fun n j => by
  rw [S]
  split <;> rfl
 have n0 : ∀ j, (wlP f c zs).s j 0 ≠ 0 → j = 0 := fun j hj => Decidable.byContradiction fun e => hj (by rw [S, if_neg e]; rfl)
 have s6 : ∀ j, (wlP f c zs).s j 6 = -1 := fun j => by
  rw [S]
  split <;> rfl
 have T : ∀ n, (wlP f c zs).t n = bl := fun n => rep f n bl
 have hl : (wlP f c zs).kinds.length = f := by show ((List.replicate f (0 : Int)).set 0 5).length = f; rw [List.length_set, List.length_replicate]
 have hsl : (wlP f c zs).slots.length = f * 16 := by show ((List.replicate (f * 16) sl).set 0 ndk).length = f * 16; rw [List.length_set, List.length_replicate]
 have len : ∀ {α : Type} (n : Nat) (x : α), (List.replicate n x).length = n := fun n x => List.length_replicate
 refine ⟨⟨by omega, by omega, by show 1 ≤ (List.replicate c _).length; rw [len]; omega, by show (List.replicate c _).length ≤ 4; rw [len]; omega, hz.1, hz.2, by rw [hl]; exact len _ _, by rw [hsl, hl], by rw [hl]; exact len _ _, by rw [hl]; exact len _ _, by rw [hl]; exact len _ _, by show (List.replicate (c * 4) _).length = (List.replicate c _).length * 4; rw [len, len], by show (List.replicate c _).length = (List.replicate c _).length; rw [len, len]⟩, rfl, fun x hx => ?_, hd, ⟨fun _ => 0, fun j hj => ?_, fun j hj => ?_, fun j hj => ?_, fun j => .inl (s6 j), fun j hj => ?_, fun n i j hi => ?_, fun n hn => ?_, fun n hn i => un_cl (nc n i), fun i _ _ _ c' => nc _ c'⟩, ⟨fun x hx => ?_, fun i hi => ?_⟩, ⟨fun n hn k hk => by rw [T], fun n hn => ?_, fun l hl => List.eq_of_mem_replicate hl, fun l hl => List.eq_of_mem_replicate hl, fun l hl => List.eq_of_mem_replicate hl, fun l hl => List.eq_of_mem_replicate hl, fun i z hz => ?_, fun n hn => ?_⟩, by rw [K]; rfl, by rw [S]; decide⟩
 ·rcases List.mem_or_eq_of_mem_set (show x ∈ (List.replicate f (0 : Int)).set 0 5 from hx) with h | h
  ·rw [List.eq_of_mem_replicate h]; decide
  ·rw [h]; decide
 ·rw [S] at hj ⊢
  by_cases e : j = 0
  ·rw [if_pos e] at hj
   exact absurd hj (by decide)
  ·rw [if_neg e]
   refine ⟨fun k hk => ?_, rfl⟩
   show (if k = 6 then (-1 : Int) else 0) = 0
   rw [if_neg (by omega)]
 ·rw [n0 j hj, K]; rfl
 ·rw [n0 j hj, S, if_pos rfl]
  refine ⟨by decide, by rw [hl]; show (0 : Int) + 1 ≤ f; omega, .inr ?_⟩
  show isB _ ((0 : Nat) : Int) 5 = true
  rw [isB_k (by rw [hl]; omega), K]; rfl
 ·show 0 < nfl ((List.replicate (f * 16) sl).set 0 ndk)
  rw [nfl_set hs0 (by rw [show (List.replicate (f * 16) sl).getD 0 eS = sl from rep _ _ _]; rfl) (by decide)]
  omega
 ·rw [nc] at hi; cases hi
 ·rw [K] at hn
  have e : n = 0 := Decidable.byContradiction fun e => hn (if_neg e)
  exact ⟨0, by rw [hsl]; omega, by rw [S, e]; decide⟩
 ·rw [List.eq_of_mem_replicate (show x ∈ List.replicate (f * 16) (0 : Int) from hx)]; decide
 ·rw [show (wlP f c zs).ram.getD i 0 = 0 from rep (f * 16) i 0]
  exact beB_zero _ _
 ·rw [K] at hn
  split at hn <;> cases hn
 ·rw [show (wlP f c zs).ready.getD i [] = [] from rep (c * 4) i []] at hz
  cases hz
 ·rw [K] at hn
  split at hn <;> cases hn
end Go.Proofs.YtkocmkaeaagbaaaGreatDoor.Wd
