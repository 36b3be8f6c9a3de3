/- 'keyholdlaw.TreeRevokes' answers true for every world and every number: revoking a key, and telling what was made from it, do what G2 and G4 say. Condition: errors.errorType starts as the program's text lays it (the card ties it). (RvP RvQ RvR RvL, joined with the proof.) -/
import Derived.Test.YtoebmjgkfkfhjaaGreatDoorTdThree
import Derived.Test.YtoebmjgkfkfhjaaGreatDoorGOpenW
import Derived.Test.YtoebmjgkfkfhjaaGreatDoorHandle
import Derived.Test.YtoebmjgkfkfhjaaGreatDoorOpenInts
import Derived.Test.YtoebmjgkfkfhjaaGreatDoorCards
import Derived.Test.YtoebmjgkfkfhjaaGreatDoorTie
import Derived.SevenTiedAt
import Derived.Lay
import Derived.OpenShut
import Derived.ChangeOld
import Derived.Below
namespace Go.Proofs.YtoebmjgkfkfhjaaGreatDoor.Wd
open Go.RowKit Go.Proofs.YtoebmjgkfkfhjaaGreatDoor.Mem Go.Proofs.YtoebmjgkfkfhjaaGreatDoor.Bw Go.Proofs.YtoebmjgkfkfhjaaGreatDoor.Nums Go.Proofs.YtoebmjgkfkfhjaaGreatDoor.Mmu
/-- From which slot the key of one was made. -/
def fro (S : List (Nat → Int)) (a : Int) : Int := if 0 ≤ a then (S.getD a.toNat eS) 6 else -1
def itf (S : List (Nat → Int)) : Nat → Int → Int
 | 0, a => a
 | n + 1, a => itf S n (fro S a)
/-- The way up from here comes by a slot. -/
def UnS (S : List (Nat → Int)) (t : Nat) (a : Int) : Prop := ∃ n, itf S n a = t
theorem itf_no (S : List (Nat → Int)) : ∀ n, itf S n (-1) = -1
 | 0 => rfl
 | n + 1 => itf_no S n
theorem uns_no {S : List (Nat → Int)} {t : Nat} : ¬ UnS S t (-1) := fun ⟨n, h⟩ => by
 rw [itf_no] at h
 omega
theorem uns_self {S : List (Nat → Int)} {t : Nat} : UnS S t t := ⟨0, rfl⟩
theorem uns_step {S : List (Nat → Int)} {t : Nat} {a : Int} (h : a ≠ t) : UnS S t a ↔ UnS S t (fro S a) :=
 ⟨fun ⟨n, e⟩ => by
  cases n with
  | zero => exact absurd e h
  | succ n => exact ⟨n, e⟩, fun ⟨n, e⟩ => ⟨n + 1, e⟩⟩
/-- The ways up end: each slot stands higher than the one from which its key was made. -/
structure Up (r : Nat → Nat) (S : List (Nat → Int)) : Prop where
 em : ∀ i, (S.getD i eS) 0 = 0 → (S.getD i eS) 6 = -1
 fr : ∀ i, (S.getD i eS) 6 = -1 ∨ ∃ u : Nat, (S.getD i eS) 6 = u ∧ u < S.length ∧ r u < r i
 bd : ∀ i, r i ≤ S.length + 1
theorem und_full {r : Nat → Nat} {S : List (Nat → Int)} (h : Up r S) {t i : Nat} (hu : UnS S t (fro S i)) : (S.getD i eS) 0 ≠ 0 := fun e => by
 have h1 : fro S i = -1 := by
  unfold fro
  rw [if_pos (by omega), Int.toNat_natCast]
  exact h.em i e
 rw [h1] at hu
 exact uns_no hu
def rkU (p : PW) : Nat → Int → Nat
 | 0, _ => 0
 | n + 1, a => if slotB p a then 1 + rkU p n ((p.slots.getD a.toNat eS) 6) else 0
theorem rk_le (p : PW) : ∀ (n : Nat) (a : Int), rkU p n a ≤ n
 | 0, _ => Nat.le_refl _
 | n + 1, a => by
  rw [rkU]
  split
  ·have := rk_le p n ((p.slots.getD a.toNat eS) 6)
   omega
  ·omega
theorem rk_stay {p : PW} : ∀ (n : Nat) (a : Int), slotB p (up p n a) = false → ∀ m, n ≤ m → rkU p m a = rkU p n a
 | 0, a, h, m, _ => by
  have h2 : slotB p a = false := h
  cases m with
  | zero => rfl
  | succ m =>
   show (if slotB p a then 1 + rkU p m ((p.slots.getD a.toNat eS) 6) else 0) = 0
   rw [h2]
   rfl
 | n + 1, a, h, m, hm => by
  cases m with
  | zero => omega
  | succ m =>
   rw [rkU, rkU]
   cases hs : slotB p a with
   | false => rfl
   | true =>
    obtain ⟨j, rfl, hj⟩ := slotB_in hs
    rw [up_yes hj] at h
    rw [Int.toNat_natCast, slot_get hj, rk_stay n (p.slots[j] 6) h m (by omega)]
theorem getD_out {S : List (Nat → Int)} {i : Nat} (h : ¬ i < S.length) : S.getD i eS = eS := by
 rw [List.getD_eq_getElem?_getD, List.getElem?_eq_none (by omega)]
 rfl
theorem snd_up {p : PW} (h : Snd p) : ∃ r, Up r p.slots := by
 refine ⟨fun i => rkU p (p.slots.length + 1) i, fun i h0 => ?_, fun i => ?_, fun i => rk_le p _ _⟩
 all_goals
  by_cases hi : i < p.slots.length
  rotate_left
  ·rw [getD_out hi]; first | rfl | exact .inl rfl
  have b : bsB p (p.kinds.getD (i / 16) 0) p.slots[i] = false := h.b3 i hi
  unfold bsB at b
 ·rw [slot_get hi] at h0 ⊢
  cases hz : zkB p.slots[i] with
  | true => rw [hz, if_pos rfl] at b; simpa using b
  | false =>
   rw [hz, if_neg (by decide)] at b
   simp only [Bool.not_eq_false', Bool.and_eq_true] at b
   have hc := b.1.1.2
   unfold opB at hc
   simp only [Bool.and_eq_true, beq_iff_eq] at hc
   have hk := hc.1.1
   unfold kc at hk
   rw [h0] at hk
   have : zkB p.slots[i] = true := decide_eq_true ⟨h0, Classical.byContradiction fun hn => by rw [KP.chk_3 hn] at hk; cases hk⟩
   rw [hz] at this
   cases this
 ·rw [slot_get hi]
  cases hz : zkB p.slots[i] with
  | true => rw [hz, if_pos rfl] at b; exact .inl (by simpa using b)
  | false =>
   rw [hz, if_neg (by decide)] at b
   simp only [Bool.not_eq_false', Bool.and_eq_true, Bool.not_eq_true'] at b
   obtain ⟨⟨-, hm⟩, he⟩ := b
   unfold mdB at hm
   rw [Bool.or_eq_true] at hm
   rcases hm with hm | hm
   ·exact .inl (eq_of_beq hm)
   ·rw [Bool.and_eq_true] at hm
    obtain ⟨u, hu, hl⟩ := slotB_in hm.1
    refine .inr ⟨u, hu, hl, ?_⟩
    rw [hu] at he
    show rkU p (p.slots.length + 1) u < rkU p (p.slots.length + 1) i
    rw [rk_stay p.slots.length u he (p.slots.length + 1) (by omega), rkU, show slotB p (i : Int) = true from decide_eq_true (by omega), if_pos rfl, Int.toNat_natCast, slot_get hi, hu]
    omega
/-- Slots that are as they were, or empty. -/
def Sl (a b : List (Nat → Int)) : Prop := a.length = b.length ∧ ∀ i, (a.getD i eS) 0 = (b.getD i eS) 0 ∨ (a.getD i eS) 0 = 0
theorem Sl.refl (a : List (Nat → Int)) : Sl a a := ⟨rfl, fun _ => .inl rfl⟩
theorem Sl.trans {a b c : List (Nat → Int)} (h : Sl a b) (k : Sl b c) : Sl a c := ⟨h.1.trans k.1, fun i => by
 rcases h.2 i with e | e
 ·rw [e]; exact k.2 i
 ·exact .inr e⟩
theorem hnd1_eS (s : Nat) (x : Int) : hnd1 s x eS = eS := if_neg (show ¬ (-1 : Int) = s by omega)
theorem dA_get (p : PW) (s i : Nat) : (drA p s).slots.getD i eS = if i = s then eS else hnd1 s ((p.slots.getD s eS) 6) (p.slots.getD i eS) := by
 show (List.map (hnd1 s ((p.slots.getD s eS) 6)) (p.slots.set s eS)).getD i eS = _
 rw [List.getD_eq_getElem?_getD, List.getElem?_map, List.getElem?_set]
 by_cases e : i = s
 ·subst e
  rw [if_pos rfl, if_pos rfl]
  split
  ·exact hnd1_eS i _
  ·rfl
 ·rw [if_neg e, if_neg (fun h => e h.symm), List.getD_eq_getElem?_getD (l := p.slots) (i := i)]
  cases p.slots[i]? with
  | none => exact (hnd1_eS s _).symm
  | some f => rfl
theorem dA_up {r : Nat → Nat} {p : PW} {s : Nat} (h : Up r p.slots) : Up r (drA p s).slots := by
 have hl : (drA p s).slots.length = p.slots.length := by show (List.map _ _).length = _; rw [List.length_map, List.length_set]
 refine ⟨fun i => ?_, fun i => ?_, by rw [hl]; exact h.bd⟩ <;> rw [dA_get]
 ·split
  ·exact fun _ => rfl
  ·unfold hnd1
   split
   ·rename_i e
    intro h0
    have h1 := h.em i h0
    rw [e] at h1
    omega
   ·exact h.em i
 ·rw [hl]
  split
  ·exact .inl rfl
  ·unfold hnd1
   split
   ·rename_i e
    show (p.slots.getD s eS) 6 = -1 ∨ ∃ u : Nat, (p.slots.getD s eS) 6 = u ∧ u < p.slots.length ∧ r u < r i
    rcases h.fr i with h1 | ⟨u, h1, h2, h3⟩
    ·rw [e] at h1; omega
    ·have hu : u = s := by rw [e] at h1; omega
     subst hu
     rcases h.fr u with h4 | ⟨v, h4, h5, h6⟩
     ·exact .inl h4
     ·exact .inr ⟨v, h4, h5, by omega⟩
   ·exact h.fr i
theorem dA_sl (p : PW) (s : Nat) : Sl (drA p s).slots p.slots := by
 refine ⟨by show (List.map _ _).length = _; rw [List.length_map, List.length_set], fun i => ?_⟩
 rw [dA_get]
 split
 ·exact .inr rfl
 ·unfold hnd1
  split
  ·exact .inl rfl
  ·exact .inl rfl
theorem et_slots (p : PW) (t : Nat) : (etP p t).slots = p.slots := by
 unfold etP
 split <;> rfl
theorem ds_slots (p : PW) (f : Nat) : (dsP p f).slots = p.slots := by
 show ((p.lines.getD f []).foldl ds1 p).slots = p.slots
 rw [ds_rest (p.lines.getD f []) p]
theorem da_up {r : Nat → Nat} {dr : PW → Nat → PW} (hd : ∀ p s, Up r p.slots → Up r (dr p s).slots ∧ Sl (dr p s).slots p.slots) {f : Nat} : ∀ (a : Nat) (p : PW), Up r p.slots → Up r (daF dr f a p).slots ∧ Sl (daF dr f a p).slots p.slots
 | 0, p, h => by rw [da_zero]; exact ⟨h, Sl.refl _⟩
 | a + 1, p, h => by
  rw [da_succ]
  split
  ·exact da_up hd a p h
  ·obtain ⟨h1, h2⟩ := hd p (f * 16 + a) h
   obtain ⟨h3, h4⟩ := da_up hd (f := f) a _ h1
   exact ⟨h3, h4.trans h2⟩
theorem dr_up {r : Nat → Nat} : ∀ (m : Nat) (p : PW) (s : Nat), Up r p.slots → Up r (drF m p s).slots ∧ Sl (drF m p s).slots p.slots
 | 0, p, s, h => ⟨h, Sl.refl _⟩
 | m + 1, p, s, h => by
  have h1 := dA_up (s := s) h
  have h2 := dA_sl p s
  unfold drF
  split
  ·exact ⟨h1, h2⟩
  generalize (p.slots.getD s eS) 0 = k
  generalize ((p.slots.getD s eS) 1).toNat = f
  generalize drA p s = q at h1 h2 ⊢
  suffices hx : Up r (lsF (drF m) q k f).slots ∧ Sl (lsF (drF m) q k f).slots q.slots from ⟨hx.1, hx.2.trans h2⟩
  unfold lsF
  split
  ·exact ⟨h1, Sl.refl _⟩
  split
  ·exact ⟨h1, Sl.refl _⟩
  split
  ·exact da_up (dr_up m) 16 (fgP 11 (nkP q f) f) h1
  split
  ·rw [et_slots]; exact ⟨h1, Sl.refl _⟩
  ·show Up r (dsP (nkP q f) f).slots ∧ Sl (dsP (nkP q f) f).slots q.slots
   rw [ds_slots]; exact ⟨h1, Sl.refl _⟩
theorem ls_sl {m : Nat} {r : Nat → Nat} {q : PW} (h1 : Up r q.slots) (k : Int) (f : Nat) : Sl (lsF (drF m) q k f).slots q.slots := by
 unfold lsF
 split
 ·exact Sl.refl _
 split
 ·exact Sl.refl _
 split
 ·exact (da_up (dr_up m) 16 (fgP 11 (nkP q f) f) h1).2
 split
 ·rw [et_slots]; exact Sl.refl _
 ·show Sl (dsP (nkP q f) f).slots q.slots
  rw [ds_slots]; exact Sl.refl _
theorem dr_gone {r : Nat → Nat} {m : Nat} {p : PW} {s : Nat} (h : Up r p.slots) : ((drF (m + 1) p s).slots.getD s eS) 0 = 0 := by
 have h0 : ((drA p s).slots.getD s eS) 0 = 0 := by rw [dA_get, if_pos rfl]; rfl
 unfold drF
 split
 ·exact h0
 ·rcases (ls_sl (m := m) (dA_up (s := s) h) ((p.slots.getD s eS) 0) ((p.slots.getD s eS) 1).toNat).2 s with e | e
  ·rw [e]; exact h0
  ·exact e
/-- How many slots have something. -/
def neS (S : List (Nat → Int)) : Nat := (List.range S.length).countP fun i => (S.getD i eS) 0 != 0
theorem cnt_lt {α : Type} (P Q : α → Bool) : ∀ l : List α, (∀ x ∈ l, P x = true → Q x = true) → l.countP P ≤ l.countP Q ∧ ∀ y ∈ l, P y = false → Q y = true → l.countP P < l.countP Q
 | [], _ => ⟨Nat.le_refl _, fun _ h => by cases h⟩
 | x :: l, h => by
  obtain ⟨h1, h2⟩ := cnt_lt P Q l (fun y hy => h y (List.mem_cons_of_mem _ hy))
  have h3 := h x (List.mem_cons_self ..)
  rw [List.countP_cons, List.countP_cons]
  refine ⟨?_, fun y hy a b => ?_⟩
  ·cases e : P x with
   | false => simp only [Bool.false_eq_true, if_false]; split <;> omega
   | true => rw [h3 e]; simp only [if_true]; omega
  ·rcases List.mem_cons.1 hy with rfl | hy
   ·rw [a, b]; simp only [Bool.false_eq_true, if_false, if_true]; omega
   ·have := h2 y hy a b
    cases e : P x with
    | false => simp only [Bool.false_eq_true, if_false]; split <;> omega
    | true => rw [h3 e]; simp only [if_true]; omega
theorem ne_lt {a b : List (Nat → Int)} (h : Sl a b) {s : Nat} (ha : (a.getD s eS) 0 = 0) (hb : (b.getD s eS) 0 ≠ 0) : neS a < neS b := by
 unfold neS
 rw [h.1]
 refine (cnt_lt _ _ (List.range b.length) fun i _ hi => ?_).2 s (List.mem_range.2 ?_) (by rw [ha]; rfl) (bne_iff_ne.2 hb)
 ·rcases h.2 i with e | e
  ·rw [← e]; exact hi
  ·rw [e] at hi; cases hi
 ·by_cases hs : s < b.length
  ·exact hs
  ·rw [getD_out hs] at hb; exact absurd rfl hb
theorem itf_end {r : Nat → Nat} {S : List (Nat → Int)} (h : Up r S) : ∀ (n : Nat) (u : Nat), r u < n → itf S n u = -1
 | 0, _, hr => absurd hr (Nat.not_lt_zero _)
 | n + 1, u, hr => by
  show itf S n (fro S u) = -1
  have e : fro S u = (S.getD u eS) 6 := by unfold fro; rw [if_pos (by omega), Int.toNat_natCast]
  rw [e]
  rcases h.fr u with h1 | ⟨v, h1, -, h2⟩
  ·rw [h1]; exact itf_no S n
  ·rw [h1]; exact itf_end h n v (by omega)
/-- Was a slot's key made from one's, by whatever way? -/
def unB (S : List (Nat → Int)) (t i : Nat) : Bool := (List.range (S.length + 3)).any fun n => itf S n (fro S i) == (t : Int)
theorem unB_iff {r : Nat → Nat} {S : List (Nat → Int)} (h : Up r S) (t i : Nat) : unB S t i = true ↔ UnS S t (fro S i) := by
 unfold unB
 rw [List.any_eq_true]
 refine ⟨fun ⟨n, _, e⟩ => ⟨n, eq_of_beq e⟩, fun ⟨n, e⟩ => ⟨n, List.mem_range.2 ?_, beq_iff_eq.2 e⟩⟩
 refine Nat.lt_of_not_le fun hn => ?_
 have h1 := h.bd i
 have h2 : itf S n (fro S i) = -1 := itf_end h (n + 1) i (by omega)
 rw [h2] at e
 omega
def luF (S : List (Nat → Int)) (t : Nat) : Nat → Int
 | 0 => -1
 | n + 1 => if unB S t n = true then n else luF S t n
def mdL (S : List (Nat → Int)) (t n : Nat) : List Int := ((List.range n).filter (unB S t)).map fun i : Nat => (i : Int)
theorem mdL_succ (S : List (Nat → Int)) (t n : Nat) : mdL S t (n + 1) = mdL S t n ++ if unB S t n = true then [(n : Int)] else [] := by
 unfold mdL
 rw [List.range_succ, List.filter_append, List.map_append, List.filter_cons]
 split <;> rfl
theorem md_last (S : List (Nat → Int)) (t : Nat) : ∀ n, (mdL S t n = [] ∧ luF S t n = -1) ∨ ∃ (L : List Int) (j : Nat), mdL S t n = L ++ [(j : Int)] ∧ luF S t n = j ∧ j < n ∧ unB S t j = true
 | 0 => .inl ⟨rfl, rfl⟩
 | n + 1 => by
  rw [mdL_succ, luF]
  cases e : unB S t n with
  | true => exact .inr ⟨mdL S t n, n, by rw [if_pos rfl], by rw [if_pos rfl], by omega, e⟩
  | false =>
   rw [if_neg (by decide), if_neg (by decide), List.append_nil]
   rcases md_last S t n with h | ⟨L, j, h1, h2, h3, h4⟩
   ·exact .inl h
   ·exact .inr ⟨L, j, h1, h2, by omega, h4⟩
/-- Keys are taken back, one by one (so many at most). -/
def rvN (dr : PW → Nat → PW) (t : Nat) : Nat → PW → PW
 | 0, p => p
 | n + 1, p => if luF p.slots t p.slots.length = -1 then p else rvN dr t n (dr p (luF p.slots t p.slots.length).toNat)
theorem rv_stop {dr : PW → Nat → PW} {t : Nat} {p : PW} (h : luF p.slots t p.slots.length = -1) : ∀ n, rvN dr t n p = p
 | 0 => rfl
 | n + 1 => by rw [rvN, if_pos h]
theorem rv_go {dr : PW → Nat → PW} {t n j : Nat} {p : PW} (h : luF p.slots t p.slots.length = j) : rvN dr t (n + 1) p = rvN dr t n (dr p j) := by
 rw [rvN, if_neg (by omega), h, Int.toNat_natCast]
theorem lu_in {r : Nat → Nat} {S : List (Nat → Int)} (hu : Up r S) {t n j : Nat} (h : luF S t n = j) : j < n ∧ (S.getD j eS) 0 ≠ 0 := by
 rcases md_last S t n with ⟨-, e⟩ | ⟨-, i, -, e, h3, h4⟩
 ·omega
 ·have : i = j := by omega
  subst this
  exact ⟨h3, und_full hu ((unB_iff hu t i).1 h4)⟩
theorem rv_next {r : Nat → Nat} {m t n j : Nat} {q P : PW} (hu : Up r q.slots) (hj : luF q.slots t q.slots.length = j) (hn : neS q.slots ≤ n) (hP : rvN (drF (m + 1)) t n q = P) :
  neS (drF (m + 1) q j).slots < neS q.slots ∧ ∃ k, neS (drF (m + 1) q j).slots ≤ k ∧ rvN (drF (m + 1)) t k (drF (m + 1) q j) = P := by
 have h1 := ne_lt (dr_up (m + 1) q j hu).2 (dr_gone hu) (lu_in hu hj).2
 cases n with
 | zero => omega
 | succ n => exact ⟨h1, n, by omega, by rw [← hP, rv_go hj]⟩
theorem rv_T {dr : PW → Nat → PW} (hd : ∀ p s X, dr (setT p X) s = setT (dr p s) X) {t : Nat} : ∀ (n : Nat) (p : PW) (X : List (List Ent)), rvN dr t n (setT p X) = setT (rvN dr t n p) X
 | 0, _, _ => rfl
 | n + 1, p, X => by
  have e : luF (setT p X).slots t (setT p X).slots.length = luF p.slots t p.slots.length := rfl
  rw [rvN, rvN, e]
  split
  ·rfl
  ·rw [hd, rv_T hd n]
theorem rv_inv {r : Nat → Nat} {m t : Nat} : ∀ (n : Nat) (p : PW), nds p < m → Inv p → Up r p.slots → Inv (rvN (drF m) t n p) ∧ (rvN (drF m) t n p).tlbs = p.tlbs
 | 0, p, _, h, _ => ⟨h, rfl⟩
 | n + 1, p, hn, h, hu => by
  rcases md_last p.slots t p.slots.length with ⟨-, e⟩ | ⟨-, j, -, e, -, -⟩
  ·rw [rv_stop e]; exact ⟨h, rfl⟩
  ·obtain ⟨hj, h0⟩ := lu_in hu e
   obtain ⟨i1, i2, -⟩ := dr_inv m p j hn h hj h0
   obtain ⟨a, b⟩ := rv_inv (m := m) (t := t) n (drF m p j) (by omega) i1 (dr_up m p j hu).1
   rw [rv_go e]
   exact ⟨a, b.trans (dr_tlbs m p j)⟩
theorem rr_slots {m : Nat} {p : PW} {s : Nat} (hn : nds p < m) (hi : Inv p) (ht : TL p) (hs : s < p.slots.length) (h0 : (p.slots.getD s eS) 0 ≠ 0) : (drR m p s).slots = (drF m p s).slots := by
 obtain ⟨g, e, -⟩ := rec_any m p s hn hi ht hs h0
 rw [e]
 rfl
theorem rv_G {r : Nat → Nat} {m t : Nat} : ∀ (n : Nat) (p : PW), nds p < m → Inv p → TL p → Up r p.slots → ∃ g, Gd p (rvN (drF m) t n p) (rvN (drR m) t n p) g
 | 0, p, _, _, _, _ => ⟨_, Gd.same rfl rfl rfl⟩
 | n + 1, p, hn, hi, ht, hu => by
  rcases md_last p.slots t p.slots.length with ⟨-, e⟩ | ⟨-, j, -, e, -, -⟩
  ·rw [rv_stop e, rv_stop e]; exact ⟨_, Gd.same rfl rfl rfl⟩
  obtain ⟨hj, h0⟩ := lu_in hu e
  rw [rv_go e, rv_go e]
  have hs := rr_slots hn hi ht hj h0
  obtain ⟨g1, r1, l1, a1, b1⟩ := rec_any m p j hn hi ht hj h0
  obtain ⟨i1, i2, -⟩ := (rr_inv m).1 p j hn hi hj h0
  obtain ⟨g2, r2, l2, a2, b2⟩ := rv_G (m := m) (t := t) n (drR m p j) (by omega) i1 ((rr_inv m).2 p j hn hi hj h0 ht) (by rw [hs]; exact (dr_up m p j hu).1)
  rw [r1] at r2 l2 a2 b2 ⊢
  rw [rv_T (dr_T m)] at r2 l2 a2 b2
  refine ⟨fun e => g2 e && g1 e, ?_, ?_, fun e h => ?_, fun e h h2 => ?_⟩
  ·rw [r2, ← filt_two]; rfl
  ·exact Lo.trans (q := drF m p j) ⟨l2.kinds, l2.len, l2.ram⟩ l1
  ·rw [Bool.and_eq_true]
   exact ⟨a2 e h, a1 e (l2.told h)⟩
  ·rw [Bool.and_eq_true] at h2
   exact b2 e (b1 e h h2.2) h2.1
theorem rv_tl {r : Nat → Nat} {m t n : Nat} {p : PW} (hn : nds p < m) (hi : Inv p) (ht : TL p) (hu : Up r p.slots) : TL (rvN (drF m) t n p) := by
 obtain ⟨g, -, lo, -, -⟩ := rv_G (t := t) n p hn hi ht hu
 have e0 := (rv_inv (t := t) n p hn hi hu).2
 refine ⟨by rw [e0]; exact ht.len, by rw [e0]; exact ht.page, fun z hz => ?_⟩
 obtain ⟨i, hi2⟩ := List.mem_iff_getElem?.1 hz
 have e : (rvN (drF m) t n p).ram.getD i 0 = z := by rw [List.getD_eq_getElem?_getD, hi2]; rfl
 rcases lo.ram i with h1 | h1
 ·rw [e] at h1
  rw [h1]
  cases e2 : p.ram[i]? with
  | none => rw [List.getD_eq_getElem?_getD, e2]; exact ⟨by decide, by decide⟩
  | some y => rw [List.getD_eq_getElem?_getD, e2]; exact ht.word y (List.mem_iff_getElem?.2 ⟨i, e2⟩)
 ·rw [e] at h1
  rw [h1]
  exact ⟨by decide, by decide⟩
/-- To forget at the end, and at each thing that goes, is the same. -/
theorem rv_eq {r : Nat → Nat} {p : PW} (hp : p.Fits) (h : Snd p) {m t n : Nat} (hn : nds p < m) (hu : Up r p.slots) : rvN (drR m) t n p = fgt (rvN (drF m) t n p) := by
 obtain ⟨g, e, lo, a, b⟩ := rv_G (t := t) n p hn (snd_inv hp h) (snd_tl h) hu
 rw [e]
 unfold fgt setT
 rw [(rv_inv (t := t) n p hn (snd_inv hp h) hu).2]
 have e : p.tlbs.map (List.filter g) = p.tlbs.map (goneP fun e => !toldB (rvN (drF m) t n p) e) := List.map_congr_left fun l hl => by
  unfold goneP
  refine List.filter_congr fun e he => ?_
  have h1 := (snd_told h hl).2 e he
  rw [Bool.not_not]
  cases e1 : toldB (rvN (drF m) t n p) e with
  | true => exact a e e1
  | false =>
   cases e2 : g e with
   | false => rfl
   | true => rw [b e h1 e2] at e1; cases e1
 rw [e]
/-- The world behind a revocation. -/
def rkP (p : PW) (a : Int) : PW := if sndB p = true ∧ hasE p a = 0 then fgt (rvN (drF (nds p + 1)) a.toNat (neS p.slots) p) else p
theorem rk_yes {p : PW} {j : Nat} (h : Snd p) (h0 : hasE p j = 0) : rkP p j = fgt (rvN (drF (nds p + 1)) j (neS p.slots) p) := by
 unfold rkP
 rw [if_pos ⟨snd_back h, h0⟩, Int.toNat_natCast]
theorem rk_ok {p : PW} (hp : p.Fits) (hl : ∀ l ∈ p.tlbs, l.length ≤ 100) (a : Int) : (rkP p a).Fits ∧ ∀ l ∈ (rkP p a).tlbs, l.length ≤ 100 := by
 by_cases hc : sndB p = true ∧ hasE p a = 0
 ·obtain ⟨j, rfl, hj, h0⟩ := has_inD hc.2
  have hs := snd_of hc.1
  rw [rk_yes hs hc.2]
  obtain ⟨r, hu⟩ := snd_up hs
  have hi := (rv_inv (t := j) (neS p.slots) p (Nat.lt_succ_self _) (snd_inv hp hs) hu).1
  have ht := rv_tl (t := j) (n := neS p.slots) (Nat.lt_succ_self _) (snd_inv hp hs) (snd_tl hs) hu
  have f := hi.fits
  refine ⟨⟨f.ram, f.kinds, f.slots, f.tasks, f.lines, f.line, f.bits, f.cores, f.ready, f.next, ?_, f.doms⟩, fun l hl2 => ?_⟩
  ·show (List.map _ _).length ≤ 1000
   rw [List.length_map]; exact f.tlbs
  ·obtain ⟨l0, h1, rfl⟩ := List.mem_map.1 (show l ∈ (rvN (drF (nds p + 1)) j (neS p.slots) p).tlbs.map _ from hl2)
   exact Nat.le_trans (List.length_filter_le ..) (ht.len l0 h1)
 ·have e : rkP p a = p := by unfold rkP; rw [if_neg hc]
  rw [e]
  exact ⟨hp, hl⟩
theorem fro_at {S : List (Nat → Int)} {i : Nat} (hi : i < S.length) : fro S i = S[i] 6 := by
 unfold fro
 rw [if_pos (by omega), Int.toNat_natCast, List.getD_eq_getElem?_getD, List.getElem?_eq_getElem hi]
 rfl
theorem up_at {r : Nat → Nat} {S : List (Nat → Int)} (h : Up r S) {i : Nat} (hi : i < S.length) : S[i] 6 = -1 ∨ ∃ u : Nat, S[i] 6 = u ∧ u < S.length ∧ r u < r i := by
 have e : S.getD i eS = S[i] := by rw [List.getD_eq_getElem?_getD, List.getElem?_eq_getElem hi]; rfl
 rw [← e]
 exact h.fr i
set_option maxRecDepth 100000 in
set_option maxHeartbeats 1000000 in
theorem isUnder_any {r : Nat → Nat} (vb : Nat) (V : Nat → Value) (p : PW) (i t : Nat) (w : World) (hv : ViewAt w vb V p) (hu : Up r p.slots) (hi : i < p.slots.length) :
  Calls Tryz.prog 53 #[.pointer (some ⟨vb, 0, none⟩), .int .i64 i, .int .i64 t] w fun x w' => x = .returned (.bool (unB p.slots t i)) ∧ w = w' := by
 have c2 : w.cell? ⟨vb, 2, none⟩ = some (V 2) := range_cell hv.r rfl
 obtain ⟨q, b, off, cap, e2, hq, hz⟩ := hv.v.slots
 have hqe := hq (by omega)
 subst hqe
 have hi2 : (i : Int) < (p.slots.length : Int) := by omega
 have c6 := range_at (hz i hi) (cf_at 7 _ 6 (by omega))
 have HI := hid (show (UnS p.slots t (fro p.slots i) ↔ UnS p.slots t (p.slots[i] 6)) ∧ (p.slots[i] 6 = -1 ∨ ∃ j : Nat, p.slots[i] 6 = j ∧ j < p.slots.length) by
  refine ⟨by rw [fro_at hi], ?_⟩
  rcases up_at hu hi with h | ⟨u, h, h2, -⟩
  ·exact .inl h
  ·exact .inr ⟨u, h, h2⟩)
 generalize p.slots[i] 6 = y0 at c6 HI
 have HZ := hid hz
 have HU := hid hu
 clear hv hq hz hu hi
 go_enter Tryz.func53, Tryz.ntmps53
 go_wp2_with fail
 clear c6
 go_loopw [7] (fun v wr => ∃ y : Int, v = .int .i64 y ∧ Hid ((UnS p.slots t (fro p.slots i) ↔ UnS p.slots t y) ∧ (y = -1 ∨ ∃ j : Nat, y = j ∧ j < p.slots.length)) ∧ Hid (w = wr)) (fun v _ => if intOf v < 0 then 0 else r (intOf v).toNat + 1)
 case atStart => exact ⟨y0, rfl, HI, hid rfl⟩
 case round =>
  obtain ⟨y, rfl, HE, HW⟩ := hrel
  obtain rfl := HW.out
  clear HI
  rcases HE.out.2 with hy | ⟨j, hy, hj⟩
  ·subst hy
   have hn : ((-1 : Int) != -1) = false := rfl
   have HN := hid (show unB p.slots t i = false by
    cases e : unB p.slots t i with
    | false => rfl
    | true => exact absurd (HE.out.1.1 ((unB_iff HU.out t i).1 e)) uns_no)
   clear HE
   go_wp2_with fail
   go_ret
   exact ⟨by rw [HN.out]; rfl, rfl⟩
  ·subst hy
   have hn : ((j : Int) != -1) = true := bne_iff_ne.2 (by omega)
   by_cases ht : (j : Int) = t
   ·have ht2 : ((j : Int) == (t : Int)) = true := beq_iff_eq.2 ht
    have HN := hid (show unB p.slots t i = true from (unB_iff HU.out t i).2 (HE.out.1.2 (by rw [ht]; exact uns_self)))
    clear HE ht
    go_wp2_with fail
    go_ret
    exact ⟨by rw [HN.out]; rfl, rfl⟩
   ·have ht2 : ((j : Int) == (t : Int)) = false := beq_eq_false_iff_ne.2 ht
    have hj2 : (j : Int) < (p.slots.length : Int) := by omega
    have c7 := range_at (HZ.out j hj) (cf_at 7 _ 6 (by omega))
    have HN := hid (show ((UnS p.slots t (fro p.slots i) ↔ UnS p.slots t (p.slots[j] 6)) ∧ (p.slots[j] 6 = -1 ∨ ∃ k : Nat, p.slots[j] 6 = k ∧ k < p.slots.length)) ∧ (if p.slots[j] 6 < 0 then 0 else r (p.slots[j] 6).toNat + 1) < r j + 1 by
     refine ⟨⟨HE.out.1.trans (by rw [uns_step ht, fro_at hj]), ?_⟩, ?_⟩
     ·rcases up_at HU.out hj with h | ⟨u, h, h2, -⟩
      ·exact .inl h
      ·exact .inr ⟨u, h, h2⟩
     ·rcases up_at HU.out hj with h | ⟨u, h, -, h2⟩
      ·rw [h, if_pos (by decide)]; omega
      ·rw [h, if_neg (by omega), Int.toNat_natCast]; omega)
    generalize p.slots[j] 6 = z at c7 HN
    clear HE ht
    go_wp2_with fail
    refine ⟨⟨z, rfl, hid HN.out.1, hid (by simp)⟩, ?_⟩
    show (if z < 0 then 0 else r z.toNat + 1) < (if (j : Int) < 0 then 0 else r (j : Int).toNat + 1)
    rw [if_neg (show ¬ (j : Int) < 0 by omega), Int.toNat_natCast]
    exact HN.out.2
set_option maxRecDepth 100000 in
set_option maxHeartbeats 1000000 in
theorem madeFrom_ref {r : Nat → Nat} (vb : Nat) (V : Nat → Value) (p : PW) (i t : Nat) (w : World) (hv : ViewAt w vb V p) (hu : Up r p.slots) (hi : i < p.slots.length) :
  Calls Tryz.prog 50 #[.pointer (some ⟨vb, 0, none⟩), .int .i64 i, .int .i64 t] w fun x w' => x = .returned (.bool (unB p.slots t i)) ∧ w = w' := by
 have c2 : w.cell? ⟨vb, 2, none⟩ = some (V 2) := range_cell hv.r rfl
 obtain ⟨q, b, off, cap, e2, hq, hz⟩ := hv.v.slots
 have hqe := hq (by omega)
 subst hqe
 have hi2 : (i : Int) < (p.slots.length : Int) := by omega
 have c6 := range_at (hz i hi) (cf_at 7 _ 6 (by omega))
 have HI := hid (show (UnS p.slots t (fro p.slots i) ↔ UnS p.slots t (p.slots[i] 6)) ∧ (p.slots[i] 6 = -1 ∨ ∃ j : Nat, p.slots[i] 6 = j ∧ j < p.slots.length) by
  refine ⟨by rw [fro_at hi], ?_⟩
  rcases up_at hu hi with h | ⟨u, h, h2, -⟩
  ·exact .inl h
  ·exact .inr ⟨u, h, h2⟩)
 generalize p.slots[i] 6 = y0 at c6 HI
 have HZ := hid hz
 have HU := hid hu
 clear hv hq hz hu hi
 go_enter Tryz.func50, Tryz.ntmps50
 go_wp2_with fail
 clear c6
 go_loopw [1] (fun v wr => ∃ y : Int, v = .int .i64 y ∧ Hid ((UnS p.slots t (fro p.slots i) ↔ UnS p.slots t y) ∧ (y = -1 ∨ ∃ j : Nat, y = j ∧ j < p.slots.length)) ∧ Hid (w = wr)) (fun v _ => if intOf v < 0 then 0 else r (intOf v).toNat + 1)
 case atStart => exact ⟨y0, rfl, HI, hid rfl⟩
 case round =>
  obtain ⟨y, rfl, HE, HW⟩ := hrel
  obtain rfl := HW.out
  clear HI
  rcases HE.out.2 with hy | ⟨j, hy, hj⟩
  ·subst hy
   have hn : ¬ ((0 : Int) ≤ -1) := by omega
   have HN := hid (show unB p.slots t i = false by
    cases e : unB p.slots t i with
    | false => rfl
    | true => exact absurd (HE.out.1.1 ((unB_iff HU.out t i).1 e)) uns_no)
   clear HE
   go_wp2_with fail
   go_ret
   exact ⟨by rw [HN.out]; rfl, rfl⟩
  ·subst hy
   have hn : (0 : Int) ≤ (j : Int) := by omega
   by_cases ht : (j : Int) = t
   ·have ht2 : ((j : Int) == (t : Int)) = true := beq_iff_eq.2 ht
    have HN := hid (show unB p.slots t i = true from (unB_iff HU.out t i).2 (HE.out.1.2 (by rw [ht]; exact uns_self)))
    clear HE ht
    go_wp2_with fail
    go_ret
    exact ⟨by rw [HN.out]; rfl, rfl⟩
   ·have ht2 : ((j : Int) == (t : Int)) = false := beq_eq_false_iff_ne.2 ht
    have hj2 : (j : Int) < (p.slots.length : Int) := by omega
    have c7 := range_at (HZ.out j hj) (cf_at 7 _ 6 (by omega))
    have HN := hid (show ((UnS p.slots t (fro p.slots i) ↔ UnS p.slots t (p.slots[j] 6)) ∧ (p.slots[j] 6 = -1 ∨ ∃ k : Nat, p.slots[j] 6 = k ∧ k < p.slots.length)) ∧ (if p.slots[j] 6 < 0 then 0 else r (p.slots[j] 6).toNat + 1) < r j + 1 by
     refine ⟨⟨HE.out.1.trans (by rw [uns_step ht, fro_at hj]), ?_⟩, ?_⟩
     ·rcases up_at HU.out hj with h | ⟨u, h, h2, -⟩
      ·exact .inl h
      ·exact .inr ⟨u, h, h2⟩
     ·rcases up_at HU.out hj with h | ⟨u, h, -, h2⟩
      ·rw [h, if_pos (by decide)]; omega
      ·rw [h, if_neg (by omega), Int.toNat_natCast]; omega)
    generalize p.slots[j] 6 = z at c7 HN
    clear HE ht
    go_wp2_with fail
    refine ⟨⟨z, rfl, hid HN.out.1, hid (by simp)⟩, ?_⟩
    show (if z < 0 then 0 else r z.toNat + 1) < (if (j : Int) < 0 then 0 else r (j : Int).toNat + 1)
    rw [if_neg (show ¬ (j : Int) < 0 by omega), Int.toNat_natCast]
    exact HN.out.2
set_option maxRecDepth 100000 in
theorem lastUnder_any {r : Nat → Nat} (vb : Nat) (V : Nat → Value) (p : PW) (t : Nat) (w : World) (hv : ViewAt w vb V p) (hu : Up r p.slots) :
  Calls Tryz.prog 48 #[.pointer (some ⟨vb, 0, none⟩), .int .i64 t] w fun x w' => x = .returned (.int .i64 (luF p.slots t p.slots.length)) ∧ w = w' := by
 have c2 : w.cell? ⟨vb, 2, none⟩ = some (V 2) := range_cell hv.r rfl
 obtain ⟨q, b, off, cap, e2, -, -⟩ := hv.v.slots
 have hl : (p.slots.length : Int) ≤ 1000 := by have := hv.f.slots; omega
 have HC := hid (fun (i : Nat) (hi : i < p.slots.length) => isUnder_any vb V p i t w hv hu hi)
 clear hv hu
 go_enter Tryz.func48, Tryz.ntmps48
 go_wp2_with fail
 clear c2 e2
 go_loopw [5] (fun v wr => ∃ (k : Nat) (z : Int), v = .int .i64 z ∧ z = (k : Int) - 1 ∧ k ≤ p.slots.length ∧ Hid (luF p.slots t p.slots.length = luF p.slots t k) ∧ Hid (w = wr)) (fun v _ => (intOf v + 1).toNat)
 case atStart => exact ⟨p.slots.length, _, rfl, by first | rfl | go_num, Nat.le_refl _, hid rfl, hid rfl⟩
 case round =>
  obtain ⟨k, z, rfl, hz, hk, HE, HW⟩ := hrel
  obtain rfl := HW.out
  cases k with
  | zero =>
   obtain rfl : z = -1 := by omega
   have hn : ¬ ((0 : Int) ≤ -1) := by omega
   have HX := hid (show luF p.slots t p.slots.length = -1 from HE.out)
   clear HE hz
   go_wp2_with fail
   go_ret
   exact ⟨by rw [HX.out]; rfl, rfl⟩
  | succ k =>
   obtain rfl : z = (k : Int) := by omega
   have hn : (0 : Int) ≤ (k : Int) := by omega
   have HX := hid (HE.out.trans (show luF p.slots t (k + 1) = if unB p.slots t k = true then (k : Int) else luF p.slots t k from rfl))
   clear HE hz
   go_wp2_with fail
   refine (HC.out k (by omega)).mono ?_
   rintro x w1 ⟨rfl, rfl⟩
   cases e : unB p.slots t k with
   | true =>
    rw [e, if_pos rfl] at HX
    clear e
    go_wp2_with fail
    go_ret
    exact ⟨by rw [HX.out]; rfl, rfl⟩
   | false =>
    rw [e, if_neg (by decide)] at HX
    clear e
    go_wp2_with fail
    exact ⟨⟨k, _, rfl, by go_num, by omega, HX, hid (by simp)⟩, by simp [intOf]⟩
theorem md_len (S : List (Nat → Int)) (t n : Nat) : (mdL S t n).length ≤ n := by
 unfold mdL
 rw [List.length_map]
 exact Nat.le_trans (List.length_filter_le _ _) (by rw [List.length_range]; exact Nat.le_refl _)
theorem app_md {w wr : World} {zs : List Int} {y : Int} {qu : Option Addr} {cu : Nat} (hB : Below w.heap.size w wr) (hl : zs.length ≤ 1000) (hO : wr.ownsRow w.heap.size 3 1 (.slice qu zs.length cu) zs.length (ints zs)) :
  ∃ q c w', (Builtin.append_ #[22, 22] 22 #[.slice qu zs.length cu, .slice (some ⟨wr.heap.size, 0, none⟩) 1 1]).run Tryz.prog (wr.alloc (.cells #[.int .i64 y] 3)) = .ok (.slice q (zs.length + 1) c) w' ∧ w'.ownsRow w.heap.size 3 1 (.slice q (zs.length + 1) c) (zs ++ [y]).length (ints (zs ++ [y])) ∧ Below w.heap.size w w' := by
 have bn := bal (Below.refl wr.heap.size wr) (.cells #[.int .i64 y] 3)
 have hbs := Nat.le_trans hB.size bn.size
 obtain ⟨i, hi, hz, hs, hy⟩ := info_get infoI
 obtain ⟨v', w', hr, h2, h3, _⟩ := run_append_own (P := Tryz.prog) (wr.alloc (.cells #[.int .i64 y] 3)) w.heap.size 22 22 3 i (.int .i64 0) 1 8 Tryz.underlying22 hi hz hs hy rfl (by decide) _ _ _ (own_below hO bn) ⟨wr.heap.size, 0, none⟩ 1 1 [.int .i64 y] rfl (fun j v hj => by
  match j, hj with
  | 0, hj => cases hj; exact cells_new wr #[.int .i64 y] 3 0
  | j + 1, hj => simp at hj) (int1 y) (by unfold maxLen; omega) (by omega) hbs
 obtain ⟨q, c, rfl⟩ := own_form h2
 have e : ints zs ++ [Value.int .i64 y] = ints (zs ++ [y]) := by unfold ints; simp
 exact ⟨q, c, w', hr, by rw [← e, List.length_append]; exact h2, (btr hB bn).grown h3 hbs (fun k hk => (hO.lt k hk).1)⟩
set_option maxRecDepth 100000 in
set_option maxHeartbeats 2000000 in
theorem made_ref {r : Nat → Nat} (vb : Nat) (V : Nat → Value) (p : PW) (t : Nat) (w : World) (hv : ViewAt w vb V p) (hu : Up r p.slots) :
  Calls Tryz.prog 23 #[.pointer (some ⟨vb, 0, none⟩), .int .i64 t] w fun x w' => ∃ v, x = .returned v ∧ IntsIn w' v (mdL p.slots t p.slots.length) ∧ Below w.heap.size w w' := by
 have hl : (p.slots.length : Int) ≤ 1000 := by have := hv.f.slots; omega
 have HV := hid hv
 have HU := hid hu
 obtain ⟨q, b, off, cap, e2, hq, -⟩ := hv.v.slots
 have HQ := hid hq
 clear hv hu hq
 go_enter Tryz.func23, Tryz.ntmps23
 go_wp2_with fail
 go_loopw [5, 6] (fun u i wr => ∃ (k : Nat) (qu : Option Addr) (cu : Nat), k ≤ p.slots.length ∧ i = .int .i64 k ∧ u = .slice qu (mdL p.slots t k).length cu ∧ Hid (wr.ownsRow w.heap.size 3 1 (.slice qu (mdL p.slots t k).length cu) (mdL p.slots t k).length (ints (mdL p.slots t k))) ∧ Hid (Below w.heap.size w wr)) (fun _ i _ => p.slots.length - (intOf i).toNat)
 case atStart => exact ⟨0, none, 0, by omega, rfl, rfl, hid (World.ownsRow_nil _ _ _ _), hid (Below.refl _ _)⟩
 case round =>
  obtain ⟨k, qu, cu, hk, rfl, rfl, HO, HB⟩ := hrel
  have V2 := hid (HV.out.below HB.out)
  have c2 : wr.cell? ⟨vb, 2, none⟩ = some (V 2) := range_cell V2.out.r rfl
  by_cases hlt : k < p.slots.length
  ·have hlt2 : (k : Int) < (p.slots.length : Int) := by omega
   obtain ⟨q', b', off', cap', e3, hq3, hz3⟩ := V2.out.v.slots
   have hqe := hq3 (by omega)
   subst hqe
   have c0 := range_at0 (hz3 k hlt) (cf_at 7 _ 0 (by omega))
   have HLN := hid (show (mdL p.slots t k).length ≤ 1000 from Nat.le_trans (md_len _ _ _) (by omega))
   have HS := hid (mdL_succ p.slots t k)
   have HC := hid (madeFrom_ref vb V p k t wr V2.out HU.out hlt)
   have HX := hid (show p.slots[k] 0 = 0 → unB p.slots t k = false from fun h0 => by
    cases e : unB p.slots t k with
    | false => rfl
    | true => exact absurd (show (p.slots.getD k eS) 0 = 0 by rw [slot_get hlt]; exact h0) (und_full HU.out ((unB_iff HU.out t k).1 e)))
   generalize p.slots[k] 0 = y at c0 HX
   clear hq3 hz3 V2 e2
   generalize mdL p.slots t k = zs at HO HLN HS ⊢
   by_cases hy : y = 0
   ·rw [HX.out hy, if_neg (by decide), List.append_nil] at HS
    have hyb : (y != 0) = false := by simpa using hy
    clear hy HX HC
    go_wp2_with fail
    refine ⟨⟨k + 1, qu, cu, by omega, by go_num, by rw [HS.out], hid (by rw [HS.out]; exact HO.out), HB⟩, by simp [intOf]; omega⟩
   ·have hyb : (y != 0) = true := by simpa using hy
    clear hy HX
    go_wp2_with fail
    refine HC.out.mono ?_
    rintro x w1 ⟨rfl, rfl⟩
    clear HC
    cases e : unB p.slots t k with
    | false =>
     rw [e, if_neg (by decide), List.append_nil] at HS
     clear e
     go_wp2_with fail
     refine ⟨⟨k + 1, qu, cu, by omega, by go_num, by rw [HS.out], hid (by rw [HS.out]; exact HO.out), HB⟩, by simp [intOf]; omega⟩
    | true =>
     rw [e, if_pos rfl] at HS
     obtain ⟨q', c', w', hr, h2, h3⟩ := app_md (y := (k : Int)) HB.out HLN.out HO.out
     have HR := hid hr
     have HN := hid h2
     have HBB := hid h3
     clear hr h2 h3 e
     go_wp2_with (first | (at_builtin; refine wpList_app rfl _ _ 22 rfl (.slice qu zs.length cu) (.slice (some ⟨wr.heap.size, 0, none⟩) 1 1) (.slice q' (zs.length + 1) c') rfl rfl HR.out ?_))
     exact ⟨⟨k + 1, q', c', by omega, by go_num, by rw [HS.out, List.length_append]; rfl, hid (by rw [HS.out]; have := HN.out; rw [List.length_append] at this ⊢; exact this), HBB⟩, by simp [intOf]; omega⟩
  ·obtain rfl : k = p.slots.length := by omega
   have hge : ¬ ((p.slots.length : Int) < (p.slots.length : Int)) := by omega
   clear V2
   go_wp2_with fail
   go_ret
   exact ⟨_, rfl, own_ints HO.out, HB.out⟩
/-- How many slots have something, as it lies in memory. -/
def neW (W : World) (g n : Nat) : Nat := (List.range n).countP fun i => match W.cell? ⟨g, i * 7, none⟩ with | some (.int _ x) => x != 0 | _ => false
theorem neW_eq {W : World} {wb : Nat} {tag : Nat → Nat} {V : Nat → Value} {q : PW} {g cap n : Nat} (bt : BoxT W wb tag V q) (e : V 2 = .slice (some ⟨g, 0, none⟩) n cap) (hn : q.slots.length = n) : neW W g n = neS q.slots := by
 subst hn
 unfold neW neS
 refine List.countP_congr fun i hi => ?_
 rw [bt.slotKind e (List.mem_range.1 hi)]
set_option maxRecDepth 100000 in
set_option maxHeartbeats 2000000 in
theorem revoke1_any {r : Nat → Nat} (m c0 t : Nat) (p : PW) (hn : nds p < m + 1) (hi : Inv p) (hu : Up r p.slots) (hl : ∀ l ∈ p.tlbs, l.length ≤ 100) (ht : t < p.slots.length) : Takes 47 c0 t p (rvN (drF (m + 1)) t (neS p.slots) p) := by
 intro W wb tag V bt x x0
 obtain ⟨q2, g, cap, e2, hq⟩ := bt.o.slots.shape
 have hqe := hq (by omega)
 subst hqe
 have HE := hid e2
 have HL := hid (lastUnder_any wb V p t W (bt.view hi.fits hl) hu)
 have HTL := hid hl
 have HX0 := hid (And.intro x x0)
 obtain ⟨P, hP⟩ : ∃ P, rvN (drF (m + 1)) t (neS p.slots) p = P := ⟨_, rfl⟩
 rw [hP]
 have H0 := hid (show nds p < m + 1 ∧ Inv p ∧ Up r p.slots ∧ ∃ k, neS p.slots ≤ k ∧ rvN (drF (m + 1)) t k p = P from ⟨hn, hi, hu, _, Nat.le_refl _, hP⟩)
 have HB0 := hid bt
 clear hq hn hi hu hl hP bt x0 e2
 go_enter Tryz.func47, Tryz.ntmps47
 go_wp2_with fail
 refine HL.out.mono ?_
 rintro y w1 ⟨rfl, rfl⟩
 go_wp2_with fail
 clear HL x
 go_loopw [3] (fun v wr => ∃ (z : Int) (q : PW) (tg : Nat → Nat), v = .int .i64 z ∧ Hid (z = luF q.slots t q.slots.length) ∧ Hid (nds q < m + 1 ∧ Inv q ∧ Up r q.slots ∧ q.tlbs = p.tlbs ∧ q.slots.length = p.slots.length ∧ ∃ k, neS q.slots ≤ k ∧ rvN (drF (m + 1)) t k q = P) ∧ Hid (BoxT wr wb tg V q) ∧ Hid (Kt tag tg W wr)) (fun _ wr => neW wr g p.slots.length)
 case atStart => exact ⟨_, p, tag, rfl, hid rfl, hid ⟨H0.out.1, H0.out.2.1, H0.out.2.2.1, rfl, rfl, H0.out.2.2.2⟩, HB0, hid (Kt.refl _ _)⟩
 case round =>
  obtain ⟨z, q, tg, rfl, HZ, HQ, HB, HK⟩ := hrel
  clear H0 HB0
  have x2 : wr.cell? ⟨c0, 0, none⟩ = some (.int .i64 t) := HK.out.cell HX0.out.1 HX0.out.2
  have X3 := hid (HK.out.tag0 HX0.out.1 HX0.out.2)
  have HC := hid (show (luF q.slots t q.slots.length = -1 ∧ q = P) ∨ ∃ j : Nat, luF q.slots t q.slots.length = j ∧ j < q.slots.length ∧ (q.slots.getD j eS) 0 ≠ 0 ∧ (nds (drF (m + 1) q j) < m + 1 ∧ Inv (drF (m + 1) q j) ∧ Up r (drF (m + 1) q j).slots ∧ (drF (m + 1) q j).tlbs = p.tlbs ∧ (drF (m + 1) q j).slots.length = p.slots.length ∧ ∃ k, neS (drF (m + 1) q j).slots ≤ k ∧ rvN (drF (m + 1)) t k (drF (m + 1) q j) = P) ∧ neS (drF (m + 1) q j).slots < neS q.slots by
   obtain ⟨h1, h2, h3, h4, h5, k, h6, h7⟩ := HQ.out
   rcases md_last q.slots t q.slots.length with ⟨-, e⟩ | ⟨-, j, -, e, -, -⟩
   ·exact .inl ⟨e, by rw [← h7, rv_stop e]⟩
   ·obtain ⟨hj, h0⟩ := lu_in h3 e
    obtain ⟨i1, i2, -⟩ := dr_inv (m + 1) q j h1 h2 hj h0
    obtain ⟨u1, u2⟩ := dr_up (m + 1) q j h3
    obtain ⟨a, b⟩ := rv_next h3 e h6 h7
    exact .inr ⟨j, e, hj, h0, ⟨by omega, i1, u1, (dr_tlbs _ _ _).trans h4, u2.1.trans h5, b⟩, a⟩)
  rcases HC.out with ⟨e, hq⟩ | ⟨j, e, hj, h0, hN, hM⟩
  ·obtain rfl : z = -1 := HZ.out.trans e
   have hb : ((-1 : Int) != -1) = false := rfl
   have HX := hid hq
   clear HC HZ HQ e hq x2 X3
   go_wp2_with fail
   exact bodyPost_end (results_none rfl _ _ _) rfl ⟨rfl, tg, by rw [← HX.out]; exact HB.out, HK.out⟩
  ·obtain rfl : z = (j : Int) := HZ.out.trans e
   have hb : ((j : Int) != -1) = true := bne_iff_ne.2 (by omega)
   have HD := hid (drop_any (m + 1) q j wr wb tg V HQ.out.1 HQ.out.2.1 hj h0 HB.out)
   have HN := hid hN
   have HM := hid (show neS (drF (m + 1) q j).slots < neW wr g p.slots.length by rw [neW_eq HB.out HE.out HQ.out.2.2.2.2.1]; exact hM)
   generalize drF (m + 1) q j = q' at HD HN HM
   have X2 := hid x2
   clear HC HZ HQ e hj h0 hN hM HB x2
   go_wp2_with fail
   refine HD.out.mono ?_
   rintro y w2 ⟨rfl, tg2, b2, k2⟩
   have x4 : w2.cell? ⟨c0, 0, none⟩ = some (.int .i64 t) := k2.cell X2.out X3.out
   have B2 := hid b2
   have K2 := hid (HK.out.trans k2)
   have HL := hid (lastUnder_any wb V q' t w2 (b2.view HN.out.2.1.fits (by rw [HN.out.2.2.2.1]; exact HTL.out)) HN.out.2.2.1)
   clear b2 k2 HD HK
   go_wp2_with fail
   refine HL.out.mono ?_
   rintro y w3 ⟨rfl, rfl⟩
   clear HL
   go_wp2_with fail
   refine ⟨⟨_, q', tg2, rfl, hid rfl, HN, B2, K2⟩, ?_⟩
   show neW w2 g p.slots.length < neW wr g p.slots.length
   rw [neW_eq B2.out HE.out HN.out.2.2.2.2.1]
   exact HM.out
theorem rv_nextR {r : Nat → Nat} {m t n j : Nat} {q P : PW} (h1 : nds q < m + 1) (h2 : Inv q) (h3 : TL q) (hu : Up r q.slots) (hj : luF q.slots t q.slots.length = j) (hn : neS q.slots ≤ n) (hP : rvN (drR (m + 1)) t n q = P) :
  (nds (drR (m + 1) q j) < m + 1 ∧ Inv (drR (m + 1) q j) ∧ TL (drR (m + 1) q j) ∧ Up r (drR (m + 1) q j).slots ∧ (drR (m + 1) q j).slots.length = q.slots.length ∧ ∃ k, neS (drR (m + 1) q j).slots ≤ k ∧ rvN (drR (m + 1)) t k (drR (m + 1) q j) = P) ∧ neS (drR (m + 1) q j).slots < neS q.slots := by
 obtain ⟨hl, h0⟩ := lu_in hu hj
 have hs := rr_slots h1 h2 h3 hl h0
 obtain ⟨i1, i2, -⟩ := (rr_inv (m + 1)).1 q j h1 h2 hl h0
 have a := ne_lt (dr_up (m + 1) q j hu).2 (dr_gone hu) h0
 rw [hs]
 refine ⟨⟨by omega, i1, (rr_inv (m + 1)).2 q j h1 h2 hl h0 h3, (dr_up (m + 1) q j hu).1, (dr_up (m + 1) q j hu).2.1, ?_⟩, a⟩
 cases n with
 | zero => omega
 | succ n => exact ⟨n, by omega, by rw [← hP, rv_go hj]⟩
set_option maxRecDepth 100000 in
set_option maxHeartbeats 4000000 in
theorem revokeKey_any (a : Int) (p : PW) (hp : p.Fits) (hl : ∀ l ∈ p.tlbs, l.length ≤ 100) (hs : Snd p) (W : World) (wb : Nat) (tag : Nat → Nat) (V : Nat → Value) (bt : BoxT W wb tag V p) :
  Calls Tryz.prog 21 #[.pointer (some ⟨wb, 0, none⟩), .int .i64 a] W fun x W' => x = .returned (.int .i64 (hasE p a)) ∧ ∃ tag', Kt tag tag' W W' ∧ (hasE p a = 0 → ∃ V', BoxT W' wb tag' V' (rkP p a)) := by
 have HA := hid (has_ref wb V p a W (bt.view hp hl))
 by_cases hb : hasE p a = 0
 rotate_left
 ·have HN := hid hb
  have hbb : (hasE p a != 0) = true := by simpa using hb
  generalize hasE p a = x at HA HN hbb ⊢
  clear hb hs hl hp bt
  go_enter Tryz.func21, Tryz.ntmps21
  go_wp2_with fail
  refine HA.out.mono ?_
  rintro q w1 ⟨rfl, rfl⟩
  go_wp2_with fail
  go_ret
  exact ⟨rfl, tag, Kt.refl _ _, fun h => absurd h HN.out⟩
 obtain ⟨t, rfl, ht, h0⟩ := has_inD hb
 obtain ⟨r, hu⟩ := snd_up hs
 obtain ⟨q2, g, cap, e2, hq⟩ := bt.o.slots.shape
 have hqe := hq (by omega)
 subst hqe
 have HE := hid e2
 have HRK := hid (show rkP p t = rvN (drR (nds p + 1)) t (neS p.slots) p by rw [rk_yes hs hb, rv_eq hp hs (Nat.lt_succ_self _) hu])
 obtain ⟨P, hP⟩ : ∃ P, rvN (drR (nds p + 1)) t (neS p.slots) p = P := ⟨_, rfl⟩
 rw [hP] at HRK
 have H0 := hid (show nds p < nds p + 1 ∧ Inv p ∧ TL p ∧ Up r p.slots ∧ ∃ k, neS p.slots ≤ k ∧ rvN (drR (nds p + 1)) t k p = P from ⟨Nat.lt_succ_self _, snd_inv hp hs, snd_tl hs, hu, _, Nat.le_refl _, hP⟩)
 have HM := hid (made_ref wb V p t W (bt.view hp hl) hu)
 have HB0 := hid bt
 rw [hb] at HA ⊢
 generalize nds p + 1 = m1 at H0 hP
 obtain ⟨m, rfl⟩ : ∃ m, m1 = m + 1 := ⟨m1 - 1, by have := H0.out.1; omega⟩
 clear hq hb hs hl hp bt ht h0 hu hP e2
 go_enter Tryz.func21, Tryz.ntmps21
 go_wp2_with fail
 refine HA.out.mono ?_
 rintro q w1 ⟨rfl, rfl⟩
 go_wp2_with fail
 refine HM.out.mono ?_
 rintro q w1 ⟨v, rfl, hv, hb⟩
 have HV := hid hv
 replace HB0 := hid (HB0.out.below hb)
 have HK0 := hid (Kt.below (tag := tag) hb)
 clear hv hb HM HA
 go_wp2_with fail
 go_loopw [6] (fun v wr => ∃ (q : PW) (tg : Nat → Nat), Hid (IntsIn wr v (mdL q.slots t q.slots.length)) ∧ Hid (nds q < m + 1 ∧ Inv q ∧ TL q ∧ Up r q.slots ∧ q.slots.length = p.slots.length ∧ ∃ k, neS q.slots ≤ k ∧ rvN (drR (m + 1)) t k q = P) ∧ Hid (BoxT wr wb tg V q) ∧ Hid (Kt tag tg W wr)) (fun _ wr => neW wr g p.slots.length)
 case atStart => exact ⟨p, tag, HV, hid ⟨H0.out.1, H0.out.2.1, H0.out.2.2.1, H0.out.2.2.2.1, rfl, H0.out.2.2.2.2⟩, HB0, HK0⟩
 case round =>
  obtain ⟨q, tg, HI, HQ, HB, HK⟩ := hrel
  clear H0 HB0 HK0 HV
  have HC := hid (show (mdL q.slots t q.slots.length = [] ∧ q = P) ∨ ∃ (L : List Int) (j : Nat), mdL q.slots t q.slots.length = L ++ [(j : Int)] ∧ j < q.slots.length ∧ (q.slots.getD j eS) 0 ≠ 0 ∧ (nds (drR (m + 1) q j) < m + 1 ∧ Inv (drR (m + 1) q j) ∧ TL (drR (m + 1) q j) ∧ Up r (drR (m + 1) q j).slots ∧ (drR (m + 1) q j).slots.length = p.slots.length ∧ ∃ k, neS (drR (m + 1) q j).slots ≤ k ∧ rvN (drR (m + 1)) t k (drR (m + 1) q j) = P) ∧ neS (drR (m + 1) q j).slots < neS q.slots by
   obtain ⟨h1, h2, h3, h4, h5, k, h6, h7⟩ := HQ.out
   rcases md_last q.slots t q.slots.length with ⟨e1, e⟩ | ⟨L, j, e1, e, -, -⟩
   ·exact .inl ⟨e1, by rw [← h7, rv_stop e]⟩
   ·obtain ⟨hj, h0⟩ := lu_in h4 e
    obtain ⟨⟨a1, a2, a3, a4, a5, a6⟩, b⟩ := rv_nextR h1 h2 h3 h4 e h6 h7
    exact .inr ⟨L, j, e1, hj, h0, ⟨a1, a2, a3, a4, a5.trans h5, a6⟩, b⟩)
  rcases HC.out with ⟨e, hq⟩ | ⟨L, j, e, hj, h0, hN, hM⟩
  ·rw [e] at HI
   obtain ⟨qv, bv, ov, cv, rfl, -, -⟩ := HI.out
   have HX := hid hq
   have hlt : ¬ ((0 : Int) < (([] : List Int).length : Int)) := by simp
   clear HC HQ e hq HI
   go_wp2_with fail
   go_ret
   exact ⟨rfl, tg, HK.out, V, by rw [HRK.out, ← HX.out]; exact HB.out⟩
  ·rw [e] at HI
   obtain ⟨qv, bv, ov, cv, rfl, hqv, hzv⟩ := HI.out
   have hqe := hqv (by simp)
   subst hqe
   have cl : wr.cell? ⟨bv, ov + L.length, none⟩ = some (.int .i64 (j : Int)) := by
    have := hzv L.length (by simp)
    simpa using this
   have hln : ((L ++ [(j : Int)]).length : Int) = (L.length : Int) + 1 := by simp
   have hLb : (L.length : Int) ≤ 1000 := by
    have h1 := md_len q.slots t q.slots.length
    rw [e, List.length_append] at h1
    have h2 := HQ.out.2.1.fits.slots
    simp at h1
    omega
   generalize (L ++ [(j : Int)]).length = ln at hln hqv
   have hlt : (0 : Int) < (ln : Int) := by omega
   have HD := hid (ref_any (m + 1) q j wr wb tg V HQ.out.1 HQ.out.2.1 HQ.out.2.2.1 hj HB.out)
   rw [if_neg h0, if_neg h0] at HD
   have HN := hid hN
   have HM := hid (show neS (drR (m + 1) q j).slots < neW wr g p.slots.length by rw [neW_eq HB.out HE.out HQ.out.2.2.2.2.1]; exact hM)
   generalize drR (m + 1) q j = q' at HD HN HM
   clear HC HQ e hj h0 hN hM HB HI hqv hzv
   go_wp2_with fail
   refine HD.out.mono ?_
   rintro y w2 ⟨rfl, tg2, b2, k2⟩
   have HMd := hid (made_ref wb V q' t w2 (b2.view HN.out.2.1.fits HN.out.2.2.1.len) HN.out.2.2.2.1)
   have B2 := hid b2
   have K2 := hid (HK.out.trans k2)
   clear b2 k2 HD HK cl
   go_wp2_with fail
   refine HMd.out.mono ?_
   rintro y w3 ⟨v3, rfl, hv3, hb3⟩
   have HV3 := hid hv3
   have B3 := hid (B2.out.below hb3)
   have K3 := hid (K2.out.trans (Kt.below hb3))
   clear HMd hv3 hb3 B2 K2
   go_wp2_with fail
   refine ⟨⟨q', tg2, HV3, HN, B3, K3⟩, ?_⟩
   show neW w3 g p.slots.length < neW wr g p.slots.length
   rw [neW_eq B3.out HE.out HN.out.2.2.2.2.1]
   exact HM.out
theorem cf_r0 (args : Array Value) (W : World) : (callFunc 47 args).run Tryz.prog W = .ok (.enter 47 args) W := by
 go_simp
theorem cf_r2 (args : Array Value) (W : World) : (callFunc 20 args).run Tryz.prog W = .ok (.enter 20 args) W := by
 go_simp
theorem revoke_deed (c1 c2 c0 : Nat) (a : Int) (p : PW) (hp : p.Fits) (hl : ∀ l ∈ p.tlbs, l.length ≤ 100) (hs : Snd p) : DeedT 63 #[ptr c1, ptr c2] (CapsT [(c1, .int .i64 a), (c2, .func (.func 47) #[] #[.pointer (some ⟨c0, 0, none⟩)]), (c0, .int .i64 a)]) eV p (rkP p a) (hasE p a) :=
 taken_deed _ c1 c2 c0 a p (rvN (drF (nds p + 1)) a.toNat (neS p.slots) p) _ hp hl cf_r0 fun hb => by
  obtain ⟨j, rfl, hj, -⟩ := has_inD hb
  obtain ⟨r, hu⟩ := snd_up hs
  rw [Int.toNat_natCast]
  exact ⟨(rv_inv _ p (Nat.lt_succ_self _) (snd_inv hp hs) hu).1, rv_tl (Nat.lt_succ_self _) (snd_inv hp hs) (snd_tl hs) hu, rk_yes hs hb, revoke1_any (nds p) c0 j p (Nat.lt_succ_self _) (snd_inv hp hs) hu hl hj⟩
set_option maxRecDepth 100000 in
theorem revokeRef_deed (c1 : Nat) (a : Int) (p : PW) (hp : p.Fits) (hl : ∀ l ∈ p.tlbs, l.length ≤ 100) (hs : Snd p) : DeedT 20 #[ptr c1] (CapsT [(c1, .int .i64 a)]) (fun e => .int .i64 e) p (rkP p a) (hasE p a) := by
 intro W wb tag V bt hc
 have x1 := (hc (c1, .int .i64 a) (by simp)).1
 have HK := hid (revokeKey_any a p hp hl hs W wb tag V bt)
 clear hs hl hp bt hc
 unfold ptr
 simp only [List.append_toArray, List.cons_append, List.nil_append]
 go_enter Tryz.func20, Tryz.ntmps20
 go_wp2_with fail
 refine HK.out.mono ?_
 rintro q w1 ⟨rfl, h1⟩
 have H1 := hid h1
 clear h1
 go_wp2_with fail
 go_ret
 exact ⟨rfl, H1.out⟩
set_option maxRecDepth 100000 in
set_option maxHeartbeats 4000000 in
theorem treeRevoke_any (V : Nat → Value) (p : PW) (a : Int) (w : World) (hv : WorldV w V p) (hp : p.Fits) :
  Calls Tryz.prog 19 #[.agg (arr11 V), .int .i64 a] w fun x w' => ∃ X, x = .returned (.tuple #[.agg (arr11 X), eV (dE p (hasE p a))]) ∧ FarV w' w.heap.size X (dP p (rkP p a) (hasE p a)) ∧ Below w.heap.size w w' := by
 have RG0 := boxed w V 28
 have RG1 := range_below RG0 (bal (Below.refl _ (w.alloc (.cells (arr11 V) 28))) (.cells #[.int .i64 a] 3))
 have RG2 := range_below RG1 (bal (Below.refl _ ((w.alloc (.cells (arr11 V) 28)).alloc (.cells #[.int .i64 a] 3))) (.cells #[.slice none 0 0, .slice none 0 0, .slice none 0 0, .slice none 0 0, .slice none 0 0, .slice none 0 0, .slice none 0 0, .slice none 0 0, .slice none 0 0, .slice none 0 0, .int .i64 0] 28))
 have RG := hid RG2
 have B0 := hid (bal (bal (bal (Below.refl w.heap.size w) (.cells (arr11 V) 28)) (.cells #[.int .i64 a] 3)) (.cells #[.slice none 0 0, .slice none 0 0, .slice none 0 0, .slice none 0 0, .slice none 0 0, .slice none 0 0, .slice none 0 0, .slice none 0 0, .slice none 0 0, .slice none 0 0, .int .i64 0] 28))
 have y1 := (cells_alloc (cells_at (w.alloc (.cells (arr11 V) 28)) #[.int .i64 a] 3 (w.heap.size + 1) (by simp)) (by simp) (.cells #[.slice none 0 0, .slice none 0 0, .slice none 0 0, .slice none 0 0, .slice none 0 0, .slice none 0 0, .slice none 0 0, .slice none 0 0, .slice none 0 0, .slice none 0 0, .int .i64 0] 28)) 0
 have HC := hid (show Caps [((w.heap.size + 1), .int .i64 a)] (((w.alloc (.cells (arr11 V) 28)).alloc (.cells #[.int .i64 a] 3)).alloc (.cells #[.slice none 0 0, .slice none 0 0, .slice none 0 0, .slice none 0 0, .slice none 0 0, .slice none 0 0, .slice none 0 0, .slice none 0 0, .slice none 0 0, .slice none 0 0, .int .i64 0] 28)) from fun x hx => by
  simp only [List.mem_cons, List.not_mem_nil, or_false] at hx
  subst hx
  exact y1)
 have SZ := hid (show (((w.alloc (.cells (arr11 V) 28)).alloc (.cells #[.int .i64 a] 3)).alloc (.cells #[.slice none 0 0, .slice none 0 0, .slice none 0 0, .slice none 0 0, .slice none 0 0, .slice none 0 0, .slice none 0 0, .slice none 0 0, .slice none 0 0, .slice none 0 0, .int .i64 0] 28)).heap.size = w.heap.size + 3 by simp)
 have TR := hid (there_new ((w.alloc (.cells (arr11 V) 28)).alloc (.cells #[.int .i64 a] 3)) #[.slice none 0 0, .slice none 0 0, .slice none 0 0, .slice none 0 0, .slice none 0 0, .slice none 0 0, .slice none 0 0, .slice none 0 0, .slice none 0 0, .slice none 0 0, .int .i64 0] 28 (w.heap.size + 2) 11 (by simp) (by decide))
 clear RG0 RG1 RG2
 have HL := hid (tlbs_le hv.tlbs)
 have HD := hid (taken_any 47 V p (rkP p a) a (w.heap.size + 1) (((w.alloc (.cells (arr11 V) 28)).alloc (.cells #[.int .i64 a] 3)).alloc (.cells #[.slice none 0 0, .slice none 0 0, .slice none 0 0, .slice none 0 0, .slice none 0 0, .slice none 0 0, .slice none 0 0, .slice none 0 0, .slice none 0 0, .slice none 0 0, .int .i64 0] 28)) (hv.below B0.out) hp y1 (rk_ok hp HL.out a).2 (fun h c1 c2 => revoke_deed c1 c2 _ a p hp HL.out h))
 generalize dE p (hasE p a) = de at HD ⊢
 generalize dP p (rkP p a) (hasE p a) = dp at HD ⊢
 clear hv hp HL y1
 go_enter Tryz.func19, Tryz.ntmps19
 go_wp2_with (first | ((with_reducible (show wpList _ _ _ (⟨_, Op.load 28 _, _, _, _, _⟩ :: _) _ _)); refine wp_ldWg (by rfl) _ rfl _ rfl V RG.out ?_))
 generalize World.alloc _ _ = W0 at *
 refine HD.out.mono ?_
 rintro q w1 ⟨X, rfl, hF, hb⟩
 have T1 := hid (there_belowO TR.out hb)
 have one := hid (world_one hF.v0)
 have RX := hid (World.rangeAt_setCells_same w1 (w.heap.size + 2) 0 (arr11 X).toList T1.out)
 have BX := hid (below_setCells (btr B0.out hb) (show w.heap.size ≤ w.heap.size + 2 by omega) (arr11 X).toList 0)
 have WX := hid ((hF.put (w.heap.size + 2) 0 (arr11 X).toList (by rw [SZ.out]; omega)).mono (show w.heap.size ≤ _ by rw [SZ.out]; omega))
 clear hF hb HD
 go_wp2_with (first | ((with_reducible (show wpList _ _ _ (⟨_, Op.store 28 _ _, _, _, _, _⟩ :: _) _ _)); refine wpList_store_mid rfl 28 _ _ rfl (w.heap.size + 2) 0 (arr11 X) rfl rfl T1.out infoW one.out ?_))
 exact bodyPost_ret (v := .tuple #[.agg (arr11 X), eV de]) (results_d2 rfl rfl (run_loadVar_mid _ (w.heap.size + 2) 0 28 (arr11 X).toList _ RX.out Tryz.underlying28 rfl infoW) rfl) rfl ⟨X, rfl, WX.out, BX.out⟩
theorem intsNil (w : World) : IntsIn w (.slice none 0 0) [] := ⟨none, 0, 0, 0, rfl, fun h => absurd h (Nat.not_lt_zero _), fun _ hj => absurd hj (Nat.not_lt_zero _)⟩
/-- What Under tells. -/
def unL (p : PW) (a : Int) : List Int := if sndB p = true ∧ hasE p a = 0 then mdL p.slots a.toNat p.slots.length else []
set_option maxRecDepth 100000 in
set_option maxHeartbeats 4000000 in
theorem treeUnder_any (V : Nat → Value) (p : PW) (a : Int) (w : World) (hv : WorldV w V p) (hp : p.Fits) :
  Calls Tryz.prog 24 #[.agg (arr11 V), .int .i64 a] w fun x w' => ∃ v, x = .returned (.tuple #[v, eV (dE p (hasE p a))]) ∧ IntsIn w' v (unL p a) ∧ Below w.heap.size w w' := by
 have RGc := hid (boxed w V 28)
 have B0 := hid (bal (Below.refl w.heap.size w) (.cells (arr11 V) 28))
 have HC := hid (check_any V p (w.alloc (.cells (arr11 V) 28)) (hv.below B0.out) hp)
 have HVW := hid (fun W (hb : Below (w.alloc (.cells (arr11 V) 28)).heap.size (w.alloc (.cells (arr11 V) 28)) W) => (⟨range_below RGc.out hb, hv.below (btr B0.out hb), hp⟩ : ViewAt W w.heap.size V p))
 have hl : (p.slots.length : Int) ≤ 1000 := by have := hp.slots; omega
 cases hs : sndB p with
 | false =>
  have HN := hid (show unL p a = [] ∧ dE p (hasE p a) = 8 by unfold unL dE; rw [hs]; exact ⟨if_neg (fun h => by cases h.1), rfl⟩)
  have HS := hid hs
  clear hv hp hs HVW
  go_enter Tryz.func24, Tryz.ntmps24
  go_wp2_with (first | ((with_reducible (show wpList _ _ _ (⟨_, Op.load 28 _, _, _, _, _⟩ :: _) _ _)); refine wp_ldWg (by rfl) _ rfl _ rfl V RGc.out ?_))
  refine HC.out.mono ?_
  rintro r w1 ⟨x, rfl, hc, hb⟩
  have BB := hid (btr B0.out hb)
  have HX := hid (chk_not3 hc HS.out)
  clear hb hc HC RGc
  rcases HX.out with ⟨e, rfl⟩ | ⟨b, rfl⟩
  ·clear HX
   go_wp2_with fail
   go_ret2
   exact ⟨.slice none 0 0, by rw [HN.out.2]; rfl, by rw [HN.out.1]; exact intsNil _, BB.out⟩
  ·clear HX
   go_wp2_with fail
   go_ret2
   exact ⟨.slice none 0 0, by rw [HN.out.2]; rfl, by rw [HN.out.1]; exact intsNil _, BB.out⟩
 | true =>
 have HS := hid (snd_of hs)
 have HSB := hid hs
 have HN := hid (show dE p (hasE p a) = hasE p a by unfold dE; rw [hs]; rfl)
 clear hv hp hs
 by_cases hb : hasE p a = 0
 rotate_left
 ·have HUL := hid (show unL p a = [] from if_neg fun h => hb h.2)
  have HE := hid (eV_n hb)
  have HB := hid (fun W h => full_any w.heap.size V p a W h)
  rw [HE.out] at HB
  obtain ⟨e, he⟩ : ∃ e, hasE p a = e := ⟨_, rfl⟩
  have HD := hid (show dE p (hasE p a) = e from HN.out.trans he)
  rw [he] at HB HE hb
  clear he HN
  go_enter Tryz.func24, Tryz.ntmps24
  go_wp2_with (first | ((with_reducible (show wpList _ _ _ (⟨_, Op.load 28 _, _, _, _, _⟩ :: _) _ _)); refine wp_ldWg (by rfl) _ rfl _ rfl V RGc.out ?_))
  refine HC.out.mono ?_
  rintro r w1 ⟨x, rfl, hc, hb1⟩
  have BB := hid (btr B0.out hb1)
  obtain rfl := chk_nil hc HSB.out
  have HVV := hid (HVW.out w1 hb1)
  clear hb1 hc HC RGc HVW
  clear hb
  go_wp2_with fail
  refine (HB.out w1 HVV.out).mono ?_
  rintro r w2 ⟨rfl, rfl⟩
  go_wp2_with fail
  go_ret2
  exact ⟨.slice none 0 0, by rw [HD.out, HE.out]; rfl, by rw [HUL.out]; exact intsNil _, BB.out⟩
 obtain ⟨t, rfl, ht, -⟩ := has_inD hb
 obtain ⟨r, hu⟩ := snd_up HS.out
 have HUL := hid (show unL p t = mdL p.slots t p.slots.length by unfold unL; rw [if_pos ⟨HSB.out, hb⟩, Int.toNat_natCast])
 have HB := hid (fun W h => full_any w.heap.size V p t W h)
 rw [hb, eV_0] at HB
 have HHB := hid hb
 have HU := hid hu
 clear hb hu ht
 go_enter Tryz.func24, Tryz.ntmps24
 go_wp2_with (first | ((with_reducible (show wpList _ _ _ (⟨_, Op.load 28 _, _, _, _, _⟩ :: _) _ _)); refine wp_ldWg (by rfl) _ rfl _ rfl V RGc.out ?_))
 refine HC.out.mono ?_
 rintro r w1 ⟨x, rfl, hc, hb⟩
 have BB := hid (btr B0.out hb)
 obtain rfl := chk_nil hc HSB.out
 have HVV := hid (HVW.out w1 hb)
 clear hb hc HC RGc HVW B0
 go_wp2_with fail
 refine (HB.out w1 HVV.out).mono ?_
 rintro r2 w2 ⟨rfl, rfl⟩
 clear HB
 have c2 : w1.cell? ⟨w.heap.size, 2, none⟩ = some (V 2) := range_cell HVV.out.r rfl
 obtain ⟨q, b, off, cap, e2, -, -⟩ := HVV.out.v.slots
 go_wp2_with fail
 clear c2 e2
 go_loopw [7, 21] (fun u i wr => ∃ (k : Nat) (qu : Option Addr) (cu : Nat), k ≤ p.slots.length ∧ i = .int .i64 k ∧ u = .slice qu (mdL p.slots t k).length cu ∧ Hid (wr.ownsRow w1.heap.size 3 1 (.slice qu (mdL p.slots t k).length cu) (mdL p.slots t k).length (ints (mdL p.slots t k))) ∧ Hid (Below w1.heap.size w1 wr)) (fun _ i _ => p.slots.length - (intOf i).toNat)
 case atStart => exact ⟨0, none, 0, by omega, rfl, rfl, hid (World.ownsRow_nil _ _ _ _), hid (Below.refl _ _)⟩
 case round =>
  obtain ⟨k, qu, cu, hk, rfl, rfl, HO, HBL⟩ := hrel
  by_cases hlt : k < p.slots.length
  ·have hlt2 : (k : Int) < (p.slots.length : Int) := by omega
   have HLN := hid (show (mdL p.slots t k).length ≤ 1000 from Nat.le_trans (md_len _ _ _) (by omega))
   have HSC := hid (mdL_succ p.slots t k)
   have HCU := hid (isUnder_any w.heap.size V p k t wr (HVV.out.below HBL.out) HU.out hlt)
   generalize mdL p.slots t k = zs at HO HLN HSC ⊢
   go_wp2_with fail
   refine HCU.out.mono ?_
   rintro x w3 ⟨rfl, rfl⟩
   clear HCU
   cases e : unB p.slots t k with
   | false =>
    rw [e, if_neg (by decide), List.append_nil] at HSC
    clear e
    go_wp2_with fail
    refine ⟨⟨k + 1, qu, cu, by omega, by go_num, by rw [HSC.out], hid (by rw [HSC.out]; exact HO.out), HBL⟩, by simp [intOf]; omega⟩
   | true =>
    rw [e, if_pos rfl] at HSC
    obtain ⟨q', c', w', hr, h2, h3⟩ := app_md (y := (k : Int)) HBL.out HLN.out HO.out
    have HR := hid hr
    have HNN := hid h2
    have HBB := hid h3
    clear hr h2 h3 e
    go_wp2_with (first | (at_builtin; refine wpList_app rfl _ _ 22 rfl (.slice qu zs.length cu) (.slice (some ⟨wr.heap.size, 0, none⟩) 1 1) (.slice q' (zs.length + 1) c') rfl rfl HR.out ?_))
    exact ⟨⟨k + 1, q', c', by omega, by go_num, by rw [HSC.out, List.length_append]; rfl, hid (by rw [HSC.out]; have := HNN.out; rw [List.length_append] at this ⊢; exact this), HBB⟩, by simp [intOf]; omega⟩
  ·obtain rfl : k = p.slots.length := by omega
   have hge : ¬ ((p.slots.length : Int) < (p.slots.length : Int)) := by omega
   go_wp2_with fail
   go_ret2
   exact ⟨_, by rw [HN.out, HHB.out]; rfl, by rw [HUL.out]; exact own_ints HO.out, btr BB.out HBL.out⟩
set_option maxRecDepth 100000 in
set_option maxHeartbeats 8000000 in
theorem treeRevokes_any (V : Nat → Value) (p : PW) (a : Int) (w : World) (hv : WorldR w V p) (hg : ETok w) :
  Calls Tryz.prog 6 #[.agg (arr11 V), .int .i64 a] w fun x w' => x = .returned (.bool true) ∧ Below w.heap.size w w' := by
 have RG0 := boxed w V 28
 have RG1 := range_below RG0 (bal (Below.refl _ (w.alloc (.cells (arr11 V) 28))) (.cells #[.int .i64 a] 3))
 have RG := hid RG1
 have B0 := hid (bal (bal (Below.refl w.heap.size w) (.cells (arr11 V) 28)) (.cells #[.int .i64 a] 3))
 have y1 := (cells_at (w.alloc (.cells (arr11 V) 28)) #[.int .i64 a] 3 (w.heap.size + 1) (by simp)) 0
 have HC := hid (show Caps [((w.heap.size + 1), .int .i64 a)] ((w.alloc (.cells (arr11 V) 28)).alloc (.cells #[.int .i64 a] 3)) from fun x hx => by
  simp only [List.mem_cons, List.not_mem_nil, or_false] at hx
  subst hx
  exact y1)
 have SZ := hid (show ((w.alloc (.cells (arr11 V) 28)).alloc (.cells #[.int .i64 a] 3)).heap.size = w.heap.size + 2 by simp)
 clear RG0 RG1
 have HH := hid (hugeWorld_any V p ((w.alloc (.cells (arr11 V) 28)).alloc (.cells #[.int .i64 a] 3)) (hv.below B0.out))
 by_cases hs : Small p
 rotate_left
 ·rw [huge_t hs] at HH
  clear hv hg hs
  go_enter Tryz.func6, Tryz.ntmps6
  go_wp2_with (first | ((with_reducible (show wpList _ _ _ (⟨_, Op.load 28 _, _, _, _, _⟩ :: _) _ _)); refine wp_ldWg (by rfl) _ rfl _ rfl V RG.out ?_))
  refine HH.out.mono ?_
  rintro q w1 ⟨rfl, hb⟩
  have BB := hid (btr B0.out hb)
  clear hb
  go_wp2_with fail
  go_ret
  exact ⟨rfl, BB.out⟩
 rw [huge_f hs] at HH
 obtain ⟨hw, hp⟩ := small_world hv hs
 have HP := hid hp
 have HV := hid hw
 have HG := hid hg
 have HL := hid (tlbs_le hw.tlbs)
 have HSM := hid hs
 clear hv hg hs hw hp y1
 go_enter Tryz.func6, Tryz.ntmps6
 go_wp2_with (first | ((with_reducible (show wpList _ _ _ (⟨_, Op.load 28 _, _, _, _, _⟩ :: _) _ _)); refine wp_ldWg (by rfl) _ rfl _ rfl V RG.out ?_))
 generalize World.alloc _ _ = W0 at *
 refine HH.out.mono ?_
 rintro q w1 ⟨rfl, hb⟩
 have BW := hid (btr B0.out hb)
 have RW := hid (range_below RG.out hb)
 have CW := hid (HC.out.below hb)
 clear hb HH RG HC B0 SZ
 have z1 := CW.out ((w.heap.size + 1), .int .i64 a) (by simp)
 go_wp2_with (first | ((with_reducible (show wpList _ _ _ (⟨_, Op.load 28 _, _, _, _, _⟩ :: _) _ _)); refine wp_ldWg (by rfl) _ rfl _ rfl V RW.out ?_))
 refine (treeRevoke_any V p a w1 (HV.out.below BW.out) HP.out).mono ?_
 rintro q u1 ⟨X1, rfl, hF, hb⟩
 have hX := hF.v0
 have TN := hid (there_new u1 #[.slice none 0 0, .slice none 0 0, .slice none 0 0, .slice none 0 0, .slice none 0 0, .slice none 0 0, .slice none 0 0, .slice none 0 0, .slice none 0 0, .slice none 0 0, .int .i64 0] 28 u1.heap.size 11 rfl (by decide))
 have one := hid (world_one hX)
 have D3 := hid (show Below u1.heap.size u1 ((u1.alloc (.cells #[.slice none 0 0, .slice none 0 0, .slice none 0 0, .slice none 0 0, .slice none 0 0, .slice none 0 0, .slice none 0 0, .slice none 0 0, .slice none 0 0, .slice none 0 0, .int .i64 0] 28)).setCells u1.heap.size 0 (arr11 X1).toList) from below_setCells (bal (Below.refl _ u1) (.cells #[.slice none 0 0, .slice none 0 0, .slice none 0 0, .slice none 0 0, .slice none 0 0, .slice none 0 0, .slice none 0 0, .slice none 0 0, .slice none 0 0, .slice none 0 0, .int .i64 0] 28)) (Nat.le_refl _) _ 0)
 have D5 := hid (btr hb D3.out)
 have RX1 := hid (World.rangeAt_setCells_same (u1.alloc (.cells #[.slice none 0 0, .slice none 0 0, .slice none 0 0, .slice none 0 0, .slice none 0 0, .slice none 0 0, .slice none 0 0, .slice none 0 0, .slice none 0 0, .slice none 0 0, .int .i64 0] 28)) u1.heap.size 0 (arr11 X1).toList TN.out)
 have WX1 := hid (hX.below D3.out)
 replace RW := hid (range_below RW.out D5.out)
 replace CW := hid (CW.out.below D5.out)
 replace BW := hid (btr BW.out D5.out)
 clear hX hF hb D5 z1
 go_upto_region 4 with (first | ((with_reducible (show wpList _ _ _ (⟨_, Op.store 28 _ _, _, _, _, _⟩ :: _) _ _)); refine wpList_store_mid rfl 28 _ _ rfl u1.heap.size 0 (arr11 X1) rfl rfl TN.out infoW one.out ?_))
 generalize World.setCells _ _ _ _ = W1 at *
 generalize u1.heap.size = xb1 at RX1 ⊢
 clear TN one D3
 have BD : Hid (Below W1.heap.size W1 W1.drew) := hid (below_drew W1 1)
 have KS := hid (show ∀ Y, Below W1.heap.size W1 Y → Y.rangeAt xb1 0 (arr11 X1).toList ∧ Y.rangeAt w.heap.size 0 (arr11 V).toList from fun Y h => ⟨range_below RX1.out h, range_below RW.out h⟩)
 have HSO := hid (fun Y (h : Below W1.heap.size W1 Y) => sound_law V p Y (HV.out.below (btr BW.out h)) HP.out)
 have HDI := hid (fun Y (h : Below W1.heap.size W1 Y) => did_any 20 #[ptr (w.heap.size + 1)] (Caps [((w.heap.size + 1), .int .i64 a)]) V X1 p (rkP p a) (hasE p a) Y (HV.out.below (btr BW.out h)) HP.out ((rk_ok HP.out HL.out a).1) (WX1.out.below h) cf_r2 (fun Z hz => CW.out.below (btr h hz)) (fun h => (revokeRef_deed _ a p HP.out HL.out h).caps (rk_ok HP.out HL.out a).2) (HG.out.below (btr BW.out h)))
 unfold ptr at HDI
 generalize eV (dE p (hasE p a)) = ev at HDI ⊢
 generalize sndE p = se at HSO HDI
 refine wp_region_held_drew (S := fun Y => Y.rangeAt xb1 0 (arr11 X1).toList ∧ Y.rangeAt w.heap.size 0 (arr11 V).toList) (by kernel_rfl) (KS.out _ BD.out) (fun hH0 => ?_)
 have hH := hid hH0
 clear hH0
 refine Mem.tg 0 (.agg (arr11 X1)) rfl (yieldsIf_load_mid (by rfl) _ _ rfl _ _ rfl ((arr11 X1).toList) _ (fun _ h => h.1) Tryz.underlying28 rfl infoW) hH.out ?_
 simp only [jj]
 refine tk 1 ev rfl hH.out ?_
 simp only [jj]
 refine Mem.tg 2 (.agg (arr11 V)) rfl (yieldsIf_load_mid (by rfl) _ _ rfl _ _ rfl ((arr11 V).toList) _ (fun _ h => h.2) Tryz.underlying28 rfl infoW) hH.out ?_
 simp only [jj]
 refine Mem.tg 3 (.agg (arr11 V)) rfl (yieldsIf_load_mid (by rfl) _ _ rfl _ _ rfl ((arr11 V).toList) _ (fun _ h => h.2) Tryz.underlying28 rfl infoW) hH.out ?_
 simp only [jj]
 refine tk 5 (.func (.func 20) #[] #[.pointer (some ⟨w.heap.size + 1, 0, none⟩)]) rfl hH.out ?_
 simp only [jj]
 refine wpAnyH_ready (rs := [4]) (by kernel_rfl) (by simp) (AllReadyH.cons rfl (fun K hK => ?_) AllReadyH.nil)
 go_simp
 refine (HSO.out _ BD.out).mono ?_
 rintro q w4 ⟨rfl, hb⟩
 have A4 := hid (btr BD.out hb)
 clear hb
 go_wp2_with fail
 refine hK.out _ _ (KS.out _ A4.out) (fun hH0 => ?_)
 have hH2 := hid hH0
 clear hK K hH0
 try simp only [Act.put, jD, jE, jF]
 refine wpAnyH_ready (rs := [6]) (by kernel_rfl) (by simp) (AllReadyH.cons rfl (fun K hK => ?_) AllReadyH.nil)
 go_simp
 refine (HDI.out _ A4.out).mono ?_
 rintro q v1 ⟨rfl, hb⟩
 have A5 := hid (btr A4.out hb)
 clear hb
 go_wp2_with fail
 refine hK.out _ _ (KS.out _ A5.out) (fun hH0 => ?_)
 have hH3 := hid hH0
 clear hK K hH0
 try simp only [Act.put, jD, jE, jF]
 refine tk 7 (.bool false) rfl hH3.out ?_
 simp only [jj]
 refine wpAnyH_done (by kernel_rfl) ?_ _
 clear hH hH2 hH3 KS HSO HDI BD A4
 replace RW := hid (range_below RW.out A5.out)
 replace CW := hid (CW.out.below A5.out)
 replace BW := hid (btr BW.out A5.out)
 clear A5
 go_wp2_with (first | ((with_reducible (show wpList _ _ _ (⟨_, Op.load 28 _, _, _, _, _⟩ :: _) _ _)); refine wp_ldWg (by rfl) _ rfl _ rfl V RW.out ?_))
 refine (sound_law V p _ (HV.out.below BW.out) HP.out).mono ?_
 rintro r2 x2 ⟨rfl, hb⟩
 have A2 := hid (btr BW.out hb)
 replace RW := hid (range_below RW.out hb)
 replace CW := hid (CW.out.below hb)
 have X2B := hid (show w.heap.size + 1 < x2.heap.size from World.block_lt_of_cell? x2 ⟨w.heap.size + 1, 0, none⟩ (CW.out (w.heap.size + 1, .int .i64 a) (by simp)))
 clear hb
 have z1 := CW.out (w.heap.size + 1, .int .i64 a) (by simp)
 have HUL := hid (show (unL p a).length ≤ 1000 by
  unfold unL
  split
  ·exact Nat.le_trans (md_len _ _ _) HP.out.slots
  ·exact Nat.zero_le _)
 cases hs : sndB p with
 | false =>
  rw [show sndE p = 8 by unfold sndE; rw [hs]; rfl]
  have EQ := hid (show dE p (hasE p a) = 8 by unfold dE; rw [hs]; rfl)
  have HW := hid (show IntsIn x2 (.slice none 0 0) (unL p a) by unfold unL; rw [if_neg (fun h => by rw [hs] at h; cases h.1)]; exact intsNil _)
  clear hs z1
  have h8 : ((8 : Int) == 0) = false := rfl
  generalize (8 : Int) = e at *
  have z1 := CW.out (w.heap.size + 1, .int .i64 a) (by simp)
  have HUN := hid (treeUnder_any V p a x2 (HV.out.below A2.out) HP.out)
  rw [EQ.out] at HUN
  clear EQ
  go_wp2_with (first | ((with_reducible (show wpList _ _ _ (⟨_, Op.load 28 _, _, _, _, _⟩ :: _) _ _)); refine wp_ldWg (by rfl) _ rfl _ rfl V RW.out ?_))
  refine HUN.out.mono ?_
  rintro r9 x9 ⟨v9, rfl, hv9, hb⟩
  have A9 := hid (btr A2.out hb)
  have I9 := hid hv9
  have J9 := hid (HW.out.below hb)
  clear hb hv9 z1 HUN HW
  have EE := hid (fun W => err_any e W)
  have IE := hid (fun W (hb : Below w.heap.size w W) => is_yes (eV e) e (-1) W (HG.out.below hb) (eV_tells e))
  generalize eV e = ve at IE ⊢
  go_wp2_with fail
  refine (EE.out _).mono ?_
  rintro r10 x10 ⟨rfl, h10⟩
  have A10 := hid (btr A9.out h10)
  have I10 := hid (I9.out.below h10)
  have J10 := hid (J9.out.below h10)
  clear h10
  go_wp2_with fail
  refine (IE.out _ A10.out).mono ?_
  rintro r11 x11 ⟨rfl, h11⟩
  have A11 := hid (btr A10.out h11)
  have I11 := hid (I10.out.below h11)
  have J11 := hid (J10.out.below h11)
  clear h11
  go_wp2_with fail
  refine (same_in v9 (.slice none 0 0) (unL p a) x11 I11.out J11.out HUL.out).mono ?_
  rintro r12 x12 ⟨rfl, h12⟩
  have A12 := hid (btr A11.out h12)
  clear h12
  go_wp2_with fail
  go_ret
  exact ⟨rfl, A12.out⟩
 | true =>
  have HSS := hid (snd_of hs)
  rw [show sndE p = 0 by unfold sndE; rw [hs]; rfl]
  have EQ := hid (show dE p (hasE p a) = hasE p a by unfold dE; rw [hs]; rfl)
  have HSB := hid hs
  clear hs
  go_wp2_with (first | ((with_reducible (show wpList _ _ _ (⟨_, Op.load 28 _, _, _, _, _⟩ :: _) _ _)); refine wp_ldWg (by rfl) _ rfl _ rfl V RW.out ?_))
  refine (copy_ref V p x2 (HV.out.below A2.out) HP.out).mono ?_
  rintro r3 x3 ⟨U, L, rfl, hO, hL0, hL1, hb⟩
  have TN := hid (there_new x3 #[.slice none 0 0, .slice none 0 0, .slice none 0 0, .slice none 0 0, .slice none 0 0, .slice none 0 0, .slice none 0 0, .slice none 0 0, .slice none 0 0, .slice none 0 0, .int .i64 0] 28 x3.heap.size 11 rfl (by decide))
  have A3 := hid (btr A2.out hb)
  have one := hid (world_one (hO.v HL.out))
  have BO := hid (show BoxO ((x3.alloc (.cells #[.slice none 0 0, .slice none 0 0, .slice none 0 0, .slice none 0 0, .slice none 0 0, .slice none 0 0, .slice none 0 0, .slice none 0 0, .slice none 0 0, .slice none 0 0, .int .i64 0] 28)).setCells x3.heap.size 0 (arr11 U).toList) x3.heap.size L U p from
   ⟨World.rangeAt_setCells_same _ x3.heap.size 0 (arr11 U).toList TN.out, there_sets _ 0 _ TN.out, worldO_over (hO.below (bal (Below.refl _ x3) (.cells #[.slice none 0 0, .slice none 0 0, .slice none 0 0, .slice none 0 0, .slice none 0 0, .slice none 0 0, .slice none 0 0, .slice none 0 0, .slice none 0 0, .slice none 0 0, .int .i64 0] 28))) hL1 _ 0, hL1, by rw [setCells_size]; simp⟩)
  have D4 := hid (show Below x3.heap.size x3 ((x3.alloc (.cells #[.slice none 0 0, .slice none 0 0, .slice none 0 0, .slice none 0 0, .slice none 0 0, .slice none 0 0, .slice none 0 0, .slice none 0 0, .slice none 0 0, .slice none 0 0, .int .i64 0] 28)).setCells x3.heap.size 0 (arr11 U).toList) from below_setCells (bal (Below.refl _ x3) (.cells #[.slice none 0 0, .slice none 0 0, .slice none 0 0, .slice none 0 0, .slice none 0 0, .slice none 0 0, .slice none 0 0, .slice none 0 0, .slice none 0 0, .slice none 0 0, .int .i64 0] 28)) (Nat.le_refl _) _ 0)
  have A4 := hid (btr A3.out D4.out)
  have L2 := hid (show x2.heap.size ≤ L 0 from hL0)
  replace RW := hid (range_below (range_below RW.out hb) D4.out)
  replace CW := hid ((CW.out.below hb).below D4.out)
  clear hb hO hL0 hL1 D4 z1
  have z1 := CW.out (w.heap.size + 1, .int .i64 a) (by simp)
  go_wp2_with (first | ((with_reducible (show wpList _ _ _ (⟨_, Op.store 28 _ _, _, _, _, _⟩ :: _) _ _)); refine wpList_store_mid rfl 28 _ _ rfl x3.heap.size 0 (arr11 U) rfl rfl TN.out infoW one.out ?_))
  generalize World.setCells _ _ _ _ = W4 at *
  generalize x3.heap.size = xb at *
  obtain ⟨tag, bt, h0⟩ := BO.out.tagged
  refine (revokeKey_any a p HP.out HL.out HSS.out W4 xb tag U bt).mono ?_
  rintro r5 x5 ⟨rfl, tag', hk, -⟩
  have A5 := hid (show Below w.heap.size w x5 from hk.k.below A4.out A4.out.size fun k hk2 e => e (h0 k (Nat.lt_of_lt_of_le hk2 (Nat.le_trans A2.out.size L2.out))))
  have D5 := hid (show ∀ (b o : Nat) (v : Value), b < x2.heap.size → W4.cell? ⟨b, o, none⟩ = some v → x5.cell? ⟨b, o, none⟩ = some v from fun b o v hb hc => hk.cell hc (h0 b (Nat.lt_of_lt_of_le hb L2.out)))
  replace CW := hid (show Caps [((w.heap.size + 1), .int .i64 a)] x5 from fun y hy => by
   have h1 := CW.out y hy
   simp only [List.mem_cons, List.not_mem_nil, or_false] at hy
   subst hy
   exact D5.out _ _ _ X2B.out h1)
  replace RW := hid (show x5.rangeAt w.heap.size 0 (arr11 V).toList from fun o v hv => D5.out _ _ _ (Nat.lt_of_succ_lt X2B.out) (RW.out o v hv))
  clear hk h0 bt BO TN one z1 D5 tag'
  have z1 := CW.out (w.heap.size + 1, .int .i64 a) (by simp)
  by_cases hb : hasE p a = 0
  rotate_left
  ·have hbb : (hasE p a == 0) = false := beq_eq_false_iff_ne.2 hb
   have HW := hid (show IntsIn x5 (.slice none 0 0) (unL p a) by unfold unL; rw [if_neg (fun h => hb h.2)]; exact intsNil _)
   obtain ⟨e, he⟩ : ∃ e, hasE p a = e := ⟨_, rfl⟩
   replace EQ := hid (EQ.out.trans he)
   rw [he] at hbb ⊢
   clear he hb z1
   have z1 := CW.out (w.heap.size + 1, .int .i64 a) (by simp)
   have HUN := hid (treeUnder_any V p a x5 (HV.out.below A5.out) HP.out)
   rw [EQ.out] at HUN
   clear EQ
   go_wp2_with (first | ((with_reducible (show wpList _ _ _ (⟨_, Op.load 28 _, _, _, _, _⟩ :: _) _ _)); refine wp_ldWg (by rfl) _ rfl _ rfl V RW.out ?_))
   refine HUN.out.mono ?_
   rintro r9 x9 ⟨v9, rfl, hv9, hb⟩
   have A9 := hid (btr A5.out hb)
   have I9 := hid hv9
   have J9 := hid (HW.out.below hb)
   clear hb hv9 z1 HUN HW
   have EE := hid (fun W => err_any e W)
   have IE := hid (fun W (hb : Below w.heap.size w W) => is_yes (eV e) e (-1) W (HG.out.below hb) (eV_tells e))
   generalize eV e = ve at IE ⊢
   go_wp2_with fail
   refine (EE.out _).mono ?_
   rintro r10 x10 ⟨rfl, h10⟩
   have A10 := hid (btr A9.out h10)
   have I10 := hid (I9.out.below h10)
   have J10 := hid (J9.out.below h10)
   clear h10
   go_wp2_with fail
   refine (IE.out _ A10.out).mono ?_
   rintro r11 x11 ⟨rfl, h11⟩
   have A11 := hid (btr A10.out h11)
   have I11 := hid (I10.out.below h11)
   have J11 := hid (J10.out.below h11)
   clear h11
   go_wp2_with fail
   refine (same_in v9 (.slice none 0 0) (unL p a) x11 I11.out J11.out HUL.out).mono ?_
   rintro r12 x12 ⟨rfl, h12⟩
   have A12 := hid (btr A11.out h12)
   clear h12
   go_wp2_with fail
   go_ret
   exact ⟨rfl, A12.out⟩
  obtain ⟨t, rfl, ht, -⟩ := has_inD hb
  obtain ⟨r, hu⟩ := snd_up HSS.out
  have HMM := hid (made_ref w.heap.size V p t x5 ⟨RW.out, HV.out.below A5.out, HP.out⟩ hu)
  have EUL := hid (show unL p t = mdL p.slots t p.slots.length by unfold unL; rw [if_pos ⟨HSB.out, hb⟩, Int.toNat_natCast])
  rw [← EUL.out] at HMM
  replace EQ := hid (EQ.out.trans hb)
  rw [hb]
  clear hb ht hu EUL
  go_wp2_with fail
  refine HMM.out.mono ?_
  rintro r6 x6 ⟨v6, rfl, hv6, hb⟩
  have A6 := hid (btr A5.out hb)
  have HW := hid hv6
  replace RW := hid (range_below RW.out hb)
  replace CW := hid (CW.out.below hb)
  clear hb hv6 z1 HMM
  have z1 := CW.out (w.heap.size + 1, .int .i64 (t : Int)) (by simp)
  have HUN := hid (treeUnder_any V p (t : Int) x6 (HV.out.below A6.out) HP.out)
  rw [EQ.out] at HUN
  clear EQ
  go_wp2_with (first | ((with_reducible (show wpList _ _ _ (⟨_, Op.load 28 _, _, _, _, _⟩ :: _) _ _)); refine wp_ldWg (by rfl) _ rfl _ rfl V RW.out ?_))
  refine HUN.out.mono ?_
  rintro r9 x9 ⟨v9, rfl, hv9, hb⟩
  have A9 := hid (btr A6.out hb)
  have I9 := hid hv9
  have J9 := hid (HW.out.below hb)
  clear hb hv9 z1 HUN HW
  have EE := hid (fun W => err_any 0 W)
  have IE := hid (fun W (hb : Below w.heap.size w W) => is_yes (eV 0) 0 (-1) W (HG.out.below hb) (eV_tells 0))
  generalize eV 0 = ve at IE ⊢
  go_wp2_with fail
  refine (EE.out _).mono ?_
  rintro r10 x10 ⟨rfl, h10⟩
  have A10 := hid (btr A9.out h10)
  have I10 := hid (I9.out.below h10)
  have J10 := hid (J9.out.below h10)
  clear h10
  go_wp2_with fail
  refine (IE.out _ A10.out).mono ?_
  rintro r11 x11 ⟨rfl, h11⟩
  have A11 := hid (btr A10.out h11)
  have I11 := hid (I10.out.below h11)
  have J11 := hid (J10.out.below h11)
  clear h11
  go_wp2_with fail
  refine (same_in v9 v6 (unL p (t : Int)) x11 I11.out J11.out HUL.out).mono ?_
  rintro r12 x12 ⟨rfl, h12⟩
  have A12 := hid (btr A11.out h12)
  clear h12
  go_wp2_with fail
  go_ret
  exact ⟨rfl, A12.out⟩
end Go.Proofs.YtoebmjgkfkfhjaaGreatDoor.Wd
namespace Go.Proofs.YtoebmjgkfkfhjaaGreatDoor
open Go.ChangeShapes Go.WideShapes Go.RowKit
theorem treeRevokes_met (os : Os) (args : Array Value) : laidMetH Tryz.prog Rows.treeRevokesRow.laid (({ World.holding Tryz.prog os ⟨#[], #[], []⟩ with heap := (World.holding Tryz.prog os ⟨#[], #[], []⟩).heap.modify 0 fun | .cells _ t frozen => .cells #[.iface 167 (.agg #[.pointer (some ⟨1, 31, none⟩)])] t frozen | o => o } : World).forCall (fun _ _ => 0) ⟨#[], args, []⟩).memory :=
 laidMetH_of_parts (laidMet_nil _ _) (by kernel_rfl)
set_option maxRecDepth 100000 in
theorem treeRevokes_lifted (os : Os) (started : os.Started) (H : Type) (enc : TypeId × Value → H) :
  ReturnsInHanded {} Tryz.checked os 6 .any (fun w args => (Rows.treeRevokesSpec.pre enc Tryz.prog Tryz.f6 [] false w args ∧ laidMetH Tryz.prog Rows.treeRevokesRow.laid w) ∧ sizedMet enc Tryz.prog Tryz.f6 (OpenSpec.ofChange Rows.treeRevokesSpec) false w args)
   (Rows.treeRevokesSpec.post enc Tryz.prog Tryz.f6 false true false false) := by
 refine returnsInHanded_of_change_and (C := Tryz.checked) (X := fun w _ => laidMetH Tryz.prog Rows.treeRevokesRow.laid w) (fun _ _ _ hh h => h.of_heap hh) own started (by kernel_rfl) Tryz.func6
  (ChangeSpec.witness_at (enc := enc) (C := Tryz.checked) (os := os) (X := fun w _ => laidMetH Tryz.prog Rows.treeRevokesRow.laid w) false ({ World.holding Tryz.prog os ⟨#[], #[], []⟩ with heap := (World.holding Tryz.prog os ⟨#[], #[], []⟩).heap.modify 0 fun | .cells _ t frozen => .cells #[.iface 167 (.agg #[.pointer (some ⟨1, 31, none⟩)])] t frozen | o => o } : World) #[.agg #[.slice none 0 0, .slice none 0 0, .slice none 0 0, .slice none 0 0, .slice none 0 0, .slice none 0 0, .slice none 0 0, .slice none 0 0, .slice none 0 0, .slice none 0 0, .int .i64 0], .int .i64 0] 8 rfl (by kernel_rfl) (by kernel_rfl) (by kernel_rfl) (by kernel_rfl) (by kernel_rfl) (treeRevokes_met os _)) ?_
 intro W base args ds gs before hval0 hW _ _ hL _
 have hval : ∀ (j : Nat) t v, Tryz.f6.params[j]? = some t → args[j]? = some v → Value.okWide Tryz.prog W .any base t v := hval0
 have hW' := hW
 obtain ⟨p, q, hA0, hV0, rfl, hfz, hnd⟩ := hW
 have hA : DataW.TrodAll enc Tryz.prog W 0 (fun _ => true) true Tryz.f6.params.toList args.toList ds p := hA0
 rw [Tryz.params6] at hA hval
 obtain ⟨v0, v1, d0, d1, p0, p1, rfl, rfl, rfl, h0, h1⟩ := trodAll_two hA
 have hL2 : laidMet Tryz.prog [] W ∧ handlesMet Tryz.prog [("errors.errorType", Rows.laid_errors_errorType)] W := hL
 have hg := handle_of hL2.2
 obtain ⟨rfl, rfl⟩ := trodVars_none hV0
 have lt0 : ∀ x ∈ p0, x.block < W.heap.size := by obtain ⟨m, hm⟩ := h0; exact DataW.trod_lt m _ _ _ hm
 have lt1 : ∀ x ∈ p1, x.block < W.heap.size := by obtain ⟨m, hm⟩ := h1; exact DataW.trod_lt m _ _ _ hm
 obtain ⟨wV, wP, rfl, hw⟩ := Wd.open_world (hval 0 28 v0 rfl rfl) h0
 obtain ⟨a, rfl, ha⟩ := val_int Tryz.underlying3 (hval 1 3 v1 rfl rfl)
 clear hA0 hval0
 refine (Wd.treeRevokes_any wV wP a W hw hg).mono fun e W' ⟨he, bel⟩ => ?_
 subst he
 exact ⟨_, rfl, _, _, _, [], _, [], hW', trodAll_mk1 (shut_bool Tryz.underlying4 true), trodAll_mk2 (Below.trod laidOut (by kernel_rfl) (of_decide_eq_true (by kernel_rfl)) h0 bel lt0) (Below.trod laidOut (by kernel_rfl) (of_decide_eq_true (by kernel_rfl)) h1 bel lt1), rfl, bel.frame _, fun h => by cases h⟩
theorem treeRevokes_row : Rows.TreeRevokesSaid :=
 OpenClaim.holds_of_wide 6 Tryz.f6 rfl rfl rfl rfl rfl rfl rfl ⟨rfl, rfl, rfl, rfl, rfl⟩ rfl rfl rfl rfl rfl (by kernel_rfl) Tryz.func6 (by kernel_rfl)
  (of_decide_eq_true (by kernel_rfl)) (by unfold Func.isWrapper; rw [if_neg (of_decide_eq_false (by kernel_rfl))]; exact ⟨rfl, rfl⟩)
  (fun os started H enc _ => treeRevokes_lifted os started H enc)
theorem treeRevokes_card : Rows.TreeRevokesCardSaid :=
 Claim7.holds_tied_plain_at .later [] [.handle] true Rows.treeRevokesCard.stood.harness true
  treeRevokes_row (fun _ h => by cases h) (by kernel_rfl) (fun _ h => by cases h) treeRevokes_row_tie rfl ⟨rfl, rfl⟩ (by kernel_rfl) rfl
  (fun f fn hf hfn => by
   obtain rfl : f = 6 := Option.some.inj ((show Tryz.prog.funcNamed "keyhold/keyholdlaw.TreeRevokes" = some 6 by kernel_rfl).symm.trans hf) |>.symm
   obtain rfl : fn = Tryz.f6 := (Option.some.inj (Tryz.func6.symm.trans hfn)).symm
   exact ⟨by kernel_rfl, fun j t ht => by
    rw [Tryz.params6] at ht
    have hj : t = 28 ∨ t = 3 := by
     match j, ht with
     | 0, ht => exact (Or.inl (by simpa using ht.symm))
     | 1, ht => exact (Or.inr (by simpa using ht.symm))
     | j + 2, ht => simp at ht
    rcases hj with rfl | rfl
    ·exact (show Tryz.prog.wantsStandIn 28 = false by kernel_rfl)
    ·exact (show Tryz.prog.wantsStandIn 3 = false by kernel_rfl)⟩)
  (by kernel_rfl)
#print axioms treeRevokes_card
end Go.Proofs.YtoebmjgkfkfhjaaGreatDoor
