/- Keys as they should be, said of slots and frames; what world.Check finds of such: nothing. · slices.IndexFunc and slices.DeleteFunc over numbers that the call owns, with deed.leave's closure; walked. · A task is taken out of all lists: deed.leave, walked; one list among lists of one's own, written. · A task leaves where it is: deed.Leave, walked. · A task may run: deed.Wake, walked. (Written by mk_wake.py.) -/
import Derived.Maps.AppendAt
import Derived.Test.YtkocmkaeaagbaaaGreatDoorQal
import Derived.Test.YtkocmkaeaagbaaaGreatDoorQaq
import Derived.Test.YtkocmkaeaagbaaaGreatDoorQao
namespace Go.Proofs.YtkocmkaeaagbaaaGreatDoor.Wd
open Go.RowKit Go.Proofs.YtkocmkaeaagbaaaGreatDoor.Mem Go.Proofs.YtkocmkaeaagbaaaGreatDoor.Bw Go.Proofs.YtkocmkaeaagbaaaGreatDoor.Nums Go.Proofs.YtkocmkaeaagbaaaGreatDoor.Mmu
abbrev PW.s (p : PW) (i : Nat) : Nat → Int := p.slots.getD i eS
abbrev PW.k (p : PW) (f : Nat) : Int := p.kinds.getD f 0
/-- How many slots have something. -/
def nfl (S : List (Nat → Int)) : Nat := S.countP fun f => f 0 != 0
/-- A key that may be, to what is there. -/
structure KeyOk (p : PW) (s : Nat → Int) : Prop where
 c : kc s = 0
 le : s 1 + s 2 ≤ (p.kinds.length : Int)
 is : s 0 = 1 ∨ isB p (s 1) (s 0) = true
/-- All keys. r: how far up each slot's way goes. -/
structure Keys (p : PW) (r : Nat → Nat) : Prop where
 em : ∀ i, p.s i 0 = 0 → (∀ k, k < 6 → p.s i k = 0) ∧ p.s i 6 = -1
 nd : ∀ i, p.s i 0 ≠ 0 → p.k (i / 16) = 5
 key : ∀ i, p.s i 0 ≠ 0 → KeyOk p (p.s i)
 up : ∀ i, p.s i 6 = -1 ∨ ∃ u : Nat, p.s i 6 = u ∧ u < p.slots.length ∧ p.s u 0 ≠ 0 ∧ cmB (p.s u) (p.s i) = true ∧ r u < r i
 rk : ∀ i, p.s i 0 ≠ 0 → r i < nfl p.slots
 one : ∀ (n : Int) i j, clI n (p.s i) = true → clI n (p.s j) = true → i = j
 op : ∀ n, p.k n ≠ 0 → ∃ i, i < p.slots.length ∧ opn n (p.s i) = true
 us : ∀ n, p.k n ≠ 0 → ∀ i, un n (p.s i) = false
 gp : ∀ i, p.s i 0 ≠ 0 → p.s i 0 ≠ 1 → p.s i 6 = -1 → ∀ c, clI (p.s i 1) (p.s c) = false
theorem s_at {p : PW} {i : Nat} (h : i < p.slots.length) : p.slots[i] = p.s i := by
 show _ = p.slots.getD i eS
 rw [List.getD_eq_getElem?_getD, List.getElem?_eq_getElem h]; rfl
theorem s_out {p : PW} {i : Nat} (h : p.slots.length ≤ i) : p.s i = eS := by
 show p.slots.getD i eS = _
 rw [List.getD_eq_getElem?_getD, List.getElem?_eq_none h]; rfl
theorem s_in {p : PW} {i : Nat} (h : p.s i 0 ≠ 0) : i < p.slots.length := by
 rcases Nat.lt_or_ge i p.slots.length with h1 | h1
 ·exact h1
 ·rw [s_out h1] at h; exact absurd rfl h
theorem k_at {p : PW} {f : Nat} (h : f < p.kinds.length) : p.kinds[f] = p.k f := by
 show _ = p.kinds.getD f 0
 rw [List.getD_eq_getElem?_getD, List.getElem?_eq_getElem h]; rfl
theorem isB_k {p : PW} {f : Nat} {k : Int} (h : f < p.kinds.length) : isB p f k = (p.k f == k) := by
 unfold isB
 rw [kindAt_some h, k_at h]
 rfl
theorem k_in {p : PW} {f : Nat} (h : p.k f ≠ 0) : f < p.kinds.length := by
 rcases Nat.lt_or_ge f p.kinds.length with h1 | h1
 ·exact h1
 ·exact absurd (show p.kinds.getD f 0 = 0 by rw [List.getD_eq_getElem?_getD, List.getElem?_eq_none h1]; rfl) h
theorem isB_nat {p : PW} {a k : Int} (h : isB p a k = true) : ∃ f : Nat, a = f ∧ f < p.kinds.length ∧ p.k f = k := by
 unfold isB kindAt at h
 split at h
 ·rename_i h0
  obtain ⟨f, rfl⟩ : ∃ f : Nat, a = f := ⟨a.toNat, by omega⟩
  rw [Int.toNat_natCast] at h
  have h2 := eq_of_beq h
  obtain ⟨h3, h4⟩ := List.getElem?_eq_some_iff.1 h2
  exact ⟨f, rfl, h3, by rw [← k_at h3]; exact h4⟩
 ·cases h
theorem nfl_le (S : List (Nat → Int)) : nfl S ≤ S.length := List.countP_le_length
theorem slotB_lt {p : PW} {u : Nat} (h : u < p.slots.length) : slotB p u = true := decide_eq_true ⟨by omega, by omega⟩
/-- The ways up end. -/
theorem Keys.ends {p : PW} {r : Nat → Nat} (h : Keys p r) : ∀ (n u : Nat), p.s u 0 ≠ 0 → r u < n → slotB p (Wd.up p n u) = false
 | 0, _, _, h0 => by omega
 | n + 1, u, hu, h0 => by
  have hl := s_in hu
  have e : (p.slots.getD ((u : Int)).toNat (fun _ => -1)) 6 = p.s u 6 := by
   rw [Int.toNat_natCast, List.getD_eq_getElem?_getD, List.getElem?_eq_getElem hl, ← s_at hl]; rfl
  rw [Wd.up, if_pos (slotB_lt hl), e]
  rcases h.up u with h1 | ⟨v, h1, _, h3, _, h5⟩
  ·rw [h1, up_no (by exact decide_eq_false (by omega))]
   exact decide_eq_false (by omega)
  ·rw [h1]
   exact h.ends n v h3 (by omega)
theorem Keys.b3 {p : PW} {r : Nat → Nat} (h : Keys p r) : ∀ k (hk : k < p.slots.length), bad3 p k p.slots[k] = false := fun k hk => by
 rw [s_at hk]
 unfold bad3 bsB
 by_cases h0 : p.s k 0 = 0
 ·obtain ⟨h1, h2⟩ := h.em k h0
  have hz : zkB (p.s k) = true := decide_eq_true ⟨h0, h1 1 (by decide), h1 2 (by decide), h1 3 (by decide), h1 4 (by decide), h1 5 (by decide)⟩
  rw [if_pos hz, h2]; rfl
 ·have hz : zkB (p.s k) = false := decide_eq_false (fun h => h0 h.1)
  obtain ⟨k1, k2, k3⟩ := h.key k h0
  have ho : opB p (p.s k) = true := by
   unfold opB
   rw [k1, decide_eq_true k2]
   rcases k3 with k3 | k3
   ·rw [k3]; rfl
   ·rw [k3]; simp
  have hd : p.kinds.getD (k / 16) 0 = 5 := h.nd k h0
  have hm : mdB p (p.s k) = true ∧ endB p (p.s k 6) = false := by
   unfold mdB endB
   rcases h.up k with h1 | ⟨u, h1, h2, h3, h4, h5⟩
   ·rw [h1, up_no (by exact decide_eq_false (by omega))]
    exact ⟨rfl, decide_eq_false (by omega)⟩
   ·have e : fromV p (p.s k) = p.s u := by
     unfold fromV
     rw [h1, Int.toNat_natCast, List.getD_eq_getElem?_getD, List.getElem?_eq_getElem h2, ← s_at h2]; rfl
    rw [e, (h.key u h3).c, h4, h1, slotB_lt h2]
    refine ⟨by simp, h.ends _ u h3 ?_⟩
    have := h.rk k h0
    have := nfl_le p.slots
    omega
  rw [if_neg (by rw [hz]; decide), hd, ho, hm.1, hm.2]; rfl
theorem sum_nil0 {α : Type} {g : α → Nat} : ∀ (l : List α), (∀ j (hj : j < l.length), g l[j] = 0) → sumOf g l = 0
 | [], _ => by simp [sumOf]
 | x :: l, h => by
  have ih := sum_nil0 l (fun j hj => h (j + 1) (by simp; omega))
  have h0 : g x = 0 := h 0 (by simp)
  unfold sumOf at ih ⊢
  simp only [List.map_cons, List.sum_cons]
  rw [ih, h0]
theorem sum_one {α : Type} {q : α → Bool} : ∀ (l : List α), (∀ i j (hi : i < l.length) (hj : j < l.length), q l[i] = true → q l[j] = true → i = j) → sumOf (fun x => if q x then 1 else 0) l ≤ 1
 | [], _ => by simp [sumOf]
 | x :: l, h => by
  have ih := sum_one l (fun i j hi hj a b => by have := h (i + 1) (j + 1) (by simp; omega) (by simp; omega) a b; omega)
  unfold sumOf at ih ⊢
  simp only [List.map_cons, List.sum_cons]
  by_cases hx : q x = true
  ·have h0 := sum_nil0 (g := fun x => if q x then 1 else 0) l (fun j hj => by
    cases hq : q l[j] with
    | false => rfl
    | true => have := h 0 (j + 1) (by simp) (by simp; omega) hx hq; omega)
   unfold sumOf at h0
   rw [if_pos hx, h0]
   exact Nat.le_refl _
  ·rw [if_neg hx]; omega
theorem Keys.b4 {p : PW} {r : Nat → Nat} (h : Keys p r) : ∀ k (hk : k < p.kinds.length), bad4 p k p.kinds[k] = false := fun k hk => by
 rw [k_at hk]
 unfold bad4 bfB
 have h1 : sumOf (cl (k : Int)) p.slots ≤ 1 := sum_one (q := clI (k : Int)) p.slots (fun i j hi hj a b => by
  rw [s_at hi] at a
  rw [s_at hj] at b
  exact h.one k i j a b)
 rw [decide_eq_false (by omega), Bool.false_or]
 by_cases h0 : p.k k = 0
 ·rw [h0]; rfl
 ·have ho : p.slots.any (opn (k : Int)) = true := by
   obtain ⟨i, hi, ho⟩ := h.op k h0
   rw [← s_at hi] at ho
   exact List.any_eq_true.2 ⟨_, List.getElem_mem hi, ho⟩
  have hu : p.slots.any (un (k : Int)) = false := by
   rw [List.any_eq_false]
   intro x hx
   obtain ⟨j, hj, rfl⟩ := List.getElem_of_mem hx
   rw [s_at hj, h.us k h0 j]
   decide
  rw [ho, hu]
  simp
end Go.Proofs.YtkocmkaeaagbaaaGreatDoor.Wd
namespace Go.Proofs.YtkocmkaeaagbaaaGreatDoor.Wd
open Go.RowKit Go.Proofs.YtkocmkaeaagbaaaGreatDoor.Mem Go.Proofs.YtkocmkaeaagbaaaGreatDoor.Bw Go.Proofs.YtkocmkaeaagbaaaGreatDoor.Nums Go.Proofs.YtkocmkaeaagbaaaGreatDoor.Mmu
/-- Those that are not so. -/
def goneP {α : Type} (p : α → Bool) (l : List α) : List α := l.filter fun e => !p e
structure MidP {α : Type} (p : α → Bool) (l m : List α) (i j : Nat) : Prop where
 lt : i < j
 le : j ≤ l.length
 len : m.length = l.length
 lo : m.take i = goneP p (l.take j)
 hi : m.drop j = l.drop j
section
variable {α : Type} {p : α → Bool} {l m : List α} {i j : Nat}
theorem MidP.start (h : l.findIdx p < l.length) : MidP p l l (l.findIdx p) (l.findIdx p + 1) := by
 refine ⟨by omega, by omega, rfl, ?_, rfl⟩
 unfold goneP
 rw [List.take_succ_eq_append_getElem h, List.filter_append]
 have h1 : (l.take (l.findIdx p)).filter (fun e => !p e) = l.take (l.findIdx p) := by
  rw [List.filter_eq_self]
  intro a ha
  obtain ⟨k, hk, rfl⟩ := List.mem_iff_getElem.1 ha
  rw [List.getElem_take]
  rw [List.length_take] at hk
  have := List.not_of_lt_findIdx (p := p) (xs := l) (i := k) (by omega)
  simpa using this
 have h2 := List.findIdx_getElem (w := h)
 rw [h1, List.filter_cons_of_neg (by simp [h2])]
 simp
theorem MidP.at (h : MidP p l m i j) (hj : j < l.length) (hm : j < m.length) : m[j] = l[j] := by
 have := congrArg (fun x => x[0]?) h.hi
 simp only [List.getElem?_drop, Nat.add_zero] at this
 rw [List.getElem?_eq_getElem hm, List.getElem?_eq_getElem hj] at this
 exact Option.some.inj this
theorem MidP.skip (h : MidP p l m i j) (hj : j < l.length) (hp : p l[j] = true) : MidP p l m i (j + 1) := by
 refine ⟨by have := h.lt; omega, by omega, h.len, ?_, ?_⟩
 ·rw [h.lo]
  unfold goneP
  rw [List.take_succ_eq_append_getElem hj, List.filter_append, List.filter_cons_of_neg (by simp [hp])]
  simp
 ·rw [← List.drop_drop, h.hi, List.drop_drop]
theorem MidP.keep (h : MidP p l m i j) (hj : j < l.length) (hp : p l[j] = false) : MidP p l (m.set i l[j]) (i + 1) (j + 1) := by
 have hlt := h.lt
 have hlen := h.len
 refine ⟨by omega, by omega, by rw [List.length_set, h.len], ?_, ?_⟩
 ·rw [List.take_succ_eq_append_getElem (by rw [List.length_set]; omega), List.take_set_of_le (Nat.le_refl _), h.lo, List.getElem_set_self]
  unfold goneP
  rw [List.take_succ_eq_append_getElem hj, List.filter_append, List.filter_cons_of_pos (by simp [hp])]
  simp
 ·rw [List.drop_set_of_lt (by omega), ← List.drop_drop, h.hi, List.drop_drop]
theorem MidP.done (h : MidP p l m i l.length) : goneP p l = m.take i := by
 rw [h.lo, List.take_length]
theorem goneP_all (h : ¬ l.findIdx p < l.length) : goneP p l = l := by
 unfold goneP
 rw [List.filter_eq_self]
 intro a ha
 obtain ⟨k, hk, rfl⟩ := List.mem_iff_getElem.1 ha
 have := List.not_of_lt_findIdx (p := p) (xs := l) (i := k) (by omega)
 simpa using this
end
/-- The number of the first that is so; -1: there is none. -/
def ixP {α : Type} (p : α → Bool) (l : List α) : Int := if l.findIdx p < l.length then (l.findIdx p : Int) else -1
theorem own_cutI {w : World} {B e g n cap : Nat} {xs : List Value} (h : w.ownsRow B e 1 (.slice (some ⟨g, 0, none⟩) n cap) n xs) (i : Nat) (hi : i ≤ n) : w.ownsRow B e 1 (.slice (some ⟨g, 0, none⟩) i cap) i (xs.take i) := by
 have hl := h.1
 rcases h.2 with ⟨h', _⟩ | ⟨g', cap', cur, h', hb, hg, hnc, hcm, hcs, ht⟩
 ·simp at h'
 ·simp only [Value.slice.injEq, Option.some.injEq, Addr.mk.injEq, and_true, true_and] at h'
  obtain ⟨rfl, rfl⟩ := h'
  refine ⟨by rw [List.length_take]; omega, .inr ⟨g, cap, cur, rfl, hb, hg, by omega, hcm, hcs, ?_⟩⟩
  rw [← ht, List.take_take, Nat.min_eq_left (by omega), Nat.mul_one]
theorem own_cellsI {B e g n cap : Nat} (i : Nat) : ∀ (L : List Value) (o : Nat) (w : World) (xs : List Value), w.ownsRow B e 1 (.slice (some ⟨g, 0, none⟩) n cap) n xs → i ≤ o →
  ∃ ys, (w.setCells g o L).ownsRow B e 1 (.slice (some ⟨g, 0, none⟩) n cap) n ys ∧ ys.take i = xs.take i ∧ w.grownBy (w.setCells g o L) (some g)
 | [], o, w, xs, h, _ => ⟨xs, h, rfl, ⟨rfl, rfl, rfl, Nat.le_refl _, fun _ _ _ => rfl⟩⟩
 | v :: r, o, w, xs, h, ho => by
  obtain ⟨h1, g1⟩ := h.stored o v
  obtain ⟨ys, h2, e2, g2⟩ := own_cellsI i r (o + 1) _ _ h1 (by omega)
  refine ⟨ys, h2, ?_, g1.trans g2⟩
  rw [e2, List.take_set_of_le (by omega)]
theorem clear_ownI {w : World} {B g n cap : Nat} {xs : List Value} (h : w.ownsRow B 3 1 (.slice (some ⟨g, 0, none⟩) n cap) n xs) (i : Nat) (hi : i < n) (ty : TypeId) (c : Nat) :
  ∃ w', (Builtin.clear_ #[22] ty #[.slice (some ⟨g, i, none⟩) (n - i) c]).run Tryz.prog w = .ok (.tuple #[]) w' ∧ w'.ownsRow B 3 1 (.slice (some ⟨g, 0, none⟩) i cap) i (xs.take i) ∧ w.grownBy w' (some g) := by
 obtain ⟨m, hm⟩ : ∃ m, n - i = m + 1 := ⟨n - i - 1, by omega⟩
 obtain ⟨L, hL⟩ : ∃ L, (Builtin.zeroCells (Value.int .i64 0).cells (n - i)).toList = L := ⟨_, rfl⟩
 have hlen : L.length = n - i := by
  rw [← hL]
  simp [Builtin.zeroCells, Value.cells]
 have hone : ∀ v ∈ L, v.oneCell' = true := by
  intro v hv
  rw [← hL] at hv
  simp [Builtin.zeroCells, Value.cells] at hv
  obtain ⟨k, _, rfl⟩ := hv
  simp [Nat.mod_one, Value.oneCell']
 obtain ⟨ys, h2, e2, g2⟩ := own_cellsI i L i w xs h (Nat.le_refl _)
 have hc : ∀ j, j < L.length → (w.cell? ⟨g, i + 0 + j, none⟩).isSome = true := fun j hj => by
  rw [h.cellAt _ (by omega)]
  have := h.1
  rw [List.getElem?_eq_getElem (by omega)]
  rfl
 have hf : ∀ j, j < L.length → w.frozen? ⟨g, i + 0 + j, none⟩ = false := fun j _ => h.frozenAt _
 have hst := run_storeCells_cells (P := Tryz.prog) g i L 0 w hc hf hone
 simp only [Nat.add_zero] at hst
 refine ⟨w.setCells g i L, ?_, ?_, g2⟩
 ·rw [hm] at hL ⊢
  simp [Builtin.clear_, run_underlying Tryz.underlying22, hL, hst]
 ·have := own_cutI h2 i (by omega)
  rw [e2] at this
  exact this
theorem kp_grown {w w' : World} {g : Nat} (h : w.grownBy w' (some g)) : Kp (fun k => k = g) w w' := ⟨h.os, h.tape, h.output, h.size, fun k hk hn => h.block k hk (fun e => hn (Option.some.inj e))⟩
theorem isT (x t : Int) (c : Nat) (w : World) (hc : w.cell? ⟨c, 0, none⟩ = some (.int .i64 t)) : Calls Tryz.prog 235 #[.int .i64 x, .pointer (some ⟨c, 0, none⟩)] w fun r w' => r = .returned (.bool (x == t)) ∧ w = w' := by
 go_enter Tryz.func235, Tryz.ntmps235
 go_wp2_with fail
 go_ret
 exact ⟨rfl, rfl⟩
set_option maxRecDepth 100000 in
set_option maxHeartbeats 4000000 in
theorem index_leave (v : Value) (l : List Int) (c : Nat) (t : Int) (w : World) (hO : w.ownsRow 0 3 1 v l.length (ints l)) (hl : l.length ≤ 1000) (hc : w.cell? ⟨c, 0, none⟩ = some (.int .i64 t)) :
  Calls Tryz.prog 238 #[v, .func (.func 235) #[] #[.pointer (some ⟨c, 0, none⟩)]] w fun r w' => r = .returned (.int .i64 (ixP (fun x => x == t) l)) ∧ w = w' := by
 obtain ⟨q, b, off, cap, rfl, hq, hz⟩ := own_ints hO
 have hl2 : (l.length : Int) ≤ 1000 := by omega
 have HQ := hid hq
 have HZ := hid hz
 have HT := hid (fun x => isT x t c w hc)
 clear hO hq hz hc
 go_enter Tryz.func238, Tryz.ntmps238
 go_wp2_with fail
 go_loopw [8] (fun i wr => ∃ (k : Nat), k ≤ l.length ∧ i = .int .i64 k ∧ Hid (w = wr ∧ ∀ j (hj : j < l.length), j < k → (l[j] == t) = false)) (fun i _ => l.length - (intOf i).toNat)
 case atStart => exact ⟨0, by omega, rfl, hid ⟨rfl, fun j _ h => by omega⟩⟩
 case round =>
  obtain ⟨k, hk, rfl, HH⟩ := hrel
  obtain ⟨rfl, hno⟩ := HH.out
  have HN := hid hno
  clear hno HH
  by_cases hlt : k < l.length
  ·have hlt2 : (k : Int) < (l.length : Int) := by omega
   have hqe := HQ.out (by omega)
   subst hqe
   have ck := HZ.out k hlt
   obtain ⟨y, hy⟩ : ∃ y, l[k] = y := ⟨_, rfl⟩
   rw [hy] at ck
   have HY := hid hy
   clear hy
   go_wp2_with fail
   refine (HT.out y).mono ?_
   rintro r w1 ⟨rfl, rfl⟩
   cases hyt : (y == t) with
   | true =>
    have HX := hid (show ixP (fun x => x == t) l = k by
     have h1 : l.findIdx (fun x => x == t) = k := by
      rw [List.findIdx_eq hlt]
      exact ⟨by rw [HY.out]; exact hyt, fun j hj => HN.out j (by omega) hj⟩
     unfold ixP
     rw [h1, if_pos hlt])
    go_wp2_with fail
    go_ret
    exact ⟨by rw [HX.out]; rfl, rfl⟩
   | false =>
    have HN2 := hid (show w = w ∧ ∀ j (hj : j < l.length), j < k + 1 → (l[j] == t) = false from ⟨rfl, fun j hj h => by
     by_cases e : j = k
     ·subst e
      rw [HY.out]
      exact hyt
     ·exact HN.out j hj (by omega)⟩)
    go_wp2_with fail
    exact ⟨⟨k + 1, by omega, by go_num, HN2⟩, by simp [intOf]; omega⟩
  ·obtain rfl : k = l.length := by omega
   have hge : ¬ ((l.length : Int) < (l.length : Int)) := by omega
   have HX := hid (show ixP (fun x => x == t) l = -1 by
    unfold ixP
    rw [if_neg]
    intro h
    have h2 := List.findIdx_getElem (w := h)
    have h3 := HN.out _ h h
    rw [h3] at h2
    cases h2)
   go_wp2_with fail
   go_ret
   exact ⟨by rw [HX.out]; rfl, rfl⟩
theorem ints_take (l : List Int) (i : Nat) : (ints l).take i = ints (l.take i) := by
 unfold ints
 rw [List.map_take]
theorem intsE (l : List Int) (i : Nat) (h : i < l.length) : (ints l)[i]? = some (.int .i64 l[i]) := by
 unfold ints
 rw [List.getElem?_map, List.getElem?_eq_getElem h]
 rfl
set_option maxRecDepth 100000 in
set_option maxHeartbeats 8000000 in
theorem delete_leave (v : Value) (l : List Int) (c : Nat) (t : Int) (w : World) (hO : w.ownsRow 0 3 1 v l.length (ints l)) (hl : l.length ≤ 1000) (hc : w.cell? ⟨c, 0, none⟩ = some (.int .i64 t)) (hcg : v.ownBlock ≠ some c) :
  Calls Tryz.prog 234 #[v, .func (.func 235) #[] #[.pointer (some ⟨c, 0, none⟩)]] w fun r w' => ∃ u, r = .returned u ∧ w'.ownsRow 0 3 1 u (goneP (fun x => x == t) l).length (ints (goneP (fun x => x == t) l)) ∧ u.ownBlock = v.ownBlock ∧ Kp (fun k => v.ownBlock = some k) w w' := by
 have hl2 : (l.length : Int) ≤ 1000 := by omega
 have HX := hid (index_leave v l c t w hO hl hc)
 have HO := hid hO
 have HC := hid hc
 clear hO hc
 go_enter Tryz.func234, Tryz.ntmps234
 go_wp2_with fail
 refine HX.out.mono ?_
 rintro r w1 ⟨rfl, rfl⟩
 clear HX
 by_cases hlt : l.findIdx (fun x => x == t) < l.length
 ·have HI := hid (show ixP (fun x => x == t) l = (l.findIdx (fun x => x == t) : Int) by unfold ixP; rw [if_pos hlt])
  have HM := hid (MidP.start hlt)
  rw [HI.out]
  clear HI
  generalize l.findIdx (fun x => x == t) = k at *
  have hk0 : ¬ ((k : Int) = -1) := by omega
  have hk1 : ((k : Int) == -1) = false := by simp
  obtain ⟨g, cap, rfl⟩ : ∃ g cap, v = .slice (some ⟨g, 0, none⟩) l.length cap := by
   rcases HO.out.2 with ⟨_, h1⟩ | ⟨g, cap, cur, h1, _⟩
   ·omega
   ·exact ⟨g, cap, h1⟩
  have hgc : g ≠ c := fun e => hcg (by rw [e]; rfl)
  go_wp2_with fail
  go_loopw [5, 6] (fun a b wr => ∃ (i j : Nat) (m : List Int), a = .int .i64 i ∧ b = .int .i64 j ∧ Hid (MidP (fun x => x == t) l m i j) ∧ Hid (wr.ownsRow 0 3 1 (.slice (some ⟨g, 0, none⟩) l.length cap) l.length (ints m)) ∧ Hid (Kp (fun k => k = g) w wr)) (fun _ b _ => l.length - (intOf b).toNat)
  case atStart => exact ⟨k, k + 1, l, rfl, by go_num, HM, HO, hid (Kp.refl _ _)⟩
  case round =>
   obtain ⟨i, j, m, rfl, rfl, HM, HO, HB⟩ := hrel
   have hij := HM.out.lt
   have hjl := HM.out.le
   have HL := hid HM.out.len
   have hi3 : ¬ ((i : Int) < 0) := by omega
   have hj3 : ¬ ((j : Int) < 0) := by omega
   have hil : (i : Int) < (l.length : Int) := by omega
   by_cases hj : j < l.length
   ·have hj2 : (j : Int) < (l.length : Int) := by omega
    have HS := hid (show (fun x => x == t) l[j] = true → MidP (fun x => x == t) l m i (j + 1) from HM.out.skip hj)
    have HK := hid (show (fun x => x == t) l[j] = false → MidP (fun x => x == t) l (m.set i l[j]) (i + 1) (j + 1) from HM.out.keep hj)
    have hjm : j < m.length := by rw [HL.out]; exact hj
    have him : i < m.length := by rw [HL.out]; omega
    have cj := (HO.out.cellAt j (by omega)).trans (intsE m j hjm)
    rw [HM.out.at hj hjm] at cj
    have ci := (HO.out.cellAt i (by omega)).trans (intsE m i him)
    have fi := HO.out.frozenAt i
    have HP := hid (fun x => isT x t c wr ((HB.out.cell (p := ⟨c, 0, none⟩) (World.block_lt_of_cell? _ _ HC.out) (fun e => hgc e.symm)).trans HC.out))
    generalize l[j] = e at cj HS HK
    generalize m[i] = e2 at ci
    clear hjm him HM
    go_wp2_with fail
    refine (HP.out e).mono ?_
    rintro r w2 ⟨rfl, rfl⟩
    cases hpe : (e == t) with
    | true =>
     have HN := hid (HS.out hpe)
     go_wp2_with fail
     exact ⟨⟨i, j + 1, m, rfl, by go_num, HN, HO, HB⟩, by simp [intOf]; omega⟩
    | false =>
     have HN := hid (HK.out hpe)
     have HO2 := hid (show (wr.setCell ⟨g, i, none⟩ (.int .i64 e)).ownsRow 0 3 1 (.slice (some ⟨g, 0, none⟩) l.length cap) l.length (ints (m.set i e)) by rw [← ints_set]; exact (HO.out.stored i (.int .i64 e)).1)
     have HB2 := hid (show Kp (fun k => k = g) w (wr.setCell ⟨g, i, none⟩ (.int .i64 e)) from HB.out.setCell (.inl rfl) _)
     go_wp2_with fail
     exact ⟨⟨i + 1, j + 1, m.set i e, by go_num, by go_num, HN, HO2, HB2⟩, by simp [intOf]; omega⟩
   ·obtain rfl : j = l.length := by omega
    have hge : ¬ ((l.length : Int) < (l.length : Int)) := by omega
    have HD := hid HM.out.done
    have hcap : l.length ≤ cap := by
     rcases HO.out.2 with ⟨h1, _⟩ | ⟨_, _, _, h1, _, _, h2, _⟩
     ·cases h1
     ·cases h1; exact h2
    have hcap2 : (l.length : Int) ≤ (cap : Int) := by omega
    have hcap3 : (i : Int) ≤ (cap : Int) := by omega
    have hile : (i : Int) ≤ (l.length : Int) := by omega
    obtain ⟨w3, hrun, hO3, hG3⟩ := clear_ownI HO.out i hij 0 (cap - i)
    have O3 := hid hO3
    have B3 := hid (HB.out.trans (kp_grown hG3))
    have HL2 := hid (show (goneP (fun x => x == t) l).length = i by rw [HD.out, List.length_take, HL.out]; omega)
    clear hO3 hG3
    go_wp2_with fail
    go_ret
    refine ⟨_, rfl, ?_, rfl, B3.out.wider (fun k _ e => by rw [e]; rfl)⟩
    have := O3.out
    rw [ints_take, ← HD.out] at this
    rw [HL2.out]
    exact this
 ·have HI := hid (show ixP (fun x => x == t) l = -1 by unfold ixP; rw [if_neg hlt])
  have HG := hid (goneP_all hlt)
  rw [HI.out]
  clear hlt
  go_wp2_with fail
  go_ret
  refine ⟨_, rfl, ?_, rfl, Kp.refl _ _⟩
  rw [HG.out]
  exact HO.out
/-- The first k are turned. -/
def mapK {α : Type} (f : α → α) (k : Nat) (l : List α) : List α := (l.take k).map f ++ l.drop k
section
variable {α : Type} (f : α → α) (k : Nat) (l : List α)
theorem mapK_len : (mapK f k l).length = l.length := by
 unfold mapK
 simp
 omega
theorem mapK_zero : mapK f 0 l = l := by simp [mapK]
theorem mapK_all : mapK f l.length l = l.map f := by simp [mapK]
theorem mapK_at (hk : k < l.length) (h : k < (mapK f k l).length) : (mapK f k l)[k] = l[k] := by
 have e : (mapK f k l)[k]? = l[k]? := by
  unfold mapK
  rw [List.getElem?_append_right (by simp; omega), List.getElem?_drop]
  congr 1
  simp
  omega
 rw [List.getElem?_eq_getElem h, List.getElem?_eq_getElem hk] at e
 exact Option.some.inj e
theorem mapK_succ (hk : k < l.length) : mapK f (k + 1) l = (mapK f k l).set k (f l[k]) := by
 unfold mapK
 have e : k - (List.map f (List.take k l)).length = 0 := by simp; omega
 rw [List.take_add_one, List.getElem?_eq_getElem hk, List.map_append, List.set_append, if_neg (by simp; omega), e]
 simp only [Option.toList_some, List.map_cons, List.map_nil, List.append_assoc, List.cons_append, List.nil_append]
 rw [List.drop_eq_getElem_cons hk]
 rfl
end
/-- A number is taken out of lists. -/
def lvs (t : Int) (ls : List (List Int)) : List (List Int) := ls.map (goneP fun x => x == t)
theorem ci_set (ls : List (List Int)) (j : Nat) (hj : j < ls.length) (l : List Int) : ci (ls.set j l) = fun i => if i = j then (l.length, ints l) else ci ls i := by
 funext i
 unfold ci
 by_cases h : i = j
 ·subst h
  rw [if_pos rfl, List.getD_eq_getElem?_getD, List.getElem?_set_self hj]
  rfl
 ·rw [if_neg h, List.getD_eq_getElem?_getD, List.getElem?_set_ne (fun e => h e.symm), List.getD_eq_getElem?_getD]
theorem ListT.at {w : World} {tag : Nat → Nat} {t ti O I s n g : Nat} {cc : Nat → Nat × List Value} (h : ListT w tag t ti O I s n (.slice (some ⟨g, 0, none⟩) n n) cc) {j : Nat} (hj : j < n) : ∃ u, w.cell? ⟨g, j, none⟩ = some u ∧ InT w tag (ti + 3 * j) I s u (cc j) := by
 obtain ⟨g', us, h1, _, h3, h4, h5⟩ := h
 obtain rfl : g = g' := by simpa using h1
 have hju : j < us.length := by rw [h3]; exact hj
 refine ⟨us[j], ?_, h5 j hju⟩
 rw [h4.cellAt j (by omega), List.getElem?_eq_getElem hju]
theorem ListT.fr {w : World} {tag : Nat → Nat} {t ti O I s n g : Nat} {cc : Nat → Nat × List Value} (h : ListT w tag t ti O I s n (.slice (some ⟨g, 0, none⟩) n n) cc) (j : Nat) : w.frozen? ⟨g, j, none⟩ = false := by
 obtain ⟨g', us, h1, _, _, h4, _⟩ := h
 obtain rfl : g = g' := by simpa using h1
 exact h4.frozenAt j
theorem ListT.tag0 {w : World} {tag : Nat → Nat} {t ti O I s n g : Nat} {cc : Nat → Nat × List Value} (h : ListT w tag t ti O I s n (.slice (some ⟨g, 0, none⟩) n n) cc) : tag g = t ∧ g < w.heap.size := by
 obtain ⟨g', us, h1, h2, _, h4, _⟩ := h
 obtain rfl : g = g' := by simpa using h1
 exact ⟨h2, (h4.lt g rfl).2⟩
theorem ListT.form {w : World} {tag : Nat → Nat} {t ti O I s n : Nat} {v : Value} {cc : Nat → Nat × List Value} (h : ListT w tag t ti O I s n v cc) : ∃ g, v = .slice (some ⟨g, 0, none⟩) n n := by
 obtain ⟨g, _, h1, _⟩ := h
 exact ⟨g, h1⟩
/-- One list is another one: its row may have been written, or be new. -/
theorem ListT.put {w w1 : World} {tag tag' : Nat → Nat} {t ti O I s n g : Nat} {cc : Nat → Nat × List Value} (h : ListT w tag t ti O I s n (.slice (some ⟨g, 0, none⟩) n n) cc) {j : Nat} (hj : j < n) (hd : ∀ j, t ≠ ti + 3 * j)
  (hk : Kp (fun b => tag b = ti + 3 * j) w w1) (ht : ∀ k, k < w.heap.size → tag' k = tag k) {u : Value} {c : Nat × List Value} (hu : InT w1 tag' (ti + 3 * j) I s u c) :
  ListT (w1.setCell ⟨g, j, none⟩ u) tag' t ti O I s n (.slice (some ⟨g, 0, none⟩) n n) (fun i => if i = j then c else cc i) ∧ Kp (fun k => tag k = t ∨ ∃ j, tag k = ti + 3 * j) w (w1.setCell ⟨g, j, none⟩ u) := by
 obtain ⟨hg, hgs⟩ := h.tag0
 have hg' : tag' g = t := (ht g hgs).trans hg
 obtain ⟨g', us, h1, h2, h3, h4, h5⟩ := h
 obtain rfl : g = g' := by simpa using h1
 have k2 : Kp (fun b => tag' b = t) w1 (w1.setCell ⟨g, j, none⟩ u) := Kp.setCell (T := fun b => tag' b = t) (Kp.refl _ w1) (.inl hg') u
 refine ⟨⟨g, us.set j u, rfl, hg', by rw [List.length_set]; exact h3, ?_, fun i hi => ?_⟩, ?_⟩
 ·exact ((own_kp h4 hk (fun k e => by
   have : g = k := by simpa [Value.ownBlock] using e
   rw [← this, hg]
   exact hd j)).stored j u).1
 ·have hi2 : i < us.length := by rwa [List.length_set] at hi
  by_cases e : i = j
  ·subst e
   rw [List.getElem_set_self]
   simp only [if_pos]
   exact hu.kp k2 (fun _ _ => rfl) (fun k e => by rw [e]; exact fun h => hd i h.symm)
  ·rw [List.getElem_set_ne (fun h => e h.symm)]
   simp only [if_neg e]
   exact ((h5 i hi2).kp hk ht (fun k e2 => by rw [e2]; omega)).kp k2 (fun _ _ => rfl) (fun k e => by rw [e]; exact fun h => hd i h.symm)
 ·exact Kp.setCell (T := fun k => tag k = t ∨ ∃ j, tag k = ti + 3 * j) (hk.wider (fun k _ e => Or.inr ⟨j, e⟩)) (.inl (.inl hg)) u
theorem ListT.retag {w : World} {tag tag' : Nat → Nat} {t ti O I s n g : Nat} {cc : Nat → Nat × List Value} (h : ListT w tag t ti O I s n (.slice (some ⟨g, 0, none⟩) n n) cc) (hg : tag' g = t) (hi : ∀ k j, tag k = ti + 3 * j → tag' k = ti + 3 * j) : ListT w tag' t ti O I s n (.slice (some ⟨g, 0, none⟩) n n) cc := by
 obtain ⟨g', us, h1, _, h3, h4, h5⟩ := h
 obtain rfl : g = g' := by simpa using h1
 exact ⟨g, us, rfl, hg, h3, h4, fun j hj => ⟨(h5 j hj).1, fun k e => hi k j ((h5 j hj).2 k e)⟩⟩
/-- One block more bears a tag. -/
def tagc (tag : Nat → Nat) (c t k : Nat) : Nat := if k = c then t else tag k
theorem tagc_eq (tag : Nat → Nat) (c t : Nat) : tagc tag c t c = t := if_pos rfl
theorem tagc_lt {tag : Nat → Nat} {c t k : Nat} (h : k < c) : tagc tag c t k = tag k := if_neg (by omega)
set_option maxRecDepth 100000 in
set_option maxHeartbeats 4000000 in
theorem leave_any (v : Value) (ls : List (List Int)) (tag : Nat → Nat) (t0 ti : Nat) (t : Int) (w : World) (h : ListT w tag t0 ti 22 3 1 ls.length v (ci ls)) (hd : ∀ j, t0 ≠ ti + 3 * j) (hl : ls.length ≤ 1000) (hll : ∀ l ∈ ls, l.length ≤ 1000) :
  Calls Tryz.prog 226 #[v, .int .i64 t] w fun r w' => r = .returned (.tuple #[]) ∧ ListT w' tag t0 ti 22 3 1 (lvs t ls).length v (ci (lvs t ls)) ∧ Kp (fun k => tag k = t0 ∨ ∃ j, tag k = ti + 3 * j) w w' := by
 obtain ⟨g, rfl⟩ := h.form
 have hl2 : (ls.length : Int) ≤ 1000 := by omega
 have HL := hid hll
 have HD := hid hd
 have T0 := hid h.tag0
 have H0 := hid (h.kp (w' := w.alloc (.cells #[.int .i64 t] 3)) (tag' := tagc tag w.heap.size t0) (T := fun _ => False) (.of_below (bal (Below.refl _ w) _)) (fun k hk => tagc_lt hk) (fun _ _ e => e))
 have C0 := hid (show (w.alloc (.cells #[.int .i64 t] 3)).cell? ⟨w.heap.size, 0, none⟩ = some (.int .i64 t) from cells_new w #[.int .i64 t] 3 0)
 have B0 := hid (show Kp (fun k => tagc tag w.heap.size t0 k = t0 ∨ ∃ j, tagc tag w.heap.size t0 k = ti + 3 * j) w (w.alloc (.cells #[.int .i64 t] 3)) from .of_below (bal (Below.refl _ w) _))
 have Q0 := hid (tagc_eq tag w.heap.size t0)
 have Q1 := hid (fun k (hk : k < w.heap.size) => show tagc tag w.heap.size t0 k = tag k from tagc_lt hk)
 have Q2 := hid (show ∀ k j, tagc tag w.heap.size t0 k = ti + 3 * j → tag k = ti + 3 * j from fun k j e => by
  unfold tagc at e
  split at e
  ·exact absurd e (hd j)
  ·exact e)
 clear h hd hll
 generalize tagc tag w.heap.size t0 = tg at H0 Q0 Q1 Q2 B0
 go_enter Tryz.func226, Tryz.ntmps226
 go_wp2_with fail
 generalize World.alloc _ _ = W0 at H0 C0 B0 ⊢
 go_loopw [8] (fun i wr => ∃ (k : Nat), k ≤ ls.length ∧ i = .int .i64 k ∧ Hid (ListT wr tg t0 ti 22 3 1 ls.length (.slice (some ⟨g, 0, none⟩) ls.length ls.length) (ci (mapK (goneP fun x => x == t) k ls))) ∧ Hid (Kp (fun k => tg k = t0 ∨ ∃ j, tg k = ti + 3 * j) w wr) ∧ Hid (wr.cell? ⟨w.heap.size, 0, none⟩ = some (.int .i64 t))) (fun i _ => ls.length - (intOf i).toNat)
 case atStart => exact ⟨0, by omega, rfl, hid (by rw [mapK_zero]; exact H0.out), B0, C0⟩
 case round =>
  obtain ⟨k, hk, rfl, HT, HB, HC⟩ := hrel
  by_cases hlt : k < ls.length
  ·have hlt2 : (k : Int) < (ls.length : Int) := by omega
   obtain ⟨u, cu, hi⟩ := HT.out.at hlt
   have HCI := hid (show ci (mapK (goneP fun x => x == t) k ls) k = (ls[k].length, ints ls[k]) by
    have hkl : k < (mapK (goneP fun x => x == t) k ls).length := by rw [mapK_len]; exact hlt
    unfold ci
    rw [List.getD_eq_getElem?_getD, List.getElem?_eq_getElem hkl, Option.getD_some, mapK_at _ _ _ hlt hkl])
   rw [HCI.out] at hi
   have hne : u.ownBlock ≠ some w.heap.size := fun e => HD.out k (Q0.out.symm.trans (hi.2 _ e))
   have DL := hid (delete_leave u ls[k] w.heap.size t wr hi.1 (HL.out _ (List.getElem_mem hlt)) HC.out hne)
   have HI := hid hi
   have gk := HT.out.fr k
   have CU := hid cu
   have GB := hid HT.out.tag0
   clear hi hne HCI
   go_wp2_with fail
   refine DL.out.mono ?_
   rintro r w1 ⟨u', rfl, hO, hob, hkp⟩
   have KP := hid (show Kp (fun b => tg b = ti + 3 * k) wr w1 from hkp.wider (fun b _ e => HI.out.2 b e))
   have IN := hid (show InT w1 tg (ti + 3 * k) 3 1 u' ((goneP (fun x => x == t) ls[k]).length, ints (goneP (fun x => x == t) ls[k])) from ⟨hO, fun b e => HI.out.2 b (by rw [← hob]; exact e)⟩)
   obtain ⟨qu, ku, rfl⟩ := own_form hO
   have ng : ¬ tg g = ti + 3 * k := by rw [GB.out.1]; exact HD.out k
   have c1 : w1.cell? ⟨g, k, none⟩ = some u := (KP.out.cell (p := ⟨g, k, none⟩) GB.out.2 ng).trans CU.out
   have f1 : w1.frozen? ⟨g, k, none⟩ = false := (KP.out.frozen (p := ⟨g, k, none⟩) GB.out.2 ng).trans gk
   obtain ⟨hn, hkn⟩ := HT.out.put hlt HD.out KP.out (fun _ _ => rfl) IN.out
   have HKK := hid (HB.out.trans hkn)
   have HN := hid (show ListT (w1.setCell ⟨g, k, none⟩ (.slice qu (goneP (fun x => x == t) ls[k]).length ku)) tg t0 ti 22 3 1 ls.length (.slice (some ⟨g, 0, none⟩) ls.length ls.length) (ci (mapK (goneP fun x => x == t) (k + 1) ls)) by
    rw [mapK_succ _ _ _ hlt, ci_set _ _ (by rw [mapK_len]; exact hlt)]
    exact hn)
   have HCC := hid (show (w1.setCell ⟨g, k, none⟩ (.slice qu (goneP (fun x => x == t) ls[k]).length ku)).cell? ⟨w.heap.size, 0, none⟩ = some (.int .i64 t) by
    have h1 : w1.cell? ⟨w.heap.size, 0, none⟩ = some (.int .i64 t) := (KP.out.cell (p := ⟨w.heap.size, 0, none⟩) (World.block_lt_of_cell? _ _ HC.out) (by show ¬ tg w.heap.size = ti + 3 * k; rw [Q0.out]; exact HD.out k)).trans HC.out
    rw [World.cell?_setCell_other _ _ _ _ (by intro h; cases h; exact absurd T0.out.2 (by omega))]
    exact h1)
   clear hn hkn hO hob hkp ng DL
   go_wp2_with fail
   exact ⟨⟨k + 1, by omega, by go_num, HN, HKK, HCC⟩, by simp [intOf]; omega⟩
  ·obtain rfl : k = ls.length := by omega
   have hge : ¬ ((ls.length : Int) < (ls.length : Int)) := by omega
   have HN := hid (show ListT wr tag t0 ti 22 3 1 (lvs t ls).length (.slice (some ⟨g, 0, none⟩) ls.length ls.length) (ci (lvs t ls)) by
    have h1 := HT.out.retag T0.out.1 Q2.out
    rw [mapK_all] at h1
    unfold lvs
    rw [List.length_map]
    exact h1)
   have HKK := hid (HB.out.wider (fun b hb e => show tag b = t0 ∨ ∃ j, tag b = ti + 3 * j by rw [← Q1.out b hb]; exact e))
   go_wp2_with fail
   exact bodyPost_end (results_none rfl _ _ _) rfl ⟨rfl, HN.out, HKK.out⟩
/-- Who is on a core, if not t. -/
def noT (t x : Int) : Int := if x = t then -1 else x
/-- A task's number k is x. -/
def PW.task (p : PW) (t k : Nat) (x : Int) : PW := { p with tasks := p.tasks.set t (upd (p.tasks.getD t bl) k x) }
/-- A task leaves where it is. -/
def lvP (p : PW) (t : Nat) : PW := { p.task t 14 (-1) with lines := lvs t p.lines, ready := lvs t p.ready, cores := p.cores.map (noT t) }
theorem PW.task_len (p : PW) (t k : Nat) (x : Int) : (p.task t k x).tasks.length = p.tasks.length := by unfold PW.task; simp
theorem BoxT.task {W : World} {wb : Nat} {tag : Nat → Nat} {V : Nat → Value} {p : PW} (h : BoxT W wb tag V p) {g cap : Nat} (e : V 3 = .slice (some ⟨g, 0, none⟩) p.tasks.length cap) {i k : Nat} (hi : i < p.tasks.length) (hk : k < 20) (x : Int) :
  BoxT (W.setCell ⟨g, i * 20 + k, none⟩ (.int .i64 x)) wb tag V (p.task i k x) ∧ Kt tag tag W (W.setCell ⟨g, i * 20 + k, none⟩ (.int .i64 x)) := by
 have h1 := h.tasksCell e hi hk x
 have h2 : p.tasks.getD i bl = p.tasks[i] := by rw [List.getD_eq_getElem?_getD, List.getElem?_eq_getElem hi]; rfl
 unfold PW.task
 rw [h2]
 exact h1
/-- A task's number, where it lies. -/
theorem BoxT.taskAt {W : World} {wb : Nat} {tag : Nat → Nat} {V : Nat → Value} {p : PW} (h : BoxT W wb tag V p) {g cap : Nat} (e : V 3 = .slice (some ⟨g, 0, none⟩) p.tasks.length cap) {i k : Nat} (hi : i < p.tasks.length) (hk : k < 20) : W.cell? ⟨g, i * 20 + k, none⟩ = some (.int .i64 (p.tasks.getD i bl k)) := by
 rw [h.tasksAt e hi hk, List.getD_eq_getElem?_getD, List.getElem?_eq_getElem hi]
 rfl
theorem lvs_len (t : Int) (ls : List (List Int)) : (lvs t ls).length = ls.length := by unfold lvs; simp
set_option maxRecDepth 100000 in
set_option maxHeartbeats 4000000 in
theorem leaveW_any (wb : Nat) (tag : Nat → Nat) (V : Nat → Value) (p : PW) (t : Nat) (W : World) (bt : BoxT W wb tag V p) (hp : p.Fits) (ht : t < p.tasks.length) :
  Calls Tryz.prog 206 #[.pointer (some ⟨wb, 0, none⟩), .int .i64 t] W fun r W' => r = .returned (.tuple #[]) ∧ BoxT W' wb tag V (lvP p t) ∧ Kt tag tag W W' := by
 obtain ⟨g3, cap3, e3⟩ := bt.o.tasks.form (by omega)
 obtain ⟨g4, e4⟩ := bt.o.lines.form
 obtain ⟨g7, e7⟩ := bt.o.ready.form
 obtain ⟨q6, g6, cap6, e6, hq6⟩ := bt.o.cores.shape
 have c3 : W.cell? ⟨wb, 3, none⟩ = some (.slice (some ⟨g3, 0, none⟩) p.tasks.length cap3) := by rw [range_cell bt.r (k := 3) rfl, e3]
 have ht2 : (t : Int) < (p.tasks.length : Int) := by omega
 have hl3 : (p.tasks.length : Int) ≤ 1000 := by have := hp.tasks; omega
 have hl6 : (p.cores.length : Int) ≤ 1000 := by have := hp.cores; omega
 have x14 := bt.taskAt e3 ht (show 14 < 20 by omega)
 have f14 := bt.tasksFr e3 (t * 20 + 14)
 obtain ⟨b1, k1⟩ := bt.task e3 ht (show 14 < 20 by omega) (-1)
 have B1 := hid b1
 have K1 := hid k1
 have HP := hid hp
 have HQ := hid hq6
 have E6 := hid e6
 have E4 := hid e4
 have E7 := hid e7
 clear bt b1 k1 hp hq6 e3 e4 e6 e7 ht
 go_enter Tryz.func206, Tryz.ntmps206
 go_upto_region 1 with fail
 generalize World.setCell _ _ _ = W1 at *
 clear c3 x14 f14
 have c4 : W1.cell? ⟨wb, 4, none⟩ = some (.slice (some ⟨g4, 0, none⟩) p.lines.length p.lines.length) := by rw [range_cell B1.out.r (k := 4) rfl, E4.out]
 have LV := hid (leave_any (V 4) p.lines tag 6 12 t W1 B1.out.o.lines (fun j => by omega) HP.out.lines HP.out.line)
 rw [E4.out] at LV
 go_wp2_with fail
 refine LV.out.mono ?_
 rintro r w2 ⟨rfl, h2, h3⟩
 have B2 := hid (B1.out.lines h3 (fun _ _ => rfl) (by rw [E4.out]; exact h2))
 have K2 := hid (K1.out.trans (.of h3 (fun k e => by rcases e with e | ⟨j, e⟩ <;> omega) (fun _ _ => rfl)))
 clear h2 h3 c4 LV B1 K1
 have c7 : w2.cell? ⟨wb, 7, none⟩ = some (.slice (some ⟨g7, 0, none⟩) p.ready.length p.ready.length) := by rw [range_cell B2.out.r (k := 7) rfl, E7.out]
 have LV := hid (leave_any (V 7) p.ready tag 9 13 t w2 B2.out.o.ready (fun j => by omega) HP.out.ready HP.out.next)
 rw [E7.out] at LV
 go_wp2_with fail
 refine LV.out.mono ?_
 rintro r w3 ⟨rfl, h2, h3⟩
 have B3 := hid (B2.out.ready h3 (fun _ _ => rfl) (by rw [E7.out]; exact h2))
 have K3 := hid (K2.out.trans (.of h3 (fun k e => by rcases e with e | ⟨j, e⟩ <;> omega) (fun _ _ => rfl)))
 clear h2 h3 c7 LV B2 K2
 have c6 : w3.cell? ⟨wb, 6, none⟩ = some (.slice q6 p.cores.length cap6) := by rw [range_cell B3.out.r (k := 6) rfl, E6.out]
 go_wp2_with fail
 clear c6
 go_loopw [30] (fun i wr => ∃ (k : Nat), k ≤ p.cores.length ∧ i = .int .i64 k ∧ Hid (BoxT wr wb tag V { p.task t 14 (-1) with lines := lvs t p.lines, ready := lvs t p.ready, cores := mapK (noT t) k p.cores }) ∧ Hid (Kt tag tag W wr)) (fun i _ => p.cores.length - (intOf i).toNat)
 case atStart => exact ⟨0, by omega, rfl, hid (by rw [mapK_zero]; exact B3.out), K3⟩
 case round =>
  obtain ⟨k, hk, rfl, HT, HK⟩ := hrel
  by_cases hlt : k < p.cores.length
  ·have hlt2 : (k : Int) < (p.cores.length : Int) := by omega
   have hqe := HQ.out (by omega)
   subst hqe
   have hkl : k < (mapK (noT t) k p.cores).length := by rw [mapK_len]; exact hlt
   have he : V 6 = .slice (some ⟨g6, 0, none⟩) (mapK (noT t) k p.cores).length cap6 := by rw [mapK_len]; exact E6.out
   have c6 : wr.cell? ⟨wb, 6, none⟩ = some (.slice (some ⟨g6, 0, none⟩) p.cores.length cap6) := by rw [range_cell HT.out.r (k := 6) rfl, E6.out]
   have h2 := HT.out.o.cores
   simp only at h2
   rw [he] at h2
   have xk := h2.int hkl
   have fk := h2.frozen k
   rw [mapK_at _ _ _ hlt hkl] at xk
   have HS := hid (mapK_succ (noT (t : Int)) k p.cores hlt)
   have HA := hid (mapK_at (noT (t : Int)) k p.cores hlt hkl)
   obtain ⟨y, hy⟩ : ∃ y, p.cores[k] = y := ⟨_, rfl⟩
   rw [hy] at xk HS HA
   by_cases hyt : y = (t : Int)
   ·obtain ⟨hn, hkt⟩ := HT.out.coresCell he k (-1)
    have HN := hid (show BoxT (wr.setCell ⟨g6, k, none⟩ (.int .i64 (-1))) wb tag V { p.task t 14 (-1) with lines := lvs t p.lines, ready := lvs t p.ready, cores := mapK (noT t) (k + 1) p.cores } by
     rw [HS.out, show noT (t : Int) y = -1 from if_pos hyt]
     exact hn)
    have HKK := hid (HK.out.trans hkt)
    rw [hyt] at xk
    clear hn hkt he h2 HT hyt hy HS HA
    go_wp2_with fail
    exact ⟨⟨k + 1, by omega, by go_num, HN, HKK⟩, by simp [intOf]; omega⟩
   ·have HN := hid (show BoxT wr wb tag V { p.task t 14 (-1) with lines := lvs t p.lines, ready := lvs t p.ready, cores := mapK (noT t) (k + 1) p.cores } by
     rw [HS.out, show noT (t : Int) y = y from if_neg hyt, ← HA.out, List.set_getElem_self]
     exact HT.out)
    have hyb : (y == (t : Int)) = false := by simpa using hyt
    clear he h2 HT hyt hy HS HA
    go_wp2_with fail
    exact ⟨⟨k + 1, by omega, by go_num, HN, HK⟩, by simp [intOf]; omega⟩
  ·obtain rfl : k = p.cores.length := by omega
   have hge : ¬ ((p.cores.length : Int) < (p.cores.length : Int)) := by omega
   have HN := hid (show BoxT wr wb tag V (lvP p t) by unfold lvP; rw [← mapK_all]; exact HT.out)
   clear HT
   go_wp2_with fail
   exact bodyPost_end (results_none rfl _ _ _) rfl ⟨rfl, HN.out, HK.out⟩
/-- New blocks bear a tag. -/
def tagN (tag : Nat → Nat) (c t k : Nat) : Nat := if k < c then tag k else t
theorem tagN_lt {tag : Nat → Nat} {c t k : Nat} (h : k < c) : tagN tag c t k = tag k := if_pos h
theorem task_getD (p : PW) (t k j : Nat) (x : Int) (ht : t < p.tasks.length) : (p.task t k x).tasks.getD t bl j = if j = k then x else p.tasks.getD t bl j := by
 unfold PW.task
 simp only
 rw [List.getD_eq_getElem?_getD, List.getElem?_set_self ht]
 rfl
end Go.Proofs.YtkocmkaeaagbaaaGreatDoor.Wd
