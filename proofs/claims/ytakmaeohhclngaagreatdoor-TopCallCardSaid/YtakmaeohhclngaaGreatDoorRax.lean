/- The rest of GTc1: what few laws reach. · Clay, plain; clay.find, free, left, shape and keyholdref.anyFrom, walked; making things out of clay, plain. (Written by mk_clay1.py, mk_clay2.py.) -/
import Derived.Lib.SliceRun
import Derived.Deep.RegionHeld3
import Derived.BigQuiet
import Derived.Test.YtakmaeohhclngaaGreatDoorRaw
import Derived.Test.YtakmaeohhclngaaGreatDoorRam
namespace Go.Proofs.YtakmaeohhclngaaGreatDoor.Wd
open Go.RowKit Go.Proofs.YtakmaeohhclngaaGreatDoor.Mem Go.Proofs.YtakmaeohhclngaaGreatDoor.Bw Go.Proofs.YtakmaeohhclngaaGreatDoor.Nums Go.Proofs.YtakmaeohhclngaaGreatDoor.Mmu
def opE (p : PW) (n : Int) : Int := if slotB p n then (if p.kinds.getD (n.toNat / 16) 0 = 5 then (if (p.slots.getD n.toNat nkey) 0 = 0 then 0 else 12) else 3) else 2
def boE (p : PW) (a b : Int) : Int := if hasE p a = 0 then opE p b else hasE p a
set_option maxRecDepth 100000 in
set_option maxHeartbeats 600000 in
theorem open_ref (vb : Nat) (V : Nat → Value) (p : PW) (n : Int) (w : World) (hv : ViewAt w vb V p) (hk : p.slots.length = p.kinds.length * 16) :
  Calls Tryz.prog 110 #[.pointer (some ⟨vb, 0, none⟩), .int .i64 n] w fun r w' => r = .returned (.int .i64 (opE p n)) ∧ w = w' := by
 have c2 : w.cell? ⟨vb, 2, none⟩ = some (V 2) := range_cell hv.r rfl
 have c1 : w.cell? ⟨vb, 1, none⟩ = some (V 1) := range_cell hv.r rfl
 obtain ⟨q2, b2, off2, cap2, e2, hq2, hz2⟩ := hv.v.slots
 obtain ⟨q1, b1, off1, cap1, e1, hq1, hz1⟩ := hv.v.kinds
 have hl2 : (p.slots.length : Int) ≤ 1000 := by have := hv.f.slots; omega
 have hl1 : (p.kinds.length : Int) ≤ 1000 := by have := hv.f.kinds; omega
 cases hs : slotB p n with
 | false =>
  have HN := hid (show opE p n = 2 by unfold opE; rw [hs]; rfl)
  have HSB := hid hs
  have hn := of_decide_eq_false hs
  clear hs HSB hz2 hq2 hz1 hq1 hv hk
  by_cases h0 : n < 0
  ·clear hn
   go_enter Tryz.func110, Tryz.ntmps110
   go_wp2_with fail
   go_ret
   exact ⟨by rw [HN.out]; rfl, rfl⟩
  ·have h1 : (p.slots.length : Int) ≤ n := by omega
   clear hn
   go_enter Tryz.func110, Tryz.ntmps110
   go_wp2_with fail
   go_ret
   exact ⟨by rw [HN.out]; rfl, rfl⟩
 | true =>
  obtain ⟨j, rfl, hj⟩ := slotB_in hs
  have HSB := hid hs
  have hj2 : (j : Int) < (p.slots.length : Int) := by omega
  obtain rfl := hq2 (by omega)
  have x0 := range_at0 (hz2 j hj) (cf_at 7 _ 0 (by omega))
  have hk2 : j / 16 < p.kinds.length := by omega
  have hk3 : ((j : Int) / 16) = ((j / 16 : Nat) : Int) := by omega
  have hk4 : ((j / 16 : Nat) : Int) < (p.kinds.length : Int) := by omega
  obtain rfl := hq1 (by omega)
  have z0 := hz1 (j / 16) hk2
  have HA := hid (show opE p j = if p.kinds[j / 16] = 5 then (if p.slots[j] 0 = 0 then 0 else 12) else 3 by unfold opE; rw [hs, if_pos rfl, Int.toNat_natCast, getD_at hk2, List.getD_eq_getElem?_getD, List.getElem?_eq_getElem hj]; rfl)
  generalize p.slots[j] 0 = y at x0 HA
  generalize p.kinds[j / 16] = kd at z0 HA
  generalize j / 16 = i at *
  clear hs hz2 hq2 hz1 hq1 hv hk hk2
  have n0 : ¬ ((j : Int) < 0) := by omega
  have n1 : ¬ ((p.slots.length : Int) ≤ (j : Int)) := by omega
  by_cases h5 : kd = 5
  rotate_left
  ·have HN := hid (show opE p j = 3 by rw [HA.out, if_neg h5])
   have h5b : (kd != 5) = true := by simpa using h5
   clear h5
   go_enter Tryz.func110, Tryz.ntmps110
   go_wp2_with fail
   go_ret
   exact ⟨by rw [HN.out]; rfl, rfl⟩
  subst h5
  by_cases h0 : y = 0
  ·subst h0
   have HN := hid (show opE p j = 0 by rw [HA.out]; rfl)
   go_enter Tryz.func110, Tryz.ntmps110
   go_wp2_with fail
   go_ret
   exact ⟨by rw [HN.out]; rfl, rfl⟩
  ·have HN := hid (show opE p j = 12 by rw [HA.out, if_pos rfl, if_neg h0])
   have h0b : (y != 0) = true := by simpa using h0
   clear h0
   go_enter Tryz.func110, Tryz.ntmps110
   go_wp2_with fail
   go_ret
   exact ⟨by rw [HN.out]; rfl, rfl⟩
set_option maxRecDepth 100000 in
theorem both_ref (vb : Nat) (V : Nat → Value) (p : PW) (a b : Int) (w : World) (hv : ViewAt w vb V p) (hk : p.slots.length = p.kinds.length * 16) :
  Calls Tryz.prog 112 #[.pointer (some ⟨vb, 0, none⟩), .int .i64 a, .int .i64 b] w fun r w' => r = .returned (.int .i64 (boE p a b)) ∧ w = w' := by
 have H1 := hid (has_ref vb V p a w hv)
 have H2 := hid (open_ref vb V p b w hv hk)
 clear hv hk
 by_cases h : hasE p a = 0
 ·have HN := hid (show boE p a b = opE p b from if_pos h)
  rw [h] at H1
  generalize opE p b = x at H2 HN
  clear h
  go_enter Tryz.func112, Tryz.ntmps112
  go_wp2_with fail
  refine H1.out.mono ?_
  rintro r w1 ⟨rfl, rfl⟩
  go_wp2_with fail
  refine H2.out.mono ?_
  rintro r w1 ⟨rfl, rfl⟩
  go_wp2_with fail
  go_ret
  exact ⟨by rw [HN.out]; rfl, rfl⟩
 ·have HN := hid (show boE p a b = hasE p a from if_neg h)
  have hb : (hasE p a == 0) = false := by simpa using h
  generalize hasE p a = x at H1 HN hb
  clear h H2
  go_enter Tryz.func112, Tryz.ntmps112
  go_wp2_with fail
  refine H1.out.mono ?_
  rintro r w1 ⟨rfl, rfl⟩
  go_wp2_with fail
  go_ret
  exact ⟨by rw [HN.out]; rfl, rfl⟩
end Go.Proofs.YtakmaeohhclngaaGreatDoor.Wd
namespace Go.Proofs.YtakmaeohhclngaaGreatDoor.Wd
open Go.RowKit Go.Proofs.YtakmaeohhclngaaGreatDoor.Mem Go.Proofs.YtakmaeohhclngaaGreatDoor.Bw Go.Proofs.YtakmaeohhclngaaGreatDoor.Nums Go.Proofs.YtakmaeohhclngaaGreatDoor.Mmu
/-- Was something made from a slot's key? -/
def frm (p : PW) (n : Int) : Bool := p.slots.any (fun f => f 6 == n)
def clE (p : PW) (n : Int) : Int := if hasE p n = 0 then (if (p.slots.getD n.toNat nkey) 0 = 1 then 0 else 3) else hasE p n
def usV (p : PW) (n : Int) : Int := if frm p n = true then (p.slots.getD n.toNat nkey) 3 else 0
theorem info6k : (Tryz.prog.info? 115).map (·.size) = some 6 := by kernel_rfl
theorem has_in {p : PW} {n : Int} (h : hasE p n = 0) : ∃ j : Nat, n = j ∧ j < p.slots.length := by
 unfold hasE at h
 cases hs : slotB p n with
 | false => rw [hs] at h; cases h
 | true => exact slotB_in hs
/-- What is wrong with slots to which something shall go. -/
def usd (p : PW) (t m : Nat) : Bool := ((p.slots.drop t).take m).any (fun f => f 0 != 0)
def fcE (p : PW) (t : Nat) (m : Int) : Int := if p.kinds.getD (t / 16) 0 = 5 then (if within 1 (16 - (t : Int) % 16) m = true then (if usd p t m.toNat = true then 12 else 0) else 2) else 3
set_option maxRecDepth 100000 in
set_option maxHeartbeats 4000000 in
theorem anyFrom_ref (vb : Nat) (V : Nat → Value) (p : PW) (n : Int) (w : World) (hv : ViewAt w vb V p) :
  Calls Tryz.prog 109 #[.pointer (some ⟨vb, 0, none⟩), .int .i64 n] w fun r w' => r = .returned (.bool (frm p n)) ∧ w = w' := by
 have c2 : w.cell? ⟨vb, 2, none⟩ = some (V 2) := range_cell hv.r rfl
 obtain ⟨q2, b2, off2, cap2, e2, hq2, hz2⟩ := hv.v.slots
 have hl2 : (p.slots.length : Int) ≤ 1000 := by have := hv.f.slots; omega
 rw [e2] at c2
 have HQ := hid hq2
 have HZ := hid hz2
 clear hq2 hz2 hv e2
 go_enter Tryz.func109, Tryz.ntmps109
 go_wp2_with fail
 go_loopw [5] (fun i wr => ∃ (k : Nat), k ≤ p.slots.length ∧ i = .int .i64 k ∧ w = wr ∧ Hid (∀ j (hj : j < p.slots.length), j < k → (p.slots[j] 6 == n) = false)) (fun i _ => p.slots.length - (intOf i).toNat)
 case atStart => exact ⟨0, by omega, rfl, rfl, hid (fun j _ h => by omega)⟩
 case round =>
  obtain ⟨k, hk, rfl, rfl, HN⟩ := hrel
  by_cases hlt : k < p.slots.length
  ·have hlt2 : (k : Int) < (p.slots.length : Int) := by omega
   obtain rfl := HQ.out (by omega)
   have x6 := range_at (HZ.out k hlt) (cf_at 7 _ 6 (by omega))
   cases h6 : (p.slots[k] 6 == n) with
   | true =>
    have HX := hid (show frm p n = true from List.any_eq_true.2 ⟨p.slots[k], List.getElem_mem hlt, h6⟩)
    generalize p.slots[k] 6 = y at x6 h6
    go_wp2_with fail
    go_ret
    exact ⟨by rw [HX.out]; rfl, rfl⟩
   | false =>
    have HN2 := hid (show ∀ j (hj : j < p.slots.length), j < k + 1 → (p.slots[j] 6 == n) = false from fun j hj h => by
     by_cases e : j = k
     ·subst e; exact h6
     ·exact HN.out j hj (by omega))
    generalize p.slots[k] 6 = y at x6 h6
    go_wp2_with fail
    exact ⟨⟨k + 1, by omega, by go_num, by first | rfl | trivial, HN2⟩, by simp [intOf]; omega⟩
  ·obtain rfl : k = p.slots.length := by omega
   have hge : ¬ ((p.slots.length : Int) < (p.slots.length : Int)) := by omega
   have HX := hid (show frm p n = false by
    unfold frm
    rw [List.any_eq_false]
    intro x hx
    obtain ⟨j, hj, rfl⟩ := List.getElem_of_mem hx
    rw [HN.out j hj hj]
    decide)
   go_wp2_with fail
   go_ret
   exact ⟨by rw [HX.out]; rfl, rfl⟩
/-- So many noughts from one on. -/
def zr (n : Nat) (l : List Int) (a : Nat) : List Int := if h : n = 0 then l else zr (n - 1) (l.set a 0) (a + 1)
theorem zr_zero (l : List Int) (a : Nat) : zr 0 l a = l := by rw [zr, dif_pos rfl]
theorem zr_step (n : Nat) (l : List Int) (a : Nat) : zr (n + 1) l a = zr n (l.set a 0) (a + 1) := by rw [zr, dif_neg (Nat.succ_ne_zero n), Nat.add_sub_cancel]
theorem zr_len : ∀ (n : Nat) (l : List Int) (a : Nat), (zr n l a).length = l.length
 | 0, l, a => by rw [zr_zero]
 | n + 1, l, a => by rw [zr_step, zr_len n, List.length_set]
theorem zr_succ : ∀ (n : Nat) (l : List Int) (a : Nat), zr (n + 1) l a = (zr n l a).set (a + n) 0
 | 0, l, a => by rw [zr_step, zr_zero, zr_zero, Nat.add_zero]
 | n + 1, l, a => by rw [zr_step, zr_succ n, zr_step n, show a + 1 + n = a + (n + 1) by omega]
def shP (p : PW) (f : Nat) (k : Int) : PW := { p with kinds := p.kinds.set f k, ram := zr 16 p.ram (f * 16) }
theorem BoxT.kindsThere {W : World} {wb : Nat} {tag : Nat → Nat} {V : Nat → Value} {p : PW} (h : BoxT W wb tag V p) {g cap : Nat} (e : V 1 = .slice (some ⟨g, 0, none⟩) p.kinds.length cap) (o m : Nat) (hm : o + m ≤ p.kinds.length) : W.there g o m := by
 have h2 := h.o.kinds
 rw [e] at h2
 exact h2.there o m (by omega)
theorem BoxT.ramThere {W : World} {wb : Nat} {tag : Nat → Nat} {V : Nat → Value} {p : PW} (h : BoxT W wb tag V p) {g cap : Nat} (e : V 0 = .slice (some ⟨g, 0, none⟩) p.ram.length cap) (o m : Nat) (hm : o + m ≤ p.ram.length) : W.there g o m := by
 have h2 := h.o.ram
 rw [e] at h2
 exact h2.there o m (by omega)
def tagC (tag : Nat → Nat) (c k : Nat) : Nat := if k < c then tag k else 0
theorem tagC_lt {tag : Nat → Nat} {c k : Nat} (h : k < c) : tagC tag c k = tag k := if_pos h
theorem retagC {W : World} {wb : Nat} {tag : Nat → Nat} {V : Nat → Value} {p : PW} (h : BoxT W wb tag V p) : BoxT W wb (tagC tag W.heap.size) V p ∧ Kt tag (tagC tag W.heap.size) W W :=
 ⟨h.kp (T := fun _ => False) (Kp.refl _ _) (fun _ _ e => e.elim) (fun _ hk => tagC_lt hk), Kt.of (T := fun _ => False) (Kp.refl _ _) (fun _ e => e.elim) (fun _ hk => tagC_lt hk)⟩
theorem Kt.setOut {tag tag' : Nat → Nat} {W X : World} (h : Kt tag tag' W X) {b o : Nat} (hb : W.heap.size ≤ b) (v : Value) : Kt tag tag' W (X.setCell ⟨b, o, none⟩ v) := by
 have h2 := (Below.refl 0 X).setCell (p := ⟨b, o, none⟩) (Nat.zero_le _) v
 exact ⟨⟨h2.os.trans h.k.os, h2.tape.trans h.k.tape, h2.output.trans h.k.output, Nat.le_trans h.k.size h2.size, fun i hi hn => (Below.heap_setCell X ⟨b, o, none⟩ v i (show i ≠ b by omega)).trans (h.k.block i hi hn)⟩, h.t⟩
theorem Kt.there {tag tag' : Nat → Nat} {W X : World} (h : Kt tag tag' W X) {b n : Nat} (ht : W.there b 0 n) (h0 : tag b = 0) : X.there b 0 n := there_kp ht h.k (fun e => e h0)
theorem range_upd {W : World} {b : Nat} {f : Nat → Int} (h : W.rangeAt b 0 (cf 6 f)) (x : Int) : (W.setCell ⟨b, 3, none⟩ (.int .i64 x)).rangeAt b 0 (cf 6 (upd f 3 x)) := fun o v hv => by
 have ho : o < 6 := by
  have := (List.getElem?_eq_some_iff.1 hv).1
  rwa [cf_len] at this
 rw [cf_at 6 _ o ho] at hv
 have h1 := h o _ (cf_at 6 f o ho)
 have h3 := h 3 _ (cf_at 6 f 3 (by omega))
 rw [Nat.zero_add] at h1 h3 ⊢
 by_cases e : o = 3
 ·subst e
  rw [← hv]
  exact World.cell?_setCell_same _ _ _ h3
 ·rw [← hv, World.cell?_setCell_other _ _ _ _ (by intro e2; cases e2; exact e rfl), h1]
  unfold upd
  rw [if_neg e]
theorem wp_stK {ops : Array Oper} {rest : List Oper} {op : Oper} {a : Act} {w : World} {Q : Exit → Act → World → Prop} (hgd : op.guard = none) (x y : Operand) (ho : op.op = .store 115 x y)
  (b o : Nat) (hx : a.eval x = .pointer (some ⟨b, o, none⟩)) (cs : List Value) (hy : a.eval y = .agg cs.toArray) (hl : cs.length = 6) (h1 : ∀ v ∈ cs, v.oneCell' = true) (ht : w.there b o 6)
  (h : wpList Tryz.prog ops Q rest (a.put op.dst undef) (w.setCells b o cs)) : wpList Tryz.prog ops Q (op :: rest) a w :=
 wpList_store_mid hgd 115 x y ho b o cs.toArray hx hy (by simpa [hl] using ht) (by rw [info6k]; simp [hl]) (all_oneCell_toArray h1) (by simpa using h)
theorem wp_ldK {ops : Array Oper} {rest : List Oper} {op : Oper} {a : Act} {w : World} {Q : Exit → Act → World → Prop} (hgd : op.guard = none) (x : Operand) (ho : op.op = .load 115 x)
  (b o : Nat) (hx : a.eval x = .pointer (some ⟨b, o, none⟩)) (cs : List Value) (hl : cs.length = 6) (hc : w.rangeAt b o cs)
  (h : wpList Tryz.prog ops Q rest (a.put op.dst (.agg cs.toArray)) w) : wpList Tryz.prog ops Q (op :: rest) a w :=
 wpList_load_mid hgd 115 x ho b o hx cs _ hc Tryz.underlying115 rfl (by rw [info6k, hl]) h
theorem six_of {W : World} {b o : Nat} {f : Nat → Int} (h : W.rangeAt b o (cf 7 f)) : W.rangeAt b o (cf 6 f) := fun j v hv => h j v (by
 have hj : j < 6 := by
  have := (List.getElem?_eq_some_iff.1 hv).1
  rwa [cf_len] at this
 rw [cf_at 6 f j hj] at hv
 rw [cf_at 7 f j (by omega)]
 exact hv)
/-- A key's cells of a slot, written. -/
theorem BoxT.slotsSome {wb : Nat} {tag : Nat → Nat} {V : Nat → Value} {g cap i : Nat} (f : Nat → Int) : ∀ (n a : Nat) (p : PW) (W : World), a + n ≤ 7 → BoxT W wb tag V p → V 2 = .slice (some ⟨g, 0, none⟩) p.slots.length cap → (hi : i < p.slots.length) → BoxT (W.setCells g (i * 7 + a) ((List.range' a n).map fun k => .int .i64 (f k))) wb tag V { p with slots := p.slots.set i (fun k => if a ≤ k ∧ k < a + n then f k else p.slots[i] k) } ∧ Kt tag tag W (W.setCells g (i * 7 + a) ((List.range' a n).map fun k => .int .i64 (f k)))
 | 0, a, p, W, _, h, _, hi => by
  refine ⟨?_, Kt.refl _ _⟩
  have e : (fun k => if a ≤ k ∧ k < a + 0 then f k else p.slots[i] k) = p.slots[i] := by
   funext k
   rw [if_neg (by omega)]
  rw [e, List.set_getElem_self]
  exact h
 | n + 1, a, p, W, hn, h, e, hi => by
  rw [List.range'_succ, List.map_cons, World.setCells]
  obtain ⟨h1, k1⟩ := h.slotsCell e hi (show a < 7 by omega) (f a)
  have hi2 : i < (p.slots.set i (upd p.slots[i] a (f a))).length := by rw [List.length_set]; exact hi
  obtain ⟨h2, k2⟩ := BoxT.slotsSome f n (a + 1) { p with slots := p.slots.set i (upd p.slots[i] a (f a)) } _ (by omega) h1 (by rw [List.length_set]; exact e) hi2
  refine ⟨?_, k1.trans k2⟩
  have e2 : (p.slots.set i (upd p.slots[i] a (f a))).set i (fun k => if a + 1 ≤ k ∧ k < a + 1 + n then f k else (p.slots.set i (upd p.slots[i] a (f a)))[i] k) = p.slots.set i (fun k => if a ≤ k ∧ k < a + (n + 1) then f k else p.slots[i] k) := by
   rw [List.set_set]
   congr 1
   funext k
   rw [List.getElem_set_self]
   unfold upd
   by_cases h3 : a ≤ k ∧ k < a + (n + 1)
   ·rw [if_pos h3]
    by_cases h4 : k = a
    ·rw [if_neg (by omega), if_pos h4, h4]
    ·rw [if_pos (by omega)]
   ·rw [if_neg h3, if_neg (by omega), if_neg (by omega)]
  rw [← e2]
  exact h2
theorem BoxT.slotsKey {W : World} {wb : Nat} {tag : Nat → Nat} {V : Nat → Value} {p : PW} (h : BoxT W wb tag V p) {g cap : Nat} (e : V 2 = .slice (some ⟨g, 0, none⟩) p.slots.length cap) {i : Nat} (hi : i < p.slots.length) (f : Nat → Int) (h6 : f 6 = p.slots[i] 6) (h7 : ∀ k, 7 ≤ k → f k = p.slots[i] k) :
  BoxT (W.setCells g (i * 7) (cf 6 f)) wb tag V { p with slots := p.slots.set i f } ∧ Kt tag tag W (W.setCells g (i * 7) (cf 6 f)) := by
 have h1 := BoxT.slotsSome (i := i) f 6 0 p W (by omega) h e hi
 have e1 : ((List.range' 0 6).map fun k => Value.int .i64 (f k)) = cf 6 f := rfl
 have e2 : (fun k => if 0 ≤ k ∧ k < 0 + 6 then f k else p.slots[i] k) = f := by
  funext k
  by_cases h2 : k < 6
  ·rw [if_pos (by omega)]
  ·rw [if_neg (by omega)]
   by_cases h3 : k = 6
   ·rw [h3, h6]
   ·rw [h7 k (by omega)]
 rw [e1, e2, Nat.add_zero] at h1
 exact h1
theorem BoxT.slotsThere {W : World} {wb : Nat} {tag : Nat → Nat} {V : Nat → Value} {p : PW} (h : BoxT W wb tag V p) {g cap : Nat} (e : V 2 = .slice (some ⟨g, 0, none⟩) p.slots.length cap) (o m : Nat) (hm : o + m ≤ p.slots.length * 7) : W.there g o m := by
 have h2 := h.o.slots
 rw [e] at h2
 exact h2.there o m hm
/-- A new slot. -/
def nsl (k f n : Int) : Nat → Int := fun i => if i = 0 then k else if i = 1 then f else if i = 2 then 1 else if i = 4 then 7 else if i = 6 then n else 0
def mk1 (q : PW) (n k : Int) (b t i : Nat) : PW := { shP q (b + i) k with slots := q.slots.set (t + i) (nsl k ((b + i : Nat) : Int) n) }
def mkI (p : PW) (n k : Int) (b t : Nat) : Nat → PW
 | 0 => p
 | i + 1 => mk1 (mkI p n k b t i) n k b t i
theorem mkI_succ (p : PW) (n k : Int) (b t i : Nat) : mkI p n k b t (i + 1) = mk1 (mkI p n k b t i) n k b t i := rfl
theorem mk1_kinds (q : PW) (n k : Int) (b t i : Nat) : (mk1 q n k b t i).kinds = q.kinds.set (b + i) k := rfl
theorem mk1_ram (q : PW) (n k : Int) (b t i : Nat) : (mk1 q n k b t i).ram = zr 16 q.ram ((b + i) * 16) := rfl
theorem mk1_slots (q : PW) (n k : Int) (b t i : Nat) : (mk1 q n k b t i).slots = q.slots.set (t + i) (nsl k ((b + i : Nat) : Int) n) := rfl
theorem mk1_rest (q : PW) (n k : Int) (b t i : Nat) : (mk1 q n k b t i).tasks = q.tasks ∧ (mk1 q n k b t i).lines = q.lines ∧ (mk1 q n k b t i).bits = q.bits ∧ (mk1 q n k b t i).cores = q.cores ∧ (mk1 q n k b t i).ready = q.ready ∧ (mk1 q n k b t i).tlbs = q.tlbs ∧ (mk1 q n k b t i).doms = q.doms := ⟨rfl, rfl, rfl, rfl, rfl, rfl, rfl⟩
theorem mkI_len (p : PW) (n k : Int) (b t : Nat) : ∀ i, (mkI p n k b t i).kinds.length = p.kinds.length ∧ (mkI p n k b t i).ram.length = p.ram.length ∧ (mkI p n k b t i).slots.length = p.slots.length
 | 0 => ⟨rfl, rfl, rfl⟩
 | i + 1 => by
  have h := mkI_len p n k b t i
  rw [mkI_succ, mk1_kinds, mk1_ram, mk1_slots, List.length_set, zr_len, List.length_set]
  exact h
theorem mkI_rest (p : PW) (n k : Int) (b t : Nat) : ∀ i, (mkI p n k b t i).tasks = p.tasks ∧ (mkI p n k b t i).lines = p.lines ∧ (mkI p n k b t i).bits = p.bits ∧ (mkI p n k b t i).cores = p.cores ∧ (mkI p n k b t i).ready = p.ready ∧ (mkI p n k b t i).tlbs = p.tlbs ∧ (mkI p n k b t i).doms = p.doms
 | 0 => ⟨rfl, rfl, rfl, rfl, rfl, rfl, rfl⟩
 | i + 1 => by
  have h := mkI_rest p n k b t i
  obtain ⟨r1, r2, r3, r4, r5, r6, r7⟩ := mk1_rest (mkI p n k b t i) n k b t i
  rw [mkI_succ, r1, r2, r3, r4, r5, r6, r7]
  exact h
theorem mkI_fits {p : PW} (h : p.Fits) (n k : Int) (b t i : Nat) : (mkI p n k b t i).Fits := by
 obtain ⟨h1, h2, h3⟩ := mkI_len p n k b t i
 obtain ⟨r1, r2, r3, r4, r5, r6, r7⟩ := mkI_rest p n k b t i
 exact ⟨by rw [h2]; exact h.ram, by rw [h1]; exact h.kinds, by rw [h3]; exact h.slots, by rw [r1]; exact h.tasks, by rw [r2]; exact h.lines, by rw [r2]; exact h.line, by rw [r3]; exact h.bits, by rw [r4]; exact h.cores, by rw [r5]; exact h.ready, by rw [r5]; exact h.next, by rw [r6]; exact h.tlbs, by rw [r7]; exact h.doms⟩
theorem mkI_at (p : PW) (n k : Int) (b t j : Nat) : ∀ i, (j < t ∨ t + i ≤ j) → (mkI p n k b t i).slots[j]? = p.slots[j]?
 | 0, _ => rfl
 | i + 1, h => by
  rw [mkI_succ, mk1_slots, List.getElem?_set_ne (by omega)]
  exact mkI_at p n k b t j i (by omega)
def mkB (p : PW) (n : Int) : Nat := ((p.slots.getD n.toNat nkey) 1 + usV p n).toNat
/-- Making. -/
def mkP (p : PW) (n k m t : Int) : PW := { mkI p n k (mkB p n) t.toNat m.toNat with slots := (mkI p n k (mkB p n) t.toNat m.toNat).slots.set n.toNat (upd (p.slots.getD n.toNat nkey) 3 (usV p n + m)) }
def mkE (p : PW) (n k m t : Int) : Int := if slotB p t = true then (if clE p n = 0 then (if within 2 8 k = true then (if fcE p t.toNat m = 0 then (if (p.slots.getD n.toNat nkey) 2 - usV p n < m then 5 else 0) else fcE p t.toNat m) else 3) else clE p n) else 2
/-- What a sound world says of clay. -/
theorem clay_in {p : PW} (h : Snd p) {n : Int} (hc : clE p n = 0) : ∃ (j : Nat) (hj : j < p.slots.length), n = j ∧ p.slots[j] 0 = 1 ∧ p.slots.getD j nkey = p.slots[j] ∧ (0 ≤ p.slots[j] 1 ∧ p.slots[j] 1 + p.slots[j] 2 ≤ (p.kinds.length : Int)) ∧ (0 ≤ p.slots[j] 2 ∧ p.slots[j] 2 ≤ 100) ∧ (0 ≤ p.slots[j] 3 ∧ p.slots[j] 3 ≤ 100) ∧ (0 ≤ usV p n ∧ usV p n ≤ 100) := by
 unfold clE at hc
 by_cases h0 : hasE p n = 0
 ·rw [if_pos h0] at hc
  obtain ⟨j, rfl, hj⟩ := has_in h0
  rw [Int.toNat_natCast] at hc
  have hg : p.slots.getD j nkey = p.slots[j] := by rw [List.getD_eq_getElem?_getD, List.getElem?_eq_getElem hj]; rfl
  rw [hg] at hc
  by_cases h1 : p.slots[j] 0 = 1
  ·have kb := snd_kb h p.slots[j] (List.getElem_mem hj)
   obtain ⟨k1, k2, k3, _⟩ := snd_key h hj (by omega)
   refine ⟨j, hj, rfl, h1, hg, ⟨k1, k3⟩, ⟨by omega, kb.l1⟩, ⟨kb.m0, kb.m1⟩, ?_⟩
   unfold usV
   rw [Int.toNat_natCast, hg]
   have := kb.m0
   have := kb.m1
   split <;> omega
  ·rw [if_neg h1] at hc
   cases hc
 ·rw [if_neg h0] at hc
  exact absurd hc h0
theorem usd_not {p : PW} {t m j : Nat} (h : usd p t m = false) (hj : j < p.slots.length) (h0 : p.slots[j] 0 ≠ 0) : j < t ∨ t + m ≤ j := by
 apply Classical.byContradiction
 intro hn
 have h1 : t ≤ j ∧ j < t + m := by omega
 unfold usd at h
 rw [List.any_eq_false] at h
 refine h p.slots[j] ?_ (by simpa using h0)
 refine List.mem_iff_getElem?.2 ⟨j - t, ?_⟩
 rw [List.getElem?_take, if_pos (by omega), List.getElem?_drop, show t + (j - t) = j by omega, List.getElem?_eq_getElem hj]
end Go.Proofs.YtakmaeohhclngaaGreatDoor.Wd
