/- A world out of a text: slices.Index of texts, upToEnd; walked. · A world out of a text: slices.Index of texts, upToEnd; walked. -/
import Derived.Test.YtkocmkaeaagbaaaGreatDoorQbd
namespace Go.Proofs.YtkocmkaeaagbaaaGreatDoor.Wd
open Go.RowKit Go.Proofs.YtkocmkaeaagbaaaGreatDoor.Mem Go.Proofs.YtkocmkaeaagbaaaGreatDoor.Bw Go.Proofs.YtkocmkaeaagbaaaGreatDoor.Nums Go.Proofs.YtkocmkaeaagbaaaGreatDoor.Hex Go.Proofs.YtkocmkaeaagbaaaGreatDoor.Prs Go.Proofs.YtkocmkaeaagbaaaGreatDoor.Mmu
/-- Where a text is among others, if it is there: the first one. -/
structure Ix (ts : List ByteArray) (v : ByteArray) (m : Nat) : Prop where
 le : m ≤ ts.length
 ne : ∀ j (h : j < ts.length), j < m → v ≠ ts[j]
 eq : ∀ h : m < ts.length, v = ts[m]
theorem ix_of (ts : List ByteArray) (v : ByteArray) : ∃ m, Ix ts v m := by
 induction ts with
 | nil => exact ⟨0, Nat.le_refl _, fun j h => by simp at h, fun h => by simp at h⟩
 | cons t ts ih =>
  by_cases e : v = t
  ·exact ⟨0, Nat.zero_le _, fun j _ h => by omega, fun _ => e⟩
  ·obtain ⟨m, h1, h2, h3⟩ := ih
   refine ⟨m + 1, by simp; omega, fun j h hj => ?_, fun h => ?_⟩
   ·match j, h, hj with
    | 0, _, _ => exact e
    | j + 1, h, hj => exact h2 j (by simpa using h) (by omega)
   ·exact h3 (by simpa using h)
def ixV (n m : Nat) : Int := if m < n then (m : Int) else -1
set_option maxHeartbeats 2000000 in
theorem sIndex_any (q : Option Addr) (g o c m : Nat) (ts : List ByteArray) (v : ByteArray) (w : World) (hq : 0 < ts.length → q = some ⟨g, o, none⟩) (hS : StrsAt w g o ts) (hl : ts.length ≤ 100000) (hm : Ix ts v m) :
  Calls Tryz.prog 169 #[.slice q ts.length c, .string v] w fun r w' => r = .returned (.int .i64 (ixV ts.length m)) ∧ w' = w := by
 have HS := hid hS
 have HQ := hid hq
 have HM := hid hm
 have hl2 : (ts.length : Int) ≤ 100000 := by omega
 have HV : Hid (∀ k, (k = ts.length → m = k → ixV ts.length m = -1) ∧ (k < ts.length → m = k → ixV ts.length m = k)) := hid (fun k => ⟨fun h1 h2 => if_neg (by omega), fun h1 h2 => by subst h2; exact if_pos h1⟩)
 clear hS hq hm
 generalize ixV ts.length m = iv at HV ⊢
 go_enter Tryz.func169, Tryz.ntmps169
 go_wp2_with fail
 go_loopw [8] (fun i wr => ∃ k : Nat, k ≤ m ∧ i = .int .i64 k ∧ w = wr) (fun i _ => ts.length - (intOf i).toNat)
 case atStart => exact ⟨0, by omega, rfl, rfl⟩
 case round =>
  obtain ⟨k, hk, rfl, rfl⟩ := hrel
  by_cases hlt : k < ts.length
  ·have hlt2 : (k : Int) < (ts.length : Int) := by omega
   have hc := HS.out k hlt
   obtain rfl := HQ.out (by omega)
   have HN := hid (HM.out.ne k hlt)
   have HE := hid (show ∀ h : k = m, v = ts[k] from fun h => by subst h; exact HM.out.eq hlt)
   generalize ts[k] = t at hc HN HE
   by_cases e : k = m
   ·obtain rfl := HE.out e
    have EV := hid ((HV.out k).2 hlt e.symm)
    clear e hk
    go_wp2_with fail
    go_ret
    rw [EV.out]
    exact ⟨rfl, rfl⟩
   ·have e2 := bytes_no (HN.out (by omega))
    have HK := hid (show k + 1 ≤ m by omega)
    clear e hk
    go_wp2_with fail
    exact ⟨⟨k + 1, HK.out, by go_num, by trivial⟩, by simp [intOf]; omega⟩
  ·have hge : ¬ ((k : Int) < (ts.length : Int)) := by omega
   have EV := hid ((HV.out k).1 (by have := HM.out.le; omega) (by have := HM.out.le; omega))
   clear hk
   go_wp2_with fail
   go_ret
   rw [EV.out]
   exact ⟨rfl, rfl⟩
/-- Which line is next. -/
theorem Bld.setNext {W : World} {bb : Nat} {tag : Nat → Nat} {V : Nat → Value} {p : PW} {lv : Value} {n : Nat} (h : Bld W bb tag V p lv n) (m : Nat) :
  Bld (W.setCell ⟨bb, 12, none⟩ (.int .i64 m)) bb tag V p lv m ∧ Kt tag tag W (W.setCell ⟨bb, 12, none⟩ (.int .i64 m)) := by
 have k2 : Kp (fun k => tag k = 1) W (W.setCell ⟨bb, 12, none⟩ (.int .i64 m)) := (Kp.refl _ W).setCell (b := bb) (o := 12) (Or.inl h.b.g) _
 have ht : ∀ k, k < W.heap.size → tag k = tag k := fun _ _ => rfl
 have o := h.b.o
 refine ⟨⟨⟨?_, ?_, h.b.g, ⟨o.ram.kp k2 ht (fun k e => by omega), o.kinds.kp k2 ht (fun k e => by omega), o.slots.kp k2 ht (fun k e => by omega), o.tasks.kp k2 ht (fun k e => by omega), o.lines.kp k2 ht (fun k e => by rcases e with e | ⟨i, e⟩ <;> omega), o.bits.kp k2 ht (fun k e => by omega), o.cores.kp k2 ht (fun k e => by omega), o.ready.kp k2 ht (fun k e => by rcases e with e | ⟨i, e⟩ <;> omega), o.tlbs.kp k2 ht (fun k e => by rcases e with e | ⟨i, e⟩ <;> omega), o.doms.kp k2 ht (fun k e => by omega), o.time⟩⟩, ?_, ?_, ?_, h.k⟩, Kt.of k2 (fun k e => by omega) ht⟩
 ·exact World.rangeAt_setCells_apart (w := W) h.b.r bb 12 [.int .i64 m] (.inr (.inl (by show 0 + 11 ≤ 12; omega)))
 ·exact World.there_setCells h.b.t bb 12 [.int .i64 m]
 ·rw [World.cell?_setCell_other W _ _ _ (by intro e; cases e)]
  exact h.l
 ·exact World.cell?_setCell_same W _ _ h.n
 ·exact World.there_setCells h.t bb 12 [.int .i64 m]
end Go.Proofs.YtkocmkaeaagbaaaGreatDoor.Wd
namespace Go.Proofs.YtkocmkaeaagbaaaGreatDoor.Wd
open Go.RowKit Go.Proofs.YtkocmkaeaagbaaaGreatDoor.Mem Go.Proofs.YtkocmkaeaagbaaaGreatDoor.Bw Go.Proofs.YtkocmkaeaagbaaaGreatDoor.Nums Go.Proofs.YtkocmkaeaagbaaaGreatDoor.Hex Go.Proofs.YtkocmkaeaagbaaaGreatDoor.Prs Go.Proofs.YtkocmkaeaagbaaaGreatDoor.Mmu
theorem strs_drop {w : World} {b : Nat} {ls : List ByteArray} (h : StrsAt w b 0 ls) (n : Nat) : StrsAt w b n (ls.drop n) := fun j hj => by
 rw [List.length_drop] at hj
 have := h (n + j) (by omega)
 rw [Nat.zero_add] at this
 rw [this, List.getElem_drop]
theorem built_set {w : World} {T e B b bb o : Nat} {bs : List Value} (h : Lib.IsBuilder T e B b bs w) (hb : bb < B) (v : Value) : Lib.IsBuilder T e B b bs (w.setCell ⟨bb, o, none⟩ v) := by
 have kp : Kp (fun k => k = bb) w (w.setCell ⟨bb, o, none⟩ v) := (Kp.refl (fun k => k = bb) w).setCell (b := bb) (o := o) (Or.inl rfl) v
 have go : ∀ p, Lib.BuilderAt T e B b p bs w → Lib.BuilderAt T e B b p bs (w.setCell ⟨bb, o, none⟩ v) := fun p hp => by
  obtain ⟨h1, u, h2, h3, h4⟩ := hp
  exact ⟨h1, u, by rw [kp.block b (Array.getElem?_eq_some_iff.1 h2).1 (by omega)]; exact h2, own_kp h3 kp (fun k e => by have := (h3.lt k e).1; omega), h4⟩
 rcases h with h | h
 ·exact .inl (go _ h)
 ·exact .inr (go _ h)
theorem below_both {B : Nat} {a b : World} (h : Below B a b) (p : Addr) (u : Value) : Below B (a.setCell p u) (b.setCell p u) :=
 ⟨h.os, h.tape, h.output, by simp only [World.setCell, Array.size_modify]; exact h.size, fun k hk => by
  simp only [World.setCell, Array.getElem?_modify]
  rw [h.block k hk]⟩
/-- What upToEnd answers. -/
def UtA (w : World) (bb : Nat) (tag : Nat → Nat) (V : Nat → Value) (p : PW) (lv : Value) (N n : Nat) (r : Ending) (w' : World) : Prop :=
 (r = .returned (.tuple #[.string ⟨#[]⟩, .bool false]) ∧ Below w.heap.size w w') ∨ ∃ s n', r = .returned (.tuple #[.string s, .bool true]) ∧ Kt tag tag w w' ∧ Bld w' bb tag V p lv n' ∧ n ≤ n' ∧ n' ≤ N
set_option maxRecDepth 100000 in
set_option maxHeartbeats 4000000 in
theorem upToEnd_any (bb : Nat) (tag : Nat → Nat) (V : Nat → Value) (p : PW) (g c n : Nat) (ls : List ByteArray) (w : World) (h : Bld w bb tag V p (.slice (some ⟨g, 0, none⟩) ls.length c) n) (hS : StrsAt w g 0 ls) (hg : tag g = 0) (hn : n ≤ ls.length) (hc : ls.length ≤ c) (hl : ls.length ≤ 4001) (hz : ∀ t ∈ ls, t.size ≤ 4000) :
  Calls Tryz.prog 125 #[.pointer (some ⟨bb, 0, none⟩)] w fun r w' => UtA w bb tag V p (.slice (some ⟨g, 0, none⟩) ls.length c) ls.length n r w' := by
 have H := hid h
 have HS := hid hS
 have HG := hid hg
 have HZ := hid hz
 have h11 := h.l
 have h12 := h.n
 obtain ⟨L, hL⟩ : ∃ L, L = ls.length := ⟨_, rfl⟩
 rw [← hL] at h11 hn hc hl H ⊢
 have HL := hid hL
 have n1 : (n : Int) ≤ (L : Int) := by omega
 have n2 : (L : Int) ≤ (c : Int) := by omega
 have n3 : (L : Int) ≤ 4001 := by omega
 obtain ⟨m, hm⟩ := ix_of (ls.drop n) ⟨#[46]⟩
 have HM := hid hm
 have IX := hid (fun q cc W (hq : 0 < (ls.drop n).length → q = some ⟨g, n, none⟩) (hs : StrsAt W g n (ls.drop n)) => sIndex_any q g n cc m (ls.drop n) ⟨#[46]⟩ W hq hs (by rw [List.length_drop]; omega) hm)
 rw [show (ls.drop n).length = L - n by rw [List.length_drop, hL]] at IX
 have SD := hid (show ∀ k, StrsAt (w.drewN k) g n (ls.drop n) from fun k => StrsAt.below' (strs_drop hS n) (below_drewN (Below.refl _ _) k))
 clear h hS hg hz hm hL
 by_cases hlt : m < L - n
 rotate_left
 ·rw [show ixV (L - n) m = -1 from if_neg hlt] at IX
  clear hlt
  go_enter Tryz.func125, Tryz.ntmps125
  go_wp2_with fail
  go_quiet (first | (go_at_call 169; refine Calls.quiet_of_same (IX.out _ _ _ (fun h => by first | rfl | exact if_neg (by omega)) (SD.out _))))
  go_wp2_with fail
  all_goals (go_ret2; exact .inl ⟨rfl, below_drewN (Below.refl _ _) _⟩)
 rw [show ixV (L - n) m = (m : Int) from if_pos hlt] at IX
 have m0 : ¬ (m : Int) < 0 := by omega
 have cn : ¬ c = n := by omega
 have n4 : (n : Int) + (m : Int) ≤ (L : Int) := by omega
 have n5 : (n : Int) + (m : Int) ≤ (c : Int) := by omega
 go_enter Tryz.func125, Tryz.ntmps125
 go_wp2_with fail
 go_quiet (first | (go_at_call 169; refine Calls.quiet_of_same (IX.out _ _ _ (fun h => by first | rfl | exact if_neg (by omega)) (SD.out _))))
 go_upto_region 5 with fail
 have B2 := hid (show Below w.heap.size w ((w.drewN nq).alloc (.cells #[.pointer none, .slice none 0 0] 219)) from bal (below_drewN (Below.refl _ _) nq) _)
 have I2 := hid (show Lib.IsBuilder 219 5 w.heap.size w.heap.size [] ((w.drewN nq).alloc (.cells #[.pointer none, .slice none 0 0] 219)) from Lib.fresh_isBuilder 219 5 (w.drewN nq))
 have y2 := hid (show w.heap.size < ((w.drewN nq).alloc (.cells #[.pointer none, .slice none 0 0] 219)).heap.size by simp)
 have g11 := cell_up h11 B2.out
 have g12 := cell_up h12 B2.out
 generalize (w.drewN nq).alloc (.cells #[.pointer none, .slice none 0 0] 219) = w2 at *
 clear h11 IX SD
 go_quiet (fail)
 have B3 := hid (below_drewN B2.out nq)
 have I3 := hid (show Lib.IsBuilder 219 5 w.heap.size w.heap.size [] (w2.drewN nq) from Bd.is_below I2.out (below_drewN (Below.refl _ _) nq))
 have y3 := hid (show w.heap.size < (w2.drewN nq).heap.size by have := y2.out; simpa using this)
 rw [show n + m - n = m by omega]
 generalize w2.drewN nq = w3 at *
 clear B2 I2 y2 g11 g12
 go_wp2_with fail
 go_loopw [36] (fun i wr => ∃ (k : Nat) (l : List UInt8), k ≤ m ∧ i = .int .i64 k ∧ Hid (Lib.IsBuilder 219 5 w.heap.size w.heap.size (Lib.byteCells l) wr) ∧ Hid (l.length ≤ k * 4001) ∧ Hid (Below w.heap.size w wr) ∧ Hid (w.heap.size < wr.heap.size)) (fun i _ => m - (intOf i).toNat)
 case atStart => exact ⟨0, [], by omega, rfl, I3, hid (by simp), B3, y3⟩
 case round =>
  obtain ⟨k, l, hk, rfl, HI, HK, HB, HY⟩ := hrel
  by_cases hkm : k < m
  ·have hkm2 : (k : Int) < (m : Int) := by omega
   have hi : n + k < ls.length := by have := HL.out; omega
   have ck := cell_up (HS.out (n + k) hi) HB.out
   rw [Nat.zero_add] at ck
   have HT := hid (HZ.out _ (List.getElem_mem hi))
   generalize ls[n + k] = t at *
   clear hi
   go_wp2_with fail
   refine (Bd.writeString w.heap.size w.heap.size _ t _ HI.out (by rw [Lib.byteCells_length]; have := HK.out; have := HT.out; omega) (by have := HY.out; omega)).mono ?_
   rintro e w4 ⟨rfl, hI, hb⟩
   have I4 := hid hI
   have B4 := hid (HB.out.trans hb)
   have y4 := hid (Nat.lt_of_lt_of_le HY.out hb.size)
   clear hI hb ck
   go_wp2_with fail
   refine (Bd.writeByte w.heap.size w.heap.size _ _ _ I4.out (by rw [List.length_append, Lib.byteCells_length, Lib.strCells_length]; have := HK.out; have := HT.out; omega) (by have := y4.out; omega)).mono ?_
   rintro e w5 ⟨rfl, hI, hb⟩
   have I5 := hid hI
   have B5 := hid (B4.out.trans hb)
   have y5 := hid (Nat.lt_of_lt_of_le y4.out hb.size)
   clear hI hb
   go_wp2_with fail
   refine ⟨⟨k + 1, l ++ t.data.toList ++ [10], by omega, by go_num, hid ?_, hid ?_, B5, y5⟩, by simp [intOf]; omega⟩
   ·have e2 := I5.out
    simpa [Lib.byteCells, Lib.strCells] using e2
   ·have := HK.out
    have h2 := HT.out
    rw [size_list] at h2
    simp only [List.length_append, List.length_cons, List.length_nil]
    omega
  ·obtain rfl : k = m := by omega
   have hge : ¬ ((k : Int) < (k : Int)) := by omega
   have g12 := cell_up h12 HB.out
   have fz : wr.frozen? ⟨bb, 12, none⟩ = false := ((H.out.below HB.out).t 12 (by omega)).2
   have LT := hid (show bb < w.heap.size from H.out.b.lt)
   go_wp2_with fail
   rw [show (n : Int) + ((k : Int) + 1) = ((n + (k + 1) : Nat) : Int) by omega]
   have SN := hid (H.out.setNext (n + (k + 1)))
   have I6 := hid (built_set (o := 12) HI.out LT.out (.int .i64 ((n + (k + 1) : Nat) : Int)))
   have y6 := hid (show w.heap.size ≤ (wr.setCell ⟨bb, 12, none⟩ (.int .i64 ((n + (k + 1) : Nat) : Int))).heap.size by have := HY.out; simp [World.setCell]; omega)
   have B6 := hid (below_both HB.out ⟨bb, 12, none⟩ (.int .i64 ((n + (k + 1) : Nat) : Int)))
   have z6 := hid (show (w.setCell ⟨bb, 12, none⟩ (.int .i64 ((n + (k + 1) : Nat) : Int))).heap.size = w.heap.size by simp [World.setCell])
   have n6 := hid (show n + (k + 1) ≤ L by omega)
   generalize wr.setCell ⟨bb, 12, none⟩ (.int .i64 ((n + (k + 1) : Nat) : Int)) = w6 at *
   clear g12 fz h12 HI HB HY
   refine (Tryz.Builder_String_any w.heap.size w.heap.size l w6 I6.out y6.out).mono ?_
   rintro e w7 ⟨rfl, hb⟩
   have B7 := hid (B6.out.trans hb)
   clear hb
   go_wp2_with fail
   go_ret2
   have B8 := B7.out
   rw [← z6.out] at B8
   exact .inr ⟨_, n + (k + 1), rfl, SN.out.2.trans (Kt.below B8), SN.out.1.below B8, by omega, n6.out⟩
end Go.Proofs.YtkocmkaeaagbaaaGreatDoor.Wd
