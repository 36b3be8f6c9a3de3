/- world.New, where there is no world; a new world is one of one's own. (Written by mk_wnc.py.) · A world out of a text: begin: a new world comes into the builder's box; walked. · A world out of a text: begin, walked. (Written by mk_boq.py.) · A world out of a text: the orders, each by its numbers. -/
import Derived.Test.YtkocmkaeaagbaaaGreatDoorQbn
import Derived.Test.YtkocmkaeaagbaaaGreatDoorQbj
import Derived.Test.YtkocmkaeaagbaaaGreatDoorQbk
import Derived.Test.YtkocmkaeaagbaaaGreatDoorQbl
namespace Go.Proofs.YtkocmkaeaagbaaaGreatDoor.Wn
open Go.RowKit Go.Proofs.YtkocmkaeaagbaaaGreatDoor.Mem Go.Proofs.YtkocmkaeaagbaaaGreatDoor.Bw Go.Proofs.YtkocmkaeaagbaaaGreatDoor.Nums Go.Proofs.YtkocmkaeaagbaaaGreatDoor.Mmu Go.Proofs.YtkocmkaeaagbaaaGreatDoor.Wd
theorem zOne : (#[.slice none 0 0, .slice none 0 0, .slice none 0 0, .slice none 0 0, .slice none 0 0, .slice none 0 0, .slice none 0 0, .slice none 0 0, .slice none 0 0, .slice none 0 0, .int .i64 0] : Array Value).all (·.oneCell') = true := by simp [Value.oneCell']
set_option maxRecDepth 100000 in
set_option maxHeartbeats 400000 in
theorem new_range (f c : Int) (dv : Value) (zs : List Int) (w : World) (hd : IntsIn w dv zs) (hl : zs.length ≤ 100000) (hc : ¬ ((1 ≤ f ∧ f ≤ 24) ∧ (1 ≤ c ∧ c ≤ 4) ∧ (1 ≤ (zs.length : Int) ∧ (zs.length : Int) ≤ 8))) :
  Calls Tryz.prog 114 #[.int .i64 f, .int .i64 c, dv] w fun r w' => r = .returned (.tuple #[.agg (arr11 zeroV), .iface 29 (.int .i64 2)]) ∧ Below w.heap.size w w' := by
 obtain ⟨q, b, off, cap, rfl, -, -⟩ := hd
 have HC := hid (decide_eq_false hc)
 have z2 : (zs.length : Int) ≤ 100000 := by omega
 have B0 := hid (bal (Below.refl w.heap.size w) (.cells #[.slice none 0 0, .slice none 0 0, .slice none 0 0, .slice none 0 0, .slice none 0 0, .slice none 0 0, .slice none 0 0, .slice none 0 0, .slice none 0 0, .slice none 0 0, .int .i64 0] 28))
 clear hc
 go_enter Tryz.func114, Tryz.ntmps114
 go_wp2_with fail
 refine (countsFit_any f c zs.length _).mono ?_
 rintro r wx ⟨rfl, rfl⟩
 rw [HC.out]
 go_wp2_with fail
 have RG := range_newA w (#[.slice none 0 0, .slice none 0 0, .slice none 0 0, .slice none 0 0, .slice none 0 0, .slice none 0 0, .slice none 0 0, .slice none 0 0, .slice none 0 0, .slice none 0 0, .int .i64 0] : Array Value).toList #[.slice none 0 0, .slice none 0 0, .slice none 0 0, .slice none 0 0, .slice none 0 0, .slice none 0 0, .slice none 0 0, .slice none 0 0, .slice none 0 0, .slice none 0 0, .int .i64 0] 28 w.heap.size rfl rfl
 refine bodyPost_ret (v := .tuple #[.agg #[.slice none 0 0, .slice none 0 0, .slice none 0 0, .slice none 0 0, .slice none 0 0, .slice none 0 0, .slice none 0 0, .slice none 0 0, .slice none 0 0, .slice none 0 0, .int .i64 0], .iface 29 (.int .i64 2)]) (results_d2 rfl rfl (run_loadVar_mid _ w.heap.size 0 28 _ _ RG Tryz.underlying28 rfl info11) rfl) rfl ⟨rfl, B0.out⟩
set_option maxRecDepth 100000 in
set_option maxHeartbeats 400000 in
theorem new_bad (f c : Int) (dv : Value) (zs : List Int) (w : World) (hd : IntsIn w dv zs) (hc : (1 ≤ f ∧ f ≤ 24) ∧ (1 ≤ c ∧ c ≤ 4) ∧ (1 ≤ (zs.length : Int) ∧ (zs.length : Int) ≤ 8)) (hz : zs.findIdx nd < zs.length) :
  Calls Tryz.prog 114 #[.int .i64 f, .int .i64 c, dv] w fun r w' => ∃ b, r = .returned (.tuple #[.agg (arr11 zeroV), .iface 96 (.pointer (some ⟨b, 0, none⟩))]) ∧ w'.cell? ⟨b, 0, none⟩ = some (.int .i64 (zs.findIdx nd)) ∧ w'.cell? ⟨b, 1, none⟩ = some (.iface 29 (.int .i64 2)) ∧ Below w.heap.size w w' := by
 have HD := hid hd
 obtain ⟨q, b, off, cap, rfl, -, -⟩ := hd
 have HC := hid (decide_eq_true hc)
 have z2 : (zs.length : Int) ≤ 8 := by omega
 have z1 : zs.length ≤ 8 := by omega
 have HZ := hid hz
 have C0 := hid (there_new w #[.slice none 0 0, .slice none 0 0, .slice none 0 0, .slice none 0 0, .slice none 0 0, .slice none 0 0, .slice none 0 0, .slice none 0 0, .slice none 0 0, .slice none 0 0, .int .i64 0] 28 w.heap.size 11 rfl (by decide))
 have B0 := hid (bal (Below.refl w.heap.size w) (.cells #[.slice none 0 0, .slice none 0 0, .slice none 0 0, .slice none 0 0, .slice none 0 0, .slice none 0 0, .slice none 0 0, .slice none 0 0, .slice none 0 0, .slice none 0 0, .int .i64 0] 28))
 have C1x := hid (cells_new w #[.slice none 0 0, .slice none 0 0, .slice none 0 0, .slice none 0 0, .slice none 0 0, .slice none 0 0, .slice none 0 0, .slice none 0 0, .slice none 0 0, .slice none 0 0, .int .i64 0] 28 0)
 have S0 := hid (show w.heap.size < (w.alloc (.cells #[.slice none 0 0, .slice none 0 0, .slice none 0 0, .slice none 0 0, .slice none 0 0, .slice none 0 0, .slice none 0 0, .slice none 0 0, .slice none 0 0, .slice none 0 0, .int .i64 0] 28)).heap.size by simp)
 clear hc hz
 go_enter Tryz.func114, Tryz.ntmps114
 go_wp2_with fail
 refine (countsFit_any f c zs.length _).mono ?_
 rintro r wx ⟨rfl, rfl⟩
 rw [HC.out]
 go_wp2_with fail
 generalize World.alloc _ _ = W0 at B0 C0 S0 C1x ⊢
 refine (look_doms _ zs W0 (HD.out.below B0.out) (by omega)).mono ?_
 rintro r w1 ⟨e, rfl, hL, hb⟩
 rcases hL with ⟨he, _⟩ | ⟨b, -, rfl, x0, x1⟩
 ·have := HZ.out
  omega
 ·have B1 := hid (btr B0.out hb)
  have TH := hid (there_belowO C0.out hb)
  have hne : b ≠ w.heap.size := by
   rintro rfl
   have h2 := hb.cell (p := ⟨w.heap.size, 0, none⟩) S0.out
   have h3 := C1x.out
   rw [x0, h3] at h2
   cases h2
  have X0 := hid x0
  have X1 := hid x1
  clear x0 x1 hb
  go_wp2_with (first
   | ((with_reducible (show wpList _ _ _ (⟨_, Op.store 28 _ _, _, _, _, _⟩ :: _) _ _)); refine wpList_store_mid rfl 28 _ _ rfl w.heap.size 0 #[.slice none 0 0, .slice none 0 0, .slice none 0 0, .slice none 0 0, .slice none 0 0, .slice none 0 0, .slice none 0 0, .slice none 0 0, .slice none 0 0, .slice none 0 0, .int .i64 0] rfl rfl TH.out info11 zOne ?_))
  have RG := World.rangeAt_setCells_same _ w.heap.size 0 (#[.slice none 0 0, .slice none 0 0, .slice none 0 0, .slice none 0 0, .slice none 0 0, .slice none 0 0, .slice none 0 0, .slice none 0 0, .slice none 0 0, .slice none 0 0, .int .i64 0] : Array Value).toList TH.out
  refine bodyPost_ret (v := .tuple #[.agg #[.slice none 0 0, .slice none 0 0, .slice none 0 0, .slice none 0 0, .slice none 0 0, .slice none 0 0, .slice none 0 0, .slice none 0 0, .slice none 0 0, .slice none 0 0, .int .i64 0], .iface 96 (.pointer (some ⟨b, 0, none⟩))]) (results_d2 rfl rfl (run_loadVar_mid _ w.heap.size 0 28 _ _ RG Tryz.underlying28 rfl info11) rfl) rfl ⟨b, rfl, ?_, ?_, below_setCells B1.out (Nat.le_refl _) _ _⟩
  ·rw [cell_setCells hne]
   exact X0.out
  ·rw [cell_setCells hne]
   exact X1.out
/-- .. as deeds want it. -/
theorem NwX.worldT {W : World} {L : Nat} {X : Nat → Value} {p : PW} (h : NwX W L p X) (l4 : ∀ l ∈ p.lines, l = []) (l7 : ∀ l ∈ p.ready, l = []) (l8 : ∀ l ∈ p.tlbs, l = []) : WorldT W (fun k => tagN' X k 10) X p ∧ ∀ k, k < L → tagN' X k 10 = 0 := by
 have own := fun i (hi : i < 10) => own_0 (h.own i hi)
 have tg : ∀ i, i < 10 → ∀ k, (X i).ownBlock = some k → tagN' X k 10 = i + 2 := fun i hi k e => tagN_at e 10 hi fun j hj hji => h.dj i j hi hj (Ne.symm hji) k e
 obtain ⟨g4, e4⟩ := h.f4
 obtain ⟨g7, e7⟩ := h.f7
 obtain ⟨g8, e8⟩ := h.f8
 have z : ∀ k, k < L → ∀ n, n ≤ 10 → tagN' X k n = 0 := fun k hk n => by
  induction n with
  | zero => intro _; rfl
  | succ n ih =>
   intro hn
   unfold tagN'
   rw [if_neg (fun e => by have := ((h.own n (by omega)).lt k e).1; omega)]
   exact ih (by omega)
 refine ⟨⟨⟨own 0 (by omega), tg 0 (by omega)⟩, ⟨own 1 (by omega), tg 1 (by omega)⟩, ⟨own 2 (by omega), tg 2 (by omega)⟩, ⟨own 3 (by omega), tg 3 (by omega)⟩, nils_in e4 (tg 4 (by omega) g4 (by rw [e4]; rfl)) (own 4 (by omega)) fun j hj => ?_, ⟨own 5 (by omega), tg 5 (by omega)⟩, ⟨own 6 (by omega), tg 6 (by omega)⟩, nils_in e7 (tg 7 (by omega) g7 (by rw [e7]; rfl)) (own 7 (by omega)) fun j hj => ?_, nils_in e8 (tg 8 (by omega) g8 (by rw [e8]; rfl)) (own 8 (by omega)) fun j hj => ?_, ⟨own 9 (by omega), tg 9 (by omega)⟩, h.t⟩, fun k hk => z k hk 10 (Nat.le_refl _)⟩
 ·unfold ci; rw [List.getD_eq_getElem?_getD, List.getElem?_eq_getElem hj]; rw [show (some p.lines[j]).getD [] = [] from l4 _ (List.getElem_mem hj)]; rfl
 ·unfold ci; rw [List.getD_eq_getElem?_getD, List.getElem?_eq_getElem hj]; rw [show (some p.ready[j]).getD [] = [] from l7 _ (List.getElem_mem hj)]; rfl
 ·unfold ce; rw [List.getD_eq_getElem?_getD, List.getElem?_eq_getElem hj]; rw [show (some p.tlbs[j]).getD [] = [] from l8 _ (List.getElem_mem hj)]; rfl
theorem new_worldT {W : World} {L f c : Nat} {zs : List Int} {X : Nat → Value} (h : NwX W L (newP f c zs) X) : WorldT W (fun k => tagN' X k 10) X (newP f c zs) ∧ ∀ k, k < L → tagN' X k 10 = 0 :=
 h.worldT (fun _ h => List.eq_of_mem_replicate h) (fun _ h => List.eq_of_mem_replicate h) (fun _ h => List.eq_of_mem_replicate h)
end Go.Proofs.YtkocmkaeaagbaaaGreatDoor.Wn
namespace Go.Proofs.YtkocmkaeaagbaaaGreatDoor.Wd
open Go.RowKit Go.Proofs.YtkocmkaeaagbaaaGreatDoor.Mem Go.Proofs.YtkocmkaeaagbaaaGreatDoor.Bw Go.Proofs.YtkocmkaeaagbaaaGreatDoor.Nums Go.Proofs.YtkocmkaeaagbaaaGreatDoor.Mmu
/-- The builder, where no world has begun. -/
structure Bz (W : World) (bb : Nat) (lv : Value) (n : Nat) : Prop where
 r : W.rangeAt bb 0 (arr11 zeroV).toList
 l : W.cell? ⟨bb, 11, none⟩ = some lv
 n : W.cell? ⟨bb, 12, none⟩ = some (.int .i64 n)
 t : W.there bb 0 13
theorem Bz.below {W W' : World} {bb : Nat} {lv : Value} {n : Nat} (h : Bz W bb lv n) (hb : Below W.heap.size W W') : Bz W' bb lv n :=
 ⟨range_below h.r hb, cell_up h.l hb, cell_up h.n hb, there_kp h.t (.of_below (T := fun _ => False) hb) id⟩
def tg1 (bb k : Nat) : Nat := if k = bb then 1 else 0
/-- Numbers of a small world. -/
def newG (x y : Int) (zs : List Int) : Prop := x = 2 ∧ y = 1 ∧ zs = [0]
/-- What world.New answers. -/
def NwA (w w' : World) (G : Prop) (X : Nat → Value) (ev : Value) : Prop :=
 (∃ f c zs, (1 ≤ f ∧ f ≤ 24) ∧ (1 ≤ c ∧ c ≤ 4) ∧ (1 ≤ zs.length ∧ zs.length ≤ 8) ∧ (∀ d ∈ zs, (0 : Int) ≤ d ∧ d ≤ 3) ∧ ev = .nilIface ∧ Wn.NwX w' w.heap.size (newP f c zs) X) ∨ (ErrT w' ev ∧ (∃ t v, ev = .iface t v) ∧ ¬ G)
theorem new_any (x y : Int) (dv : Value) (zs : List Int) (w : World) (hd : IntsIn w dv zs) (hl : zs.length ≤ 100000) :
  Calls Tryz.prog 114 #[.int .i64 x, .int .i64 y, dv] w fun r w' => ∃ X ev, r = .returned (.tuple #[.agg (arr11 X), ev]) ∧ NwA w w' (newG x y zs) X ev ∧ Below w.heap.size w w' := by
 by_cases hc : (1 ≤ x ∧ x ≤ 24) ∧ (1 ≤ y ∧ y ≤ 4) ∧ (1 ≤ (zs.length : Int) ∧ (zs.length : Int) ≤ 8)
 ·by_cases hz : zs.findIdx nd < zs.length
  ·refine (Wn.new_bad x y dv zs w hd hc hz).mono ?_
   rintro r w' ⟨b, rfl, h1, h2, hb⟩
   exact ⟨zeroV, _, rfl, .inr ⟨⟨_, _, .inr (.inr ⟨_, 0, rfl, h1, h2⟩)⟩, ⟨_, _, rfl⟩, fun h => (by obtain ⟨_, _, rfl⟩ := h; revert hz; decide)⟩, hb⟩
  ·have hz2 : zs.findIdx nd = zs.length := Nat.le_antisymm List.findIdx_le_length (by omega)
   obtain ⟨f, rfl⟩ := Int.eq_ofNat_of_zero_le (show 0 ≤ x by omega)
   obtain ⟨c, rfl⟩ := Int.eq_ofNat_of_zero_le (show 0 ≤ y by omega)
   refine (Wn.new_own f c dv zs w hd (by omega) (by omega) (by omega) (by omega) (by omega) (by omega) hz2).mono ?_
   rintro r w' ⟨X, rfl, h1, hb⟩
   refine ⟨X, _, rfl, .inl ⟨f, c, zs, by omega, by omega, by omega, fun d hm => ?_, rfl, h1⟩, hb⟩
   have h3 := List.findIdx_eq_length.1 hz2 d hm
   unfold nd at h3
   simpa using h3
 ·refine (Wn.new_range x y dv zs w hd hl hc).mono ?_
  rintro r w' ⟨rfl, hb⟩
  exact ⟨zeroV, _, rfl, .inr ⟨errT_no w' 2, ⟨_, _, rfl⟩, fun h => hc (by obtain ⟨rfl, rfl, rfl⟩ := h; decide)⟩, hb⟩
set_option maxHeartbeats 2000000 in
theorem become_if (bb : Nat) (X : Nat → Value) (t : TypeId) (v : Value) (w : World) :
  Calls Tryz.prog 113 #[.pointer (some ⟨bb, 0, none⟩), .agg (arr11 X), .iface t v] w fun r w' => r = .returned (.iface t v) ∧ Below w.heap.size w w' := by
 go_enter Tryz.func113, Tryz.ntmps113
 go_wp2_with fail
 go_ret
 exact ⟨rfl, bal (Below.refl _ _) _⟩
/-- What become leaves behind world.New. -/
def BgA (w0 w3 : World) (bb : Nat) (lv : Value) (n : Nat) (G : Prop) (ev : Value) : Prop :=
 (∃ f c zs X tag', (1 ≤ f ∧ f ≤ 24) ∧ (1 ≤ c ∧ c ≤ 4) ∧ (1 ≤ zs.length ∧ zs.length ≤ 8) ∧ (∀ d ∈ zs, (0 : Int) ≤ d ∧ d ≤ 3) ∧ ev = .nilIface ∧ BoxT w3 bb tag' X (newP f c zs) ∧ w3.cell? ⟨bb, 11, none⟩ = some lv ∧ w3.cell? ⟨bb, 12, none⟩ = some (.int .i64 n) ∧ w3.there bb 0 13 ∧ Kt (tg1 bb) tag' w0 w3) ∨ (ErrT w3 ev ∧ (∃ t v, ev = .iface t v) ∧ Below w0.heap.size w0 w3 ∧ ¬ G)
theorem begun {w0 w1 : World} {G : Prop} {bb : Nat} {X : Nat → Value} {lv ev : Value} {n : Nat} (h : Bz w0 bb lv n) (ha : NwA w0 w1 G X ev) (hb : Below w0.heap.size w0 w1) :
  Calls Tryz.prog 113 #[.pointer (some ⟨bb, 0, none⟩), .agg (arr11 X), ev] w1 fun r w' => ∃ ev, r = .returned ev ∧ BgA w0 w' bb lv n G ev := by
 have hl : bb < w0.heap.size := World.block_lt_of_cell? _ ⟨bb, 11, none⟩ h.l
 have B1 := h.below hb
 rcases ha with ⟨f, c, zs, c1, c2, c3, c4, rfl, hx⟩ | ⟨he, ⟨t, v, rfl⟩, hg⟩
 ·obtain ⟨wt, wz⟩ := Wn.new_worldT hx
  have t11 : w1.there bb 0 11 := fun j hj => B1.t j (by omega)
  refine (become_yes bb X w1 t11 wt.ones).mono ?_
  rintro r w' ⟨rfl, rfl⟩
  have hbo := bal hb (.cells (arr11 X) 28)
  have B2 := h.below hbo
  have wo := wt.below (bal (Below.refl w1.heap.size w1) (.cells (arr11 X) 28))
  have bx := wo.box (wz bb hl) (fun j hj => B2.t j (by omega))
  have cs : ∀ i v, 11 ≤ i → (w1.alloc (.cells (arr11 X) 28)).cell? ⟨bb, i, none⟩ = some v → ((w1.alloc (.cells (arr11 X) 28)).setCells bb 0 (arr11 X).toList).cell? ⟨bb, i, none⟩ = some v := fun i v hi hv => by
   have := World.rangeAt_setCells_apart (w := w1.alloc (.cells (arr11 X) 28)) (b' := bb) (o' := i) (cs := [v]) (fun k x hx => by
    match k, hx with
    | 0, hx => cases hx; exact hv
    | k + 1, hx => cases hx) bb 0 (arr11 X).toList (.inr (.inr (by show 0 + 11 ≤ i; omega)))
   exact this 0 v rfl
  refine ⟨_, rfl, .inl ⟨f, c, zs, X, _, c1, c2, c3, c4, rfl, bx, cs 11 _ (by omega) B2.l, cs 12 _ (by omega) B2.n, World.there_setCells B2.t _ _ _, ⟨?_, fun k hk h0 => ?_⟩⟩⟩
  ·have k0 : Kp (fun k => tg1 bb k ≠ 0) w0 (w1.alloc (.cells (arr11 X) 28)) := .of_below hbo
   exact Kp.setCells (.inl (by unfold tg1; rw [if_pos rfl]; decide)) _ _ _ k0
  ·have hne : ¬ k = bb := fun e => by rw [e] at h0; unfold tg1 at h0; rw [if_pos rfl] at h0; cases h0
   show (if k = bb then 1 else _) = 0
   rw [if_neg hne]
   exact wz k hk
 ·refine (become_if bb X t v w1).mono ?_
  rintro r w' ⟨rfl, hb2⟩
  obtain ⟨e, a, ht⟩ := he
  exact ⟨_, rfl, .inr ⟨⟨e, a, ht.below hb2⟩, ⟨t, v, rfl⟩, btr hb hb2, hg⟩⟩
end Go.Proofs.YtkocmkaeaagbaaaGreatDoor.Wd
namespace Go.Proofs.YtkocmkaeaagbaaaGreatDoor.Wd
open Go.RowKit Go.Proofs.YtkocmkaeaagbaaaGreatDoor.Mem Go.Proofs.YtkocmkaeaagbaaaGreatDoor.Bw Go.Proofs.YtkocmkaeaagbaaaGreatDoor.Nums Go.Proofs.YtkocmkaeaagbaaaGreatDoor.Mmu
/-- It is done, where all is well. -/
def Gd (G : Prop) (r : Ending) : Prop := G → r = .returned .nilIface
theorem gd_yes (G : Prop) : Gd G (.returned .nilIface) := fun _ => rfl
theorem gd_no {G : Prop} {r : Ending} (h : ¬ G) : Gd G r := fun h2 => absurd h2 h
set_option maxRecDepth 100000 in
set_option maxHeartbeats 4000000 in
theorem bbegin_any (bb : Nat) (lv : Value) (n N g c m : Nat) (x y : Int) (zs : List Int) (w : World) (h : Bz w bb lv n) (hx : w.cell? ⟨g, 0, none⟩ = some (.int .i64 x)) (hy : w.cell? ⟨g, 1, none⟩ = some (.int .i64 y)) (hz : IntsAt w g 2 zs) (hm : m = zs.length + 2) (hl : 1 ≤ zs.length) (hl2 : zs.length ≤ 100000) (hc : m ≤ c) :
  Calls Tryz.prog 75 #[.pointer (some ⟨bb, 0, none⟩), .slice (some ⟨g, 0, none⟩) m c] w fun r w' => DoA w bb (tg1 bb) lv N n r w' ∧ Gd (newG x y zs) r := by
 have B0 := hid (show Below w.heap.size w w.drew from below_drew w 1)
 have H := hid (h.below B0.out)
 have X0 := hid (cell_up hx B0.out)
 have Y0 := hid (cell_up hy B0.out)
 have Z := hid (hz.below B0.out)
 have m1 : 1 < m := by omega
 have m0 : 0 < m := by omega
 have m2 : 2 ≤ m := by omega
 have i0 : (0 : Int) < (m : Int) := by omega
 have i1 : (1 : Int) < (m : Int) := by omega
 have i2 : (2 : Int) ≤ (m : Int) := by omega
 have i3 : (m : Int) ≤ (c : Int) := by omega
 have c2 : ¬ c = 2 := by omega
 have c3 : m ≤ c := hc
 have ME := hid (show m - 2 = zs.length by omega)
 have L2 := hid hl2
 clear h hx hy hz hm hl hl2 hc
 go_enter Tryz.func75, Tryz.ntmps75
 go_wp2_with fail
 refine Rf.wp_region_H (R := fun W => W.cell? ⟨g, 0, none⟩ = some (.int .i64 x) ∧ W.cell? ⟨g, 1, none⟩ = some (.int .i64 y)) [9] [] 14 (by kernel_rfl) ⟨X0.out, Y0.out⟩ (by kernel_rfl) (by kernel_rfl) (by kernel_rfl) (fun _ => Rf.rd_nil ?_)
 generalize w.drew = w1 at *
 have RR := hid (show (fun W : World => W.cell? ⟨g, 0, none⟩ = some (.int .i64 x) ∧ W.cell? ⟨g, 1, none⟩ = some (.int .i64 y)) w1 from ⟨X0.out, Y0.out⟩)
 refine Rf.wpAnyF_groupS (by kernel_rfl) _ RR.out [0, 1, 2] 11 _ _ (by kernel_rfl) ?_
 repeat (refine Rf.rd_st rfl (by rfl) (fun _ _ _ _ h => h) ?_; apply Exists.intro; refine ⟨fun W _ => ?_, ?_⟩; (focus (go_simp; try rfl)); simp only [jj])
 refine Rf.rd_nil ?_
 refine Rf.wpAnyF_group (by kernel_rfl) _ RR.out [3] 10 _ _ (by kernel_rfl) ?_
 refine Rf.rd_st rfl (by rfl) (fun _ _ _ _ h => h) ?_; apply Exists.intro; refine ⟨fun W h => ?_, ?_⟩; (focus (have h0 := h.1; clear h; go_simp; try rfl)); simp only [jj]
 refine Rf.rd_nil ?_
 refine Rf.wpAnyF_groupS (by kernel_rfl) _ RR.out [4, 5] 8 _ _ (by kernel_rfl) ?_
 repeat (refine Rf.rd_st rfl (by rfl) (fun _ _ _ _ h => h) ?_; apply Exists.intro; refine ⟨fun W _ => ?_, ?_⟩; (focus (go_simp; try rfl)); simp only [jj])
 refine Rf.rd_nil ?_
 refine Rf.wpAnyF_group (by kernel_rfl) _ RR.out [6] 7 _ _ (by kernel_rfl) ?_
 refine Rf.rd_st rfl (by rfl) (fun _ _ _ _ h => h) ?_; apply Exists.intro; refine ⟨fun W h => ?_, ?_⟩; (focus (have h0 := h.2; clear h; go_simp; try rfl)); simp only [jj]
 refine Rf.rd_nil ?_
 refine Rf.wpAnyF_groupS (by kernel_rfl) _ RR.out [7, 8] 5 _ _ (by kernel_rfl) ?_
 repeat (refine Rf.rd_st rfl (by rfl) (fun _ _ _ _ h => h) ?_; apply Exists.intro; refine ⟨fun W _ => ?_, ?_⟩; (focus (go_simp; try rfl)); simp only [jj])
 refine Rf.rd_nil ?_
 rw [ME.out]
 have SA := hid (new_any x y (.slice (some ⟨g, 2, none⟩) zs.length (c - 2)) zs w1 ⟨_, g, 2, _, rfl, fun _ => rfl, Z.out⟩ L2.out)
 refine Rf.wpAnyF_ready (rs := [9]) (by kernel_rfl) (by simp) (Rf.AllReadyF.cons rfl (fun K hK => ?_) Rf.AllReadyF.nil)
 refine wnt (by rfl) ?_
 go_simp
 refine SA.out.mono ?_
 rintro r w2 ⟨X, ev0, rfl, hf, hb⟩
 have BC := hid (begun H.out hf hb)
 have R2 := hid (show (fun W : World => W.cell? ⟨g, 0, none⟩ = some (.int .i64 x) ∧ W.cell? ⟨g, 1, none⟩ = some (.int .i64 y)) w2 from ⟨cell_up X0.out hb, cell_up Y0.out hb⟩)
 clear hf hb SA RR
 go_wp2_with fail
 refine hK.out _ _ trivial (Rf.notClean (by kernel_rfl)) (fun _ _ => ?_)
 clear hK K
 try simp only [jj]
 refine Rf.wpAnyF_groupS (by kernel_rfl) _ R2.out [10, 11] 2 _ _ (by kernel_rfl) ?_
 repeat (refine Rf.rd_st rfl (by rfl) (fun _ _ _ _ h => h) ?_; apply Exists.intro; refine ⟨fun W _ => ?_, ?_⟩; (focus (go_simp; try rfl)); simp only [jj])
 refine Rf.rd_nil ?_
 refine Rf.wpAnyF_ready (rs := [12]) (by kernel_rfl) (by simp) (Rf.AllReadyF.cons rfl (fun K hK => ?_) Rf.AllReadyF.nil)
 refine wnt (by rfl) ?_
 go_simp
 refine BC.out.mono ?_
 rintro r w3 ⟨ev, rfl, hd⟩
 have DD := hid hd
 clear hd BC R2
 go_wp2_with fail
 refine hK.out _ _ trivial (Rf.notClean (by kernel_rfl)) (fun _ _ => ?_)
 clear hK K
 try simp only [jj]
 refine Rf.wpAnyF_ready (rs := [13]) (by kernel_rfl) (by simp) (Rf.AllReadyF.cons rfl (fun K hK => ?_) Rf.AllReadyF.nil)
 refine wnt (by rfl) ?_
 go_simp
 refine hK.out _ _ trivial (Rf.notClean (by kernel_rfl)) (fun _ _ => ?_)
 clear hK K
 try simp only [jj]
 refine Rf.wpAnyF_done (by kernel_rfl) ?_ _
 rcases DD.out with ⟨f, cc, ds, V, tag', c1, c2', c3', c4, rfl, hbx, h11, h12, hth, hkt⟩ | ⟨he, ⟨t, v, rfl⟩, hb, hg⟩
 ·obtain ⟨p, hp⟩ : ∃ p, p = newP f cc ds := ⟨_, rfl⟩
  have hk0 : 0 < p.kinds.length := by rw [hp]; simp [newP]; omega
  have hs0 : 0 < p.slots.length := by rw [hp]; simp [newP]; omega
  have S6 := hid (show p.slots[0] 6 = ndk 6 by subst hp; exact congrFun (List.eq_of_mem_replicate (List.getElem_mem hs0)) 6)
  have BT := hid (bt_new c1 c2' c3' c4)
  have PE := hid (show wlP f cc ds = { p with kinds := p.kinds.set 0 5, slots := p.slots.set 0 ndk } by rw [hp]; rfl)
  rw [← hp] at hbx
  rw [PE.out] at BT
  have KT := hid hkt
  have HL := hid h11
  have HN := hid h12
  have HT := hid hth
  obtain ⟨gk, ck, ek⟩ := hbx.o.kinds.form hk0
  obtain ⟨gs, cs, es⟩ := hbx.o.slots.form hs0
  have RK := hid (show InT w3 tag' 3 3 1 (.slice (some ⟨gk, 0, none⟩) p.kinds.length ck) (p.kinds.length, ints p.kinds) by rw [← ek]; exact hbx.o.kinds)
  have RS := hid (show InT w3 tag' 4 45 7 (.slice (some ⟨gs, 0, none⟩) p.slots.length cs) (p.slots.length, rowsC 7 p.slots) by rw [← es]; exact hbx.o.slots)
  have NK := hid (RK.out.ne hbx.g (by decide))
  have NS := hid (RS.out.ne hbx.g (by decide))
  have BL := hid hbx.lt
  have B1 := hid (hbx.kindsCell ek 0 5)
  have k1 : w3.cell? ⟨bb, 1, none⟩ = some (.slice (some ⟨gk, 0, none⟩) p.kinds.length ck) := by rw [range_cell hbx.r (k := 1) rfl, ek]
  have cK := RK.out.int hk0
  have fK := RK.out.frozen 0
  have ki : (0 : Int) < (p.kinds.length : Int) := by omega
  have si : (0 : Int) < (p.slots.length : Int) := by omega
  have KP := hid ((Kp.refl (fun k => k = gk) w3).setCell (b := gk) (o := 0) (Or.inl rfl) (.int .i64 5))
  have S2 := hid (B1.out.1.slotsSix (i := 0) es hs0 ndk S6.out)
  have k2 : (w3.setCell ⟨gk, 0, none⟩ (.int .i64 5)).cell? ⟨bb, 2, none⟩ = some (.slice (some ⟨gs, 0, none⟩) p.slots.length cs) := by rw [range_cell B1.out.1.r (k := 2) rfl, es]
  have TH := hid (show (w3.setCell ⟨gk, 0, none⟩ (.int .i64 5)).there gs 0 6 from by
   have h2 := B1.out.1.o.slots
   rw [es] at h2
   exact h2.there 0 6 (by show 0 + 6 ≤ p.slots.length * 7; omega))
  have K1 := hid (show (#[Value.int .i64 5, .int .i64 0, .int .i64 1, .int .i64 0, .int .i64 7, .int .i64 0] : Array Value).all (·.oneCell') = true by simp [Value.oneCell'])
  clear hbx hkt h11 h12 hth ek es hp DD c1 c2' c3' c4 m0 m1 m2 i0 i1 i2 i3 c2 c3
  generalize hw4 : w3.setCell ⟨gk, 0, none⟩ (.int .i64 5) = w4 at *
  have HW := hid hw4
  clear hw4
  go_upto_region 5 with fail
  rw [HW.out]
  go_wp2_with (first | ((with_reducible (show wpList _ _ _ (⟨_, Op.store 43 _ _, _, _, _, _⟩ :: _) _ _)); refine wpList_store_mid rfl 43 _ _ rfl gs 0 #[.int .i64 5, .int .i64 0, .int .i64 1, .int .i64 0, .int .i64 7, .int .i64 0] rfl rfl TH.out (by rw [info6k]; rfl) (K1.out) ?_))
  go_ret
  have lt4 : bb < w4.heap.size := Nat.lt_of_lt_of_le BL.out KP.out.size
  have c4' : ∀ i v, w3.cell? ⟨bb, i, none⟩ = some v → (w4.setCells gs (0 * 7) (cf 6 ndk)).cell? ⟨bb, i, none⟩ = some v := fun i v hv => (S2.out.2.2.cell (p := ⟨bb, i, none⟩) lt4 (Ne.symm NS.out)).trans ((KP.out.cell (p := ⟨bb, i, none⟩) BL.out (Ne.symm NK.out)).trans hv)
  exact ⟨((Bld.mk S2.out.1 (c4' _ _ HL.out) (c4' _ _ HN.out) (there_kp (there_kp HT.out KP.out (Ne.symm NK.out)) S2.out.2.2 (Ne.symm NS.out)) BT.out).done (KT.out.trans (B1.out.2.trans S2.out.2.1))).pre B0.out, gd_yes _⟩
 ·have BB := hid (btr B0.out hb)
  have EE := hid he
  have GG := hid hg
  clear hb he hg DD
  go_wp2_with fail
  go_ret
  exact ⟨⟨_, tg1 bb, rfl, EE.out, Kt.below BB.out, fun h => by cases h⟩, gd_no GG.out⟩
end Go.Proofs.YtkocmkaeaagbaaaGreatDoor.Wd
namespace Go.Proofs.YtkocmkaeaagbaaaGreatDoor.Wd
open Go.RowKit Go.Proofs.YtkocmkaeaagbaaaGreatDoor.Mem Go.Proofs.YtkocmkaeaagbaaaGreatDoor.Bw Go.Proofs.YtkocmkaeaagbaaaGreatDoor.Nums Go.Proofs.YtkocmkaeaagbaaaGreatDoor.Hex Go.Proofs.YtkocmkaeaagbaaaGreatDoor.Prs Go.Proofs.YtkocmkaeaagbaaaGreatDoor.Mmu
/-- The text's lines, in memory. -/
structure Lin (w : World) (tag : Nat → Nat) (g c : Nat) (ls : List ByteArray) : Prop where
 s : StrsAt w g 0 ls
 t : tag g = 0
 c : ls.length ≤ c
 l : ls.length ≤ 4001
 z : ∀ t ∈ ls, t.size ≤ 4000
theorem Lin.kt {w w' : World} {tag tag' : Nat → Nat} {g c : Nat} {ls : List ByteArray} (h : Lin w tag g c ls) (k : Kt tag tag' w w') (hg : g < w.heap.size) : Lin w' tag' g c ls :=
 ⟨fun j hj => k.cell (h.s j hj) h.t, k.t g hg h.t, h.c, h.l, h.z⟩
abbrev lvS (g c : Nat) (ls : List ByteArray) : Value := .slice (some ⟨g, 0, none⟩) ls.length c
/-- What an order does with its numbers. -/
def Does (fn K : Nat) : Prop := ∀ (bb : Nat) (tag : Nat → Nat) (V : Nat → Value) (p : PW) (g c n gz cz : Nat) (ls : List ByteArray) (zs : List Int) (w : World), Bld w bb tag V p (lvS g c ls) n → Gl w tag → Lin w tag g c ls → n ≤ ls.length → IntsAt w gz 0 zs → zs.length = K → (∀ z ∈ zs, -1 ≤ z ∧ z ≤ 99999) → tag gz = 0 →
 Calls Tryz.prog fn #[.pointer (some ⟨bb, 0, none⟩), .slice (some ⟨gz, 0, none⟩) zs.length cz] w fun r w' => DoA w bb tag (lvS g c ls) ls.length n r w'
theorem len1 {zs : List Int} (h : zs.length = 1) : ∃ a, zs = [a] := by
 match zs, h with
 | [a], _ => exact ⟨a, rfl⟩
theorem len3 {zs : List Int} (h : zs.length = 3) : ∃ a b c, zs = [a, b, c] := by
 match zs, h with
 | [a, b, c], _ => exact ⟨a, b, c, rfl⟩
theorem len4 {zs : List Int} (h : zs.length = 4) : ∃ a b c d, zs = [a, b, c, d] := by
 match zs, h with
 | [a, b, c, d], _ => exact ⟨a, b, c, d, rfl⟩
theorem len7 {zs : List Int} (h : zs.length = 7) : ∃ a b c d e f g, zs = [a, b, c, d, e, f, g] := by
 match zs, h with
 | [a, b, c, d, e, f, g], _ => exact ⟨a, b, c, d, e, f, g, rfl⟩
theorem does_clay : Does 77 3 := fun bb tag V p g c n gz cz ls zs w h _ _ _ hz hl hi _ => by
 obtain ⟨x, y, z, rfl⟩ := len3 hl
 have h1 := hi y (by simp)
 have h2 := hi z (by simp)
 exact bclay_any bb tag V p _ n _ gz cz x y z w h hz (by omega)
theorem does_put : Does 81 3 := fun bb tag V p g c n gz cz ls zs w h _ _ _ hz hl _ _ => by
 obtain ⟨x, y, z, rfl⟩ := len3 hl
 exact bput_any bb tag V p _ n _ gz cz x y z w h hz
theorem does_make : Does 79 4 := fun bb tag V p g c n gz cz ls zs w h _ _ _ hz hl _ _ => by
 obtain ⟨x, y, z, u, rfl⟩ := len4 hl
 exact bmake_any bb tag V p _ n _ gz cz x y z u w h hz
theorem does_copy : Does 80 4 := fun bb tag V p g c n gz cz ls zs w h _ _ _ hz hl _ _ => by
 obtain ⟨x, y, z, u, rfl⟩ := len4 hl
 exact bcopy_any bb tag V p _ n _ gz cz x y z u w h hz
theorem does_enter : Does 83 4 := fun bb tag V p g c n gz cz ls zs w h _ _ _ hz hl _ _ => by
 obtain ⟨x, y, z, u, rfl⟩ := len4 hl
 exact benter_any bb tag V p _ n _ gz cz x y z u w h hz
theorem does_equip : Does 84 7 := fun bb tag V p g c n gz cz ls zs w h _ _ _ hz hl _ _ => by
 obtain ⟨x, n1, n2, n3, n4, n5, n6, rfl⟩ := len7 hl
 exact bequip_any bb tag V p _ n _ gz cz x n1 n2 n3 n4 n5 n6 w h hz
theorem does_start : Does 85 1 := fun bb tag V p g c n gz cz ls zs w h _ _ _ hz hl _ _ => by
 obtain ⟨x, rfl⟩ := len1 hl
 exact bstart_any bb tag V p _ n _ gz cz x w h hz
theorem does_code : Does 82 1 := fun bb tag V p g c n gz cz ls zs w h hG hL hn hz hl hi ht => by
 obtain ⟨x, rfl⟩ := len1 hl
 exact bcode_any bb tag V p g c n gz cz x ls w h hG hL.s hL.t hn hL.c hL.l hL.z (hz 0 (by simp)) (hi x (by simp)) ht
end Go.Proofs.YtkocmkaeaagbaaaGreatDoor.Wd
