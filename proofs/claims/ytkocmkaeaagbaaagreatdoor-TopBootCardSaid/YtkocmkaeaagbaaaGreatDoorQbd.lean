/- A world out of a text: the builder's box; become, makeThings, copyKey, start; walked. · (*strings.Builder).copyCheck, WriteByte, WriteString, walked over this program's own text. -/
import Derived.Test.YtkocmkaeaagbaaaGreatDoorChecked
import Derived.Lib.Strings
import Derived.Lib.Slices
import Derived.Lib.Walk
import Derived.Lib.Builder
import Derived.Lib.AppendStr
import Derived.Lib.UnsafeStr
import Derived.Lib.MakeNoZero
import Derived.WalkKit
import Derived.Laws.Externs
import Derived.Laws.IdiomCopy
import Derived.Laws.BitsLemmas
import Derived.Test.YtkocmkaeaagbaaaGreatDoorQba
import Derived.Test.YtkocmkaeaagbaaaGreatDoorQbb
import Derived.Test.YtkocmkaeaagbaaaGreatDoorQbc
namespace Go.Proofs.YtkocmkaeaagbaaaGreatDoor.Wd
open Go.RowKit Go.Proofs.YtkocmkaeaagbaaaGreatDoor.Mem Go.Proofs.YtkocmkaeaagbaaaGreatDoor.Bw Go.Proofs.YtkocmkaeaagbaaaGreatDoor.Nums Go.Proofs.YtkocmkaeaagbaaaGreatDoor.Mmu
/-- The builder: a world in the making in its box, behind it the lines and which is next. -/
structure Bld (W : World) (bb : Nat) (tag : Nat → Nat) (V : Nat → Value) (p : PW) (lv : Value) (n : Nat) : Prop where
 b : BoxT W bb tag V p
 l : W.cell? ⟨bb, 11, none⟩ = some lv
 n : W.cell? ⟨bb, 12, none⟩ = some (.int .i64 n)
 t : W.there bb 0 13
 k : Bt p
/-- What an order answers. -/
def DoA (w : World) (bb : Nat) (tag : Nat → Nat) (lv : Value) (N n : Nat) (r : Ending) (w' : World) : Prop :=
 ∃ ev tag', r = .returned ev ∧ ErrT w' ev ∧ Kt tag tag' w w' ∧ (ev = .nilIface → ∃ V p n', Bld w' bb tag' V p lv n' ∧ n ≤ n' ∧ (n ≤ N → n' ≤ N))
theorem DoA.pre {w w0 w' : World} {bb : Nat} {tag : Nat → Nat} {lv : Value} {N n : Nat} {r : Ending} (h : DoA w0 bb tag lv N n r w') (hb : Below w.heap.size w w0) : DoA w bb tag lv N n r w' := by
 obtain ⟨ev, tag', h1, h2, h3, h4⟩ := h
 exact ⟨ev, tag', h1, h2, (Kt.below hb).trans h3, h4⟩
theorem Bld.below {W W' : World} {bb : Nat} {tag : Nat → Nat} {V : Nat → Value} {p : PW} {lv : Value} {n : Nat} (h : Bld W bb tag V p lv n) (hb : Below W.heap.size W W') : Bld W' bb tag V p lv n :=
 ⟨h.b.below hb, cell_up h.l hb, cell_up h.n hb, there_kp h.t (.of_below (T := fun _ => False) hb) id, h.k⟩
theorem DoA.no {w w' : World} {bb : Nat} {tag : Nat → Nat} {lv : Value} {N n : Nat} {e : Int} (hb : Below w.heap.size w w') : DoA w bb tag lv N n (.returned (.iface 29 (.int .i64 e))) w' :=
 ⟨_, tag, rfl, errT_no w' e, Kt.below hb, fun h => by cases h⟩
theorem WorldT.below {w w' : World} {tag : Nat → Nat} {X : Nat → Value} {p : PW} (h : WorldT w tag X p) (hb : Below w.heap.size w w') : WorldT w' tag X p := by
 have hk : Kp (fun _ => False) w w' := .of_below hb
 have ht : ∀ k, k < w.heap.size → tag k = tag k := fun _ _ => rfl
 exact ⟨h.ram.kp hk ht (fun _ _ => id), h.kinds.kp hk ht (fun _ _ => id), h.slots.kp hk ht (fun _ _ => id), h.tasks.kp hk ht (fun _ _ => id), h.lines.kp hk ht (fun _ _ => id), h.bits.kp hk ht (fun _ _ => id), h.cores.kp hk ht (fun _ _ => id), h.ready.kp hk ht (fun _ _ => id), h.tlbs.kp hk ht (fun _ _ => id), h.doms.kp hk ht (fun _ _ => id), h.time⟩
set_option maxHeartbeats 2000000 in
theorem become_yes (bb : Nat) (X : Nat → Value) (w : World) (ht : w.there bb 0 11) (h1 : (arr11 X).all (·.oneCell') = true) :
  Calls Tryz.prog 113 #[.pointer (some ⟨bb, 0, none⟩), .agg (arr11 X), .nilIface] w fun r w' => r = .returned .nilIface ∧ w' = (w.alloc (.cells (arr11 X) 28)).setCells bb 0 (arr11 X).toList := by
 have RG := hid (boxed w X 28)
 have TH := hid (there_kp ht (.of_below (T := fun _ => False) (bal (Below.refl w.heap.size w) (.cells (arr11 X) 28))) id)
 have H1 := hid h1
 clear ht h1
 go_enter Tryz.func113, Tryz.ntmps113
 go_wp2_with (first | ((with_reducible (show wpList _ _ _ (⟨_, Op.load 28 _, _, _, _, _⟩ :: _) _ _)); refine wp_ldW rfl _ rfl _ rfl X RG.out ?_) | ((with_reducible (show wpList _ _ _ (⟨_, Op.store 28 _ _, _, _, _, _⟩ :: _) _ _)); refine wpList_store_mid rfl 28 _ _ rfl bb 0 (arr11 X) rfl rfl TH.out infoW H1.out ?_))
 go_ret
 exact ⟨rfl, rfl⟩
set_option maxHeartbeats 2000000 in
theorem become_no (bb : Nat) (X : Nat → Value) (e : Int) (w : World) :
  Calls Tryz.prog 113 #[.pointer (some ⟨bb, 0, none⟩), .agg (arr11 X), .iface 29 (.int .i64 e)] w fun r w' => r = .returned (.iface 29 (.int .i64 e)) ∧ Below w.heap.size w w' := by
 go_enter Tryz.func113, Tryz.ntmps113
 go_wp2_with fail
 go_ret
 exact ⟨rfl, bal (Below.refl _ _) _⟩
/-- The world of the builder is another one. -/
theorem Bld.to {w0 w1 : World} {bb : Nat} {tag : Nat → Nat} {V X : Nat → Value} {p p' : PW} {lv : Value} {n : Nat} (h : Bld w0 bb tag V p lv n) (hf : FarV w1 w0.heap.size X p') (hb : Below w0.heap.size w0 w1) (hk : Bt p') (o : Obj) :
  (arr11 X).all (·.oneCell') = true ∧ ∃ tag', Bld ((w1.alloc o).setCells bb 0 (arr11 X).toList) bb tag' X p' lv n ∧ Kt tag tag' w0 ((w1.alloc o).setCells bb 0 (arr11 X).toList) := by
 rcases hf.o with h0 | ⟨t2, h1, h2⟩
 ·have := hk.lf.k1
  rw [h0] at this
  simp at this
 have hl := h.b.lt
 have hbo := bal hb o
 have wo := h1.below (bal (Below.refl w1.heap.size w1) o)
 have B := h.below hbo
 have bx := wo.box (h2 bb hl) B.b.t
 have kp : Kp (fun k => k = bb) (w1.alloc o) ((w1.alloc o).setCells bb 0 (arr11 X).toList) := Kp.setCells (T := fun k => k = bb) (.inl rfl) _ _ _ (Kp.refl _ _)
 have cs : ∀ i v, 11 ≤ i → (w1.alloc o).cell? ⟨bb, i, none⟩ = some v → ((w1.alloc o).setCells bb 0 (arr11 X).toList).cell? ⟨bb, i, none⟩ = some v := fun i v hi hv => by
  have := World.rangeAt_setCells_apart (w := w1.alloc o) (b' := bb) (o' := i) (cs := [v]) (fun k x hx => by
   match k, hx with
   | 0, hx => cases hx; exact hv
   | k + 1, hx => cases hx) bb 0 (arr11 X).toList (.inr (.inr (by show 0 + 11 ≤ i; omega)))
  exact this 0 v rfl
 refine ⟨h1.ones, _, ⟨bx, cs 11 _ (by omega) B.l, cs 12 _ (by omega) B.n, World.there_setCells B.t _ _ _, hk⟩, ⟨?_, fun k hk2 h0 => ?_⟩⟩
 ·have k0 : Kp (fun k => tag k ≠ 0) w0 (w1.alloc o) := .of_below hbo
  exact Kp.setCells (.inl (by rw [h.b.g]; decide)) _ _ _ k0
 ·show (if k = bb then 1 else t2 k) = 0
  rw [if_neg (fun e => by rw [e, h.b.g] at h0; cases h0)]
  exact h2 k hk2
/-- .. what a layer made, unless that refused. -/
theorem became {w0 w1 : World} {bb : Nat} {tag : Nat → Nat} {V X : Nat → Value} {p p' : PW} {lv : Value} {n : Nat} (N : Nat) {e : Int} (h : Bld w0 bb tag V p lv n) (hf : FarV w1 w0.heap.size X (dP p p' e)) (hb : Below w0.heap.size w0 w1) (hk : e = 0 → Bt p') :
  Calls Tryz.prog 113 #[.pointer (some ⟨bb, 0, none⟩), .agg (arr11 X), eV (dE p e)] w1 fun r w' => ∃ ev, r = .returned ev ∧ DoA w0 bb tag lv N n r w' := by
 have hd := dE_eq (e := e) h.k.snd
 rw [hd]
 by_cases h0 : e = 0
 ·have hp : dP p p' e = p' := by unfold dP; rw [hd, if_pos h0]
  rw [hp] at hf
  obtain ⟨h1, tag', h2, h3⟩ := h.to hf hb (hk h0) (.cells (arr11 X) 28)
  rw [h0, eV_0]
  refine (become_yes bb X w1 (h.below hb).b.t h1).mono ?_
  rintro r w' ⟨rfl, rfl⟩
  exact ⟨_, rfl, _, tag', rfl, errT_nil _, h3, fun _ => ⟨X, p', n, h2, Nat.le_refl _, id⟩⟩
 ·rw [eV_n h0]
  refine (become_no bb X e w1).mono ?_
  rintro r w' ⟨rfl, hb2⟩
  exact ⟨_, rfl, DoA.no (btr hb hb2)⟩
theorem sr_bt {p : PW} {a : Int} (h : Bt p) (he : srE p a = 0) : Bt (srP p a) := by
 unfold srE at he
 split at he
 case isFalse e => exact (e he).elim
 case isTrue e =>
  split at he
  case isFalse => cases he
  case isTrue e2 =>
   obtain ⟨t, ht, rfl, hk⟩ := thE_in e
   rw [Int.toNat_natCast] at e2
   unfold srP
   rw [Int.toNat_natCast]
   exact h.start (by unfold PW.k; rw [List.getD_eq_getElem?_getD, List.getElem?_eq_getElem ht]; exact hk) e2
theorem run_ldW {ρ : Operand → Value} {o : Oper} {W : World} {x : Operand} (ho : o.op = .load 28 x) {b : Nat} (hx : ρ x = .pointer (some ⟨b, 0, none⟩)) {V : Nat → Value} (hc : W.rangeAt b 0 (arr11 V).toList) : (execOp ρ o).run Tryz.prog W = .ok (.value (.agg (arr11 V))) W := by
 unfold execOp
 simp only [ho, hx, Instr.loadAt, Instr.sureAddr, Sem.run_bind, Sem.run_pure, Result.andThen_ok, run_loadVar_mid W b 0 28 (arr11 V).toList _ hc Tryz.underlying28 rfl infoW]
set_option maxRecDepth 100000 in
set_option maxHeartbeats 4000000 in
theorem bstart_any (bb : Nat) (tag : Nat → Nat) (V : Nat → Value) (p : PW) (lv : Value) (n N g c : Nat) (x : Int) (w : World) (h : Bld w bb tag V p lv n) (hz : IntsAt w g 0 [x]) :
  Calls Tryz.prog 85 #[.pointer (some ⟨bb, 0, none⟩), .slice (some ⟨g, 0, none⟩) 1 c] w fun r w' => DoA w bb tag lv N n r w' := by
 have B0 := hid (show Below w.heap.size w w.drew from below_drew w 1)
 have H := hid (h.below B0.out)
 have Z := hid (hz.below B0.out)
 clear h hz
 go_enter Tryz.func85, Tryz.ntmps85
 go_wp2_with fail
 refine Rf.wp_region_H (R := fun W => W.rangeAt bb 0 (arr11 V).toList ∧ IntsAt W g 0 [x]) [8] [] 13 (by kernel_rfl) ⟨H.out.b.r, Z.out⟩ (by kernel_rfl) (by kernel_rfl) (by kernel_rfl) (fun _ => Rf.rd_nil ?_)
 generalize w.drew = w1 at *
 have RR := hid (show (fun W : World => W.rangeAt bb 0 (arr11 V).toList ∧ IntsAt W g 0 [x]) w1 from ⟨H.out.b.r, Z.out⟩)
 refine Rf.wpAnyF_groupS (by kernel_rfl) _ RR.out [0, 1, 2, 3] 9 _ _ (by kernel_rfl) ?_
 repeat (refine Rf.rd_st rfl (by rfl) (fun _ _ _ _ h => h) ?_; apply Exists.intro; refine ⟨fun W _ => ?_, ?_⟩; (focus (go_simp; try rfl)); simp only [jj])
 refine Rf.rd_nil ?_
 refine Rf.wpAnyF_group (by kernel_rfl) _ RR.out [4] 8 _ _ (by kernel_rfl) ?_
 refine Rf.rd_st rfl (by rfl) (fun _ _ _ _ h => h) ?_; apply Exists.intro; refine ⟨fun W h => ?_, ?_⟩; (focus (exact run_ldW rfl rfl h.1)); simp only [jj]
 refine Rf.rd_nil ?_
 refine Rf.wpAnyF_groupS (by kernel_rfl) _ RR.out [5, 6] 6 _ _ (by kernel_rfl) ?_
 repeat (refine Rf.rd_st rfl (by rfl) (fun _ _ _ _ h => h) ?_; apply Exists.intro; refine ⟨fun W _ => ?_, ?_⟩; (focus (go_simp; try rfl)); simp only [jj])
 refine Rf.rd_nil ?_
 refine Rf.wpAnyF_group (by kernel_rfl) _ RR.out [7] 5 _ _ (by kernel_rfl) ?_
 refine Rf.rd_st rfl (by rfl) (fun _ _ _ _ h => h) ?_; apply Exists.intro; refine ⟨fun W h => ?_, ?_⟩; (focus (have h0 := h.2 0 (by simp); clear h; rw [Nat.zero_add] at h0; simp only [List.getElem_cons_zero] at h0; go_simp; try rfl)); simp only [jj]
 refine Rf.rd_nil ?_
 have SA := hid (start_any2 V p x w1 (H.out.b.o.v H.out.k.tlb) H.out.k.fits)
 refine Rf.wpAnyF_ready (rs := [8]) (by kernel_rfl) (by simp) (Rf.AllReadyF.cons rfl (fun K hK => ?_) Rf.AllReadyF.nil)
 refine wnt (by rfl) ?_
 go_simp
 refine SA.out.mono ?_
 rintro r w2 ⟨X, rfl, hf, hb⟩
 have BC := hid (became N H.out hf hb (fun he => sr_bt H.out.k he))
 have R2 := hid (show (fun W : World => W.rangeAt bb 0 (arr11 V).toList ∧ IntsAt W g 0 [x]) w2 from ⟨range_below RR.out.1 hb, RR.out.2.below hb⟩)
 clear hf hb SA RR
 generalize eV (dE p (srE p x)) = ev0 at *
 go_wp2_with fail
 refine hK.out _ _ trivial (Rf.notClean (by kernel_rfl)) (fun _ _ => ?_)
 clear hK K
 try simp only [jj]
 refine Rf.wpAnyF_groupS (by kernel_rfl) _ R2.out [9, 10] 2 _ _ (by kernel_rfl) ?_
 repeat (refine Rf.rd_st rfl (by rfl) (fun _ _ _ _ h => h) ?_; apply Exists.intro; refine ⟨fun W _ => ?_, ?_⟩; (focus (go_simp; try rfl)); simp only [jj])
 refine Rf.rd_nil ?_
 refine Rf.wpAnyF_ready (rs := [11]) (by kernel_rfl) (by simp) (Rf.AllReadyF.cons rfl (fun K hK => ?_) Rf.AllReadyF.nil)
 refine wnt (by rfl) ?_
 go_simp
 refine BC.out.mono ?_
 rintro r w3 ⟨ev, rfl, hd⟩
 have DD := hid hd
 clear hd BC R2
 go_wp2_with fail
 refine hK.out _ _ trivial (Rf.notClean (by kernel_rfl)) (fun _ _ => ?_)
 clear hK K
 try simp only [jj]
 refine Rf.wpAnyF_ready (rs := [12]) (by kernel_rfl) (by simp) (Rf.AllReadyF.cons rfl (fun K hK => ?_) Rf.AllReadyF.nil)
 refine wnt (by rfl) ?_
 go_simp
 refine hK.out _ _ trivial (Rf.notClean (by kernel_rfl)) (fun _ _ => ?_)
 clear hK K
 try simp only [jj]
 refine Rf.wpAnyF_done (by kernel_rfl) ?_ _
 go_wp2_with fail
 go_ret
 exact DD.out.pre B0.out
set_option maxRecDepth 100000 in
set_option maxHeartbeats 4000000 in
theorem bcopy_any (bb : Nat) (tag : Nat → Nat) (V : Nat → Value) (p : PW) (lv : Value) (n N g c : Nat) (x y z u : Int) (w : World) (h : Bld w bb tag V p lv n) (hz : IntsAt w g 0 [x, y, z, u]) :
  Calls Tryz.prog 80 #[.pointer (some ⟨bb, 0, none⟩), .slice (some ⟨g, 0, none⟩) 4 c] w fun r w' => DoA w bb tag lv N n r w' := by
 have B0 := hid (show Below w.heap.size w w.drew from below_drew w 1)
 have H := hid (h.below B0.out)
 have Z := hid (hz.below B0.out)
 clear h hz
 go_enter Tryz.func80, Tryz.ntmps80
 go_wp2_with fail
 refine Rf.wp_region_H (R := fun W => W.rangeAt bb 0 (arr11 V).toList ∧ IntsAt W g 0 [x, y, z, u]) [17] [] 22 (by kernel_rfl) ⟨H.out.b.r, Z.out⟩ (by kernel_rfl) (by kernel_rfl) (by kernel_rfl) (fun _ => Rf.rd_nil ?_)
 generalize w.drew = w1 at *
 have RR := hid (show (fun W : World => W.rangeAt bb 0 (arr11 V).toList ∧ IntsAt W g 0 [x, y, z, u]) w1 from ⟨H.out.b.r, Z.out⟩)
 refine Rf.wpAnyF_groupS (by kernel_rfl) _ RR.out [0, 1, 2, 3] 18 _ _ (by kernel_rfl) ?_
 repeat (refine Rf.rd_st rfl (by rfl) (fun _ _ _ _ h => h) ?_; apply Exists.intro; refine ⟨fun W _ => ?_, ?_⟩; (focus (go_simp; try rfl)); simp only [jj])
 refine Rf.rd_nil ?_
 refine Rf.wpAnyF_group (by kernel_rfl) _ RR.out [4] 17 _ _ (by kernel_rfl) ?_
 refine Rf.rd_st rfl (by rfl) (fun _ _ _ _ h => h) ?_; apply Exists.intro; refine ⟨fun W h => ?_, ?_⟩; (focus (exact run_ldW rfl rfl h.1)); simp only [jj]
 refine Rf.rd_nil ?_
 refine Rf.wpAnyF_groupS (by kernel_rfl) _ RR.out [5, 6] 15 _ _ (by kernel_rfl) ?_
 repeat (refine Rf.rd_st rfl (by rfl) (fun _ _ _ _ h => h) ?_; apply Exists.intro; refine ⟨fun W _ => ?_, ?_⟩; (focus (go_simp; try rfl)); simp only [jj])
 refine Rf.rd_nil ?_
 refine Rf.wpAnyF_group (by kernel_rfl) _ RR.out [7] 14 _ _ (by kernel_rfl) ?_
 refine Rf.rd_st rfl (by rfl) (fun _ _ _ _ h => h) ?_; apply Exists.intro; refine ⟨fun W h => ?_, ?_⟩; (focus (have h0 := h.2 0 (by simp); clear h; rw [Nat.zero_add] at h0; simp only [List.getElem_cons_zero] at h0; go_simp; try rfl)); simp only [jj]
 refine Rf.rd_nil ?_
 refine Rf.wpAnyF_groupS (by kernel_rfl) _ RR.out [8, 9] 12 _ _ (by kernel_rfl) ?_
 repeat (refine Rf.rd_st rfl (by rfl) (fun _ _ _ _ h => h) ?_; apply Exists.intro; refine ⟨fun W _ => ?_, ?_⟩; (focus (go_simp; try rfl)); simp only [jj])
 refine Rf.rd_nil ?_
 refine Rf.wpAnyF_group (by kernel_rfl) _ RR.out [10] 11 _ _ (by kernel_rfl) ?_
 refine Rf.rd_st rfl (by rfl) (fun _ _ _ _ h => h) ?_; apply Exists.intro; refine ⟨fun W h => ?_, ?_⟩; (focus (have h0 := h.2 1 (by simp); clear h; rw [Nat.zero_add] at h0; simp only [List.getElem_cons_zero, List.getElem_cons_succ] at h0; go_simp; try rfl)); simp only [jj]
 refine Rf.rd_nil ?_
 refine Rf.wpAnyF_groupS (by kernel_rfl) _ RR.out [11, 12] 9 _ _ (by kernel_rfl) ?_
 repeat (refine Rf.rd_st rfl (by rfl) (fun _ _ _ _ h => h) ?_; apply Exists.intro; refine ⟨fun W _ => ?_, ?_⟩; (focus (go_simp; try rfl)); simp only [jj])
 refine Rf.rd_nil ?_
 refine Rf.wpAnyF_group (by kernel_rfl) _ RR.out [13] 8 _ _ (by kernel_rfl) ?_
 refine Rf.rd_st rfl (by rfl) (fun _ _ _ _ h => h) ?_; apply Exists.intro; refine ⟨fun W h => ?_, ?_⟩; (focus (have h0 := h.2 2 (by simp); clear h; rw [Nat.zero_add] at h0; simp only [List.getElem_cons_zero, List.getElem_cons_succ] at h0; go_simp; try rfl)); simp only [jj]
 refine Rf.rd_nil ?_
 refine Rf.wpAnyF_groupS (by kernel_rfl) _ RR.out [14, 15] 6 _ _ (by kernel_rfl) ?_
 repeat (refine Rf.rd_st rfl (by rfl) (fun _ _ _ _ h => h) ?_; apply Exists.intro; refine ⟨fun W _ => ?_, ?_⟩; (focus (go_simp; try rfl)); simp only [jj])
 refine Rf.rd_nil ?_
 refine Rf.wpAnyF_group (by kernel_rfl) _ RR.out [16] 5 _ _ (by kernel_rfl) ?_
 refine Rf.rd_st rfl (by rfl) (fun _ _ _ _ h => h) ?_; apply Exists.intro; refine ⟨fun W h => ?_, ?_⟩; (focus (have h0 := h.2 3 (by simp); clear h; rw [Nat.zero_add] at h0; simp only [List.getElem_cons_zero, List.getElem_cons_succ] at h0; go_simp; try rfl)); simp only [jj]
 refine Rf.rd_nil ?_
 have SA := hid (treeCopy_any V p x y z u w1 (H.out.b.o.v H.out.k.tlb) H.out.k.fits)
 refine Rf.wpAnyF_ready (rs := [17]) (by kernel_rfl) (by simp) (Rf.AllReadyF.cons rfl (fun K hK => ?_) Rf.AllReadyF.nil)
 refine wnt (by rfl) ?_
 go_simp
 refine SA.out.mono ?_
 rintro r w2 ⟨X, rfl, hf, hb⟩
 have BC := hid (became N H.out hf hb (fun he => H.out.k.copy he))
 have R2 := hid (show (fun W : World => W.rangeAt bb 0 (arr11 V).toList ∧ IntsAt W g 0 [x, y, z, u]) w2 from ⟨range_below RR.out.1 hb, RR.out.2.below hb⟩)
 clear hf hb SA RR
 generalize eV (dE p (cpE p x y z u)) = ev0 at *
 go_wp2_with fail
 refine hK.out _ _ trivial (Rf.notClean (by kernel_rfl)) (fun _ _ => ?_)
 clear hK K
 try simp only [jj]
 refine Rf.wpAnyF_groupS (by kernel_rfl) _ R2.out [18, 19] 2 _ _ (by kernel_rfl) ?_
 repeat (refine Rf.rd_st rfl (by rfl) (fun _ _ _ _ h => h) ?_; apply Exists.intro; refine ⟨fun W _ => ?_, ?_⟩; (focus (go_simp; try rfl)); simp only [jj])
 refine Rf.rd_nil ?_
 refine Rf.wpAnyF_ready (rs := [20]) (by kernel_rfl) (by simp) (Rf.AllReadyF.cons rfl (fun K hK => ?_) Rf.AllReadyF.nil)
 refine wnt (by rfl) ?_
 go_simp
 refine BC.out.mono ?_
 rintro r w3 ⟨ev, rfl, hd⟩
 have DD := hid hd
 clear hd BC R2
 go_wp2_with fail
 refine hK.out _ _ trivial (Rf.notClean (by kernel_rfl)) (fun _ _ => ?_)
 clear hK K
 try simp only [jj]
 refine Rf.wpAnyF_ready (rs := [21]) (by kernel_rfl) (by simp) (Rf.AllReadyF.cons rfl (fun K hK => ?_) Rf.AllReadyF.nil)
 refine wnt (by rfl) ?_
 go_simp
 refine hK.out _ _ trivial (Rf.notClean (by kernel_rfl)) (fun _ _ => ?_)
 clear hK K
 try simp only [jj]
 refine Rf.wpAnyF_done (by kernel_rfl) ?_ _
 go_wp2_with fail
 go_ret
 exact DD.out.pre B0.out
set_option maxRecDepth 100000 in
set_option maxHeartbeats 4000000 in
theorem bmake_any (bb : Nat) (tag : Nat → Nat) (V : Nat → Value) (p : PW) (lv : Value) (n N g c : Nat) (x y z u : Int) (w : World) (h : Bld w bb tag V p lv n) (hz : IntsAt w g 0 [x, y, z, u]) :
  Calls Tryz.prog 79 #[.pointer (some ⟨bb, 0, none⟩), .slice (some ⟨g, 0, none⟩) 4 c] w fun r w' => DoA w bb tag lv N n r w' := by
 have B0 := hid (show Below w.heap.size w w.drew from below_drew w 1)
 have H := hid (h.below B0.out)
 have Z := hid (hz.below B0.out)
 clear h hz
 go_enter Tryz.func79, Tryz.ntmps79
 go_wp2_with fail
 refine Rf.wp_region_H (R := fun W => IntsAt W g 0 [x, y, z, u]) [] [0, 1, 2, 3, 4, 5, 6, 7, 8, 9, 10, 11, 12, 13, 14, 15] 0 (by kernel_rfl) Z.out (by kernel_rfl) (by kernel_rfl) (by kernel_rfl) (fun _ => ?_)
 repeat (refine Rf.rd_st rfl (by rfl) (fun _ _ _ _ h => h) ?_; apply Exists.intro; refine ⟨fun W h => ?_, ?_⟩; (focus (have h0 := h 0 (by simp); have h1 := h 1 (by simp); have h2 := h 2 (by simp); have h3 := h 3 (by simp); clear h; rw [Nat.zero_add] at h0 h1 h2 h3; simp only [List.getElem_cons_zero, List.getElem_cons_succ] at h0 h1 h2 h3; go_simp; try rfl)); simp only [jj])
 refine Rf.rd_nil ?_
 refine Rf.wpAnyF_done (by kernel_rfl) ?_ _
 generalize w.drew = w1 at *
 have SA := hid (clayMake_any V p y x z u w1 (H.out.b.o.v H.out.k.tlb) H.out.k.fits)
 clear Z
 have RG := hid H.out.b.r
 go_wp2_with (first | ((with_reducible (show wpList _ _ _ (⟨_, Op.load 28 _, _, _, _, _⟩ :: _) _ _)); refine wp_ldW rfl _ rfl _ rfl V RG.out ?_))
 refine SA.out.mono ?_
 rintro r w2 ⟨X, rfl, hf, hb⟩
 have BC := hid (became N H.out hf hb (fun he => H.out.k.make he))
 clear hf hb SA
 generalize eV (dE p (mkE p y x z u)) = ev0 at *
 go_wp2_with fail
 refine BC.out.mono ?_
 rintro r w3 ⟨ev, rfl, hd⟩
 have DD := hid hd
 clear hd BC
 go_wp2_with fail
 go_ret
 exact DD.out.pre B0.out
end Go.Proofs.YtkocmkaeaagbaaaGreatDoor.Wd
namespace Go.Proofs.YtkocmkaeaagbaaaGreatDoor.Bd
open Go.RowKit
theorem sizeB : (Tryz.prog.info? 219).map (·.size) = some 2 := by kernel_rfl
theorem liesB : liesAt Tryz.prog Tryz.prog.depth 219 (2 / Tryz.prog.cellsOf 219) 0 219 1 = true := by kernel_rfl
theorem infoByte : (Tryz.prog.info? 5).map (fun i => (i.zero, i.size, i.bytes)) = some (some (.int .u8 0), 1, 1) := by kernel_rfl
set_option maxHeartbeats 1000000 in
set_option maxRecDepth 100000 in
theorem copyCheck_used (b : Nat) (w : World) (h0 : w.cell? ⟨b, 0, none⟩ = some (.pointer (some ⟨b, 0, none⟩))) :
  Calls Tryz.prog 199 #[.pointer (some ⟨b, 0, none⟩)] w fun e w' => e = .returned (.tuple #[]) ∧ w' = w := by
 obtain ⟨j, hj, _⟩ := Option.map_eq_some_iff.1 sizeB
 go_enter Tryz.func199, Tryz.ntmps199
 go_wp2
 rw [Lib.run_neq_ptr_same w _ Tryz.underlying216 hj]
 go_wp2
 go_end0
 exact ⟨rfl, rfl⟩
set_option maxHeartbeats 1000000 in
set_option maxRecDepth 100000 in
theorem copyCheck_fresh (b : Nat) (w : World) (h0 : w.cell? ⟨b, 0, none⟩ = some (.pointer none)) (hsh : w.shape? b = some (219, 2)) (hfz : w.frozen? ⟨b, 0, none⟩ = false) :
  Calls Tryz.prog 199 #[.pointer (some ⟨b, 0, none⟩)] w fun e w' => e = .returned (.tuple #[]) ∧ w' = w.setCell ⟨b, 0, none⟩ (.pointer (some ⟨b, 0, none⟩)) := by
 obtain ⟨j, hj, hjs⟩ := Option.map_eq_some_iff.1 sizeB
 go_enter Tryz.func199, Tryz.ntmps199
 go_wp2
 rw [Lib.run_to_unsafe w ⟨b, 0, none⟩ Tryz.underlying216 Tryz.underlying131 hj (by rw [hjs]; decide) hsh (Nat.zero_lt_succ 1)]
 simp only [Result.andThen]
 rw [Oper.upon_value]
 go_wp2
 rw [run_callFunc_extern Tryz.func216 (by kernel_rfl) (by kernel_rfl) (by kernel_rfl) (e := Extern.AbiNoEscape.same) (by kernel_rfl)]
 rw [Lib.run_noEscape]
 simp only [Result.andThen]
 rw [Oper.upon_value]
 go_wp2
 rw [Lib.run_from_unsafe w ⟨b, 0, none⟩ Tryz.underlying131 Tryz.underlying216 hj hsh liesB]
 simp only [Result.andThen]
 rw [Oper.upon_value]
 go_wp2
 go_end0
 exact ⟨rfl, rfl⟩
theorem copyCheck_any (B b : Nat) (bs : List Value) (w : World) (h : Lib.IsBuilder 219 5 B b bs w) :
  Calls Tryz.prog 199 #[.pointer (some ⟨b, 0, none⟩)] w fun e w' => e = .returned (.tuple #[]) ∧ (Lib.BuilderAt 219 5 B b (.pointer (some ⟨b, 0, none⟩)) bs w' ∧ Below B w w') := by
 rcases h with h | h
 ·refine (copyCheck_fresh b w h.cell0 h.shape h.frozen0).mono ?_
  rintro e w' ⟨rfl, rfl⟩
  exact ⟨rfl, h.used _, (Below.refl B w).setCell (p := ⟨b, 0, none⟩) h.1 _⟩
 ·refine (copyCheck_used b w h.cell0).mono ?_
  rintro e w' ⟨rfl, rfl⟩
  exact ⟨rfl, h, Below.refl B _⟩
set_option maxHeartbeats 2000000 in
theorem writeByte (B b : Nat) (bs : List Value) (c : Int) (w : World) (h : Lib.IsBuilder 219 5 B b bs w) (hlen : bs.length + 1 ≤ 140737488355328) (hBw : B ≤ w.heap.size) :
  Calls Tryz.prog 171 #[.pointer (some ⟨b, 0, none⟩), .int .u8 c] w fun e w' => e = .returned .nilIface ∧ (Lib.IsBuilder 219 5 B b (bs ++ [.int .u8 c]) w' ∧ Below B w w') := by
 obtain ⟨i0, hi, hz0, hz1, hz2⟩ := info_parts infoByte
 go_enter Tryz.func171, Tryz.ntmps171
 go_wp2_with (go_at_call 199; refine (copyCheck_any B b bs _ h).mono ?_)
 rintro e w1 ⟨rfl, h1, hb1⟩
 obtain ⟨hB, v, hbk, hown, hne⟩ := h1
 have c0 : w1.cell? ⟨b, 0, none⟩ = some (.pointer (some ⟨b, 0, none⟩)) := by rw [Lib.cell_of_heap hbk]; rfl
 have c1 : w1.cell? ⟨b, 1, none⟩ = some v := by rw [Lib.cell_of_heap hbk]; rfl
 go_wp2_with (at_builtin; refine wpList_append_own _ rfl _ _ 217 rfl B 5 i0 (.int .u8 0) 1 1 Tryz.underlying217 hi hz0 hz1 hz2 rfl (by decide) _ _ _ rfl (hown.alloc _) ⟨w1.heap.size, 0, none⟩ 1 1 [.int .u8 c] rfl rfl ?c1 ?c2 ?c3 ?c4 ?c5 ?_)
 case c1 =>
  intro j u hj
  match j, hj with
  | 0, hj => simp at hj; subst hj; simp [Addr.add]
 case c2 => intro u hu; simp at hu; subst hu; rfl
 case c3 => unfold maxLen; omega
 case c4 => omega
 case c5 => have := hb1.size; simp; omega
 intro v' w2 hown' hgrow _
 have hlt : b < w1.heap.size := by
  rcases Nat.lt_or_ge b w1.heap.size with h' | h'
  ·exact h'
  ·simp [Array.getElem?_eq_none h'] at hbk
 have hb2 : w2.heap[b]? = some (.cells #[.pointer (some ⟨b, 0, none⟩), v] 219 (0, 0)) := by
  rw [hgrow.block b (by simp; omega) (fun e => hne e.symm), Lib.alloc_old w1 _ b hlt]
  exact hbk
 have d0 : w2.cell? ⟨b, 0, none⟩ = some (.pointer (some ⟨b, 0, none⟩)) := by rw [Lib.cell_of_heap hb2]; rfl
 have d1 : w2.cell? ⟨b, 1, none⟩ = some v := by rw [Lib.cell_of_heap hb2]; rfl
 have f1 : w2.frozen? ⟨b, 1, none⟩ = false := Lib.frozen_of_heap hb2 1
 obtain ⟨g, cap, rfl⟩ : ∃ g cap, v' = .slice (some ⟨g, 0, none⟩) (bs.length + 1) cap := by
  rcases hown'.2 with ⟨_, h0⟩ | ⟨g, cap, cur, hv, _⟩
  ·omega
  ·exact ⟨g, cap, hv⟩
 go_wp2
 go_ret
 refine ⟨rfl, .inr ?_, ?_⟩
 ·exact Lib.BuilderAt.put (T := 219) (e := 5) hB hb2 (bs' := bs ++ [.int .u8 c]) (by simpa using hown') (by decide)
 ·exact ((hb1.alloc (by have := hb1.size; omega) _).grown hgrow (by have := hb1.size; simp; omega) (fun k hk => (hown.lt k hk).1)).setCell (p := ⟨b, 1, none⟩) hB _
set_option maxHeartbeats 2000000 in
theorem writeString (B b : Nat) (bs : List Value) (s : ByteArray) (w : World) (h : Lib.IsBuilder 219 5 B b bs w) (hlen : bs.length + s.size ≤ 140737488355328) (hBw : B ≤ w.heap.size) :
  Calls Tryz.prog 170 #[.pointer (some ⟨b, 0, none⟩), .string s] w fun e w' => e = .returned (.tuple #[.int .i64 s.size, .nilIface]) ∧ (Lib.IsBuilder 219 5 B b (bs ++ Lib.strCells s) w' ∧ Below B w w') := by
 obtain ⟨i0, hi, hz0, hz1, hz2⟩ := info_parts infoByte
 go_enter Tryz.func170, Tryz.ntmps170
 go_wp2_with (go_at_call 199; refine (copyCheck_any B b bs _ h).mono ?_)
 rintro e w1 ⟨rfl, h1, hb1⟩
 obtain ⟨hB, v, hbk, hown, hne⟩ := h1
 have c0 : w1.cell? ⟨b, 0, none⟩ = some (.pointer (some ⟨b, 0, none⟩)) := by rw [Lib.cell_of_heap hbk]; rfl
 have c1 : w1.cell? ⟨b, 1, none⟩ = some v := by rw [Lib.cell_of_heap hbk]; rfl
 go_wp2_with (at_builtin; refine Lib.wpList_append_own_string _ rfl _ _ 217 9 rfl B 5 i0 Tryz.underlying217 Tryz.underlying9 hi hz0 hz1 hz2 _ _ _ rfl hown s rfl ?c3 ?c4 ?c5 ?_)
 case c3 => unfold maxLen; omega
 case c4 => omega
 case c5 => have := hb1.size; omega
 intro v' w2 hown' hgrow _
 have hlt : b < w1.heap.size := by
  rcases Nat.lt_or_ge b w1.heap.size with h' | h'
  ·exact h'
  ·simp [Array.getElem?_eq_none h'] at hbk
 have hb2 : w2.heap[b]? = some (.cells #[.pointer (some ⟨b, 0, none⟩), v] 219 (0, 0)) := by
  rw [hgrow.block b hlt (fun e => hne e.symm)]
  exact hbk
 have d0 : w2.cell? ⟨b, 0, none⟩ = some (.pointer (some ⟨b, 0, none⟩)) := by rw [Lib.cell_of_heap hb2]; rfl
 have d1 : w2.cell? ⟨b, 1, none⟩ = some v := by rw [Lib.cell_of_heap hb2]; rfl
 have f1 : w2.frozen? ⟨b, 1, none⟩ = false := Lib.frozen_of_heap hb2 1
 obtain ⟨ao, n', cap, rfl⟩ : ∃ ao n' cap, v' = .slice ao n' cap := by
  rcases hown'.2 with ⟨hv, _⟩ | ⟨g, cap, cur, hv, _⟩
  ·exact ⟨_, _, _, hv⟩
  ·exact ⟨_, _, _, hv⟩
 go_wp2
 go_ret2
 refine ⟨rfl, .inr ?_, ?_⟩
 ·exact Lib.BuilderAt.put (T := 219) (e := 5) hB hb2 (bs' := bs ++ Lib.strCells s) (by simpa [Lib.strCells_length] using hown') (by decide)
 ·exact (hb1.grown hgrow (by have := hb1.size; omega) (fun k hk => (hown.lt k hk).1)).setCell (p := ⟨b, 1, none⟩) hB _
theorem own_below {w w' : World} {B e size n : Nat} {v : Value} {xs : List Value} (h : w.ownsRow B e size v n xs) (hb : Below w.heap.size w w') : w'.ownsRow B e size v n xs := by
 obtain ⟨h1, h2⟩ := h
 refine ⟨h1, ?_⟩
 rcases h2 with h2 | ⟨g, cap, cur, a, b, c, d⟩
 ·exact .inl h2
 ·refine .inr ⟨g, cap, cur, a, b, ?_, d⟩
  rw [hb.block g (by rcases Nat.lt_or_ge g w.heap.size with h | h; exact h; simp [Array.getElem?_eq_none h] at c)]
  exact c
theorem at_below {w w' : World} {T e B b : Nat} {p : Value} {bs : List Value} (h : Lib.BuilderAt T e B b p bs w) (hb : Below w.heap.size w w') : Lib.BuilderAt T e B b p bs w' := by
 obtain ⟨h1, v, h2, h3, h4⟩ := h
 refine ⟨h1, v, ?_, own_below h3 hb, h4⟩
 rw [hb.block b (by rcases Nat.lt_or_ge b w.heap.size with h | h; exact h; simp [Array.getElem?_eq_none h] at h2)]
 exact h2
/-- A builder stays one where nothing that was there has turned. -/
theorem is_below {w w' : World} {T e B b : Nat} {bs : List Value} (h : Lib.IsBuilder T e B b bs w) (hb : Below w.heap.size w w') : Lib.IsBuilder T e B b bs w' := by
 rcases h with h | h
 ·exact .inl (at_below h hb)
 ·exact .inr (at_below h hb)
end Go.Proofs.YtkocmkaeaagbaaaGreatDoor.Bd
