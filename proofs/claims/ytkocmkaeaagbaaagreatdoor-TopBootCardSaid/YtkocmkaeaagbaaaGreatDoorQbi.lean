/- A world out of a text: encoded; walked. · A world out of a text: the orders put, equip; walked. · A world out of a text: the order equip; walked. -/
import Derived.Test.YtkocmkaeaagbaaaGreatDoorQbe
import Derived.Test.YtkocmkaeaagbaaaGreatDoorQbh
import Derived.Test.YtkocmkaeaagbaaaGreatDoorQbd
namespace Go.Proofs.YtkocmkaeaagbaaaGreatDoor.Wd
open Go.RowKit Go.Proofs.YtkocmkaeaagbaaaGreatDoor.Mem Go.Proofs.YtkocmkaeaagbaaaGreatDoor.Bw Go.Proofs.YtkocmkaeaagbaaaGreatDoor.Nums Go.Proofs.YtkocmkaeaagbaaaGreatDoor.Hex Go.Proofs.YtkocmkaeaagbaaaGreatDoor.Prs Go.Proofs.YtkocmkaeaagbaaaGreatDoor.Txt Go.Proofs.YtkocmkaeaagbaaaGreatDoor.Isa Go.Proofs.YtkocmkaeaagbaaaGreatDoor.Mmu
theorem codeL_upTo (D : DataW Unit) (ls : List ByteArray) : ∀ k, k ≤ ls.length → (codeL D (ls.take k)).length = (upTo ls k).2 := by
 intro k
 induction k with
 | zero => intro _; rfl
 | succ k ih =>
  intro h
  have hk : k < ls.length := by omega
  have := ih (by omega)
  rw [List.take_succ_eq_append_getElem hk, codeL_snoc, upTo_succ ls k hk, List.length_append, this]
  cases e : labB ls[k] with
  | true => rw [step_yes e, if_pos rfl]; rfl
  | false => rw [step_no e, if_neg (by decide)]; rfl
theorem word_in {o a b i : Int} (h : IP.may o a b i = 0) : (0 ≤ IP.c0 o a b ∧ IP.c0 o a b ≤ 65535) ∧ (0 ≤ IP.c1 i ∧ IP.c1 i ≤ 65535) := by
 obtain ⟨o0, o1, a0, a1, b0, b1, i0, i1⟩ := IP.may_zero h
 unfold IP.c0 IP.c1
 refine ⟨by omega, ?_⟩
 split <;> omega
/-- An error. -/
def NoT (w : World) (v : Value) : Prop := ErrT w v ∧ ∃ t u, v = .iface t u
theorem tells_no {w : World} {v : Value} {n : Int} {m : Int} (h : Tells w v n m) (h0 : m ≠ -1 ∨ n ≠ 0) : NoT w v := by
 refine ⟨⟨_, _, h⟩, ?_⟩
 rcases h with ⟨_, h1, h2⟩ | ⟨h1, _⟩ | ⟨b, o, h1, _⟩
 ·omega
 ·exact ⟨_, _, h1⟩
 ·exact ⟨_, _, h1⟩
theorem NoT.below {w w' : World} {v : Value} (h : NoT w v) (hb : Below w.heap.size w w') : NoT w' v := by
 obtain ⟨⟨e, a, h1⟩, h2⟩ := h
 exact ⟨⟨e, a, h1.below hb⟩, h2⟩
/-- What isa.Parse answers, whatever it reads. -/
def PaA (w : World) (r : Ending) : Prop := (∃ ev, r = .returned (.tuple #[.slice none 0 0, ev]) ∧ NoT w ev) ∨ ∃ v l, r = .returned (.tuple #[v, .nilIface]) ∧ Rows4 w v l ∧ l.length ≤ 40
theorem parse_any (s : ByteArray) (w : World) (hM : MLok w) (hN : NamesAt w) :
  Calls Tryz.prog 173 #[.string s] w fun r w' => PaA w' r ∧ Below w.heap.size w w' := by
 by_cases h40 : s.size ≤ 4000
 ·obtain ⟨m, m2, hE⟩ := ends_of (linesB s)
  refine (parse_some s m m2 w hM hN h40 hE ?_ ?_).mono ?_
  ·have := linesB_len s; omega
  ·intro t ht; have := linesB_mem s t ht; omega
  rintro r w' ⟨v, ev, rfl, hb, h | h | h | h⟩
  ·obtain ⟨h1, rfl, h3⟩ := h
   exact ⟨.inl ⟨_, rfl, tells_no h3 (.inl (by omega))⟩, hb⟩
  ·obtain ⟨_, _, rfl, h3⟩ := h
   exact ⟨.inl ⟨_, rfl, tells_no h3 (.inr (by omega))⟩, hb⟩
  ·obtain ⟨_, _, h1, rfl, h3⟩ := h
   exact ⟨.inl ⟨_, rfl, tells_no h3 (.inl (by omega))⟩, hb⟩
  ·obtain ⟨h1, h2, _, rfl, h3⟩ := h
   refine ⟨.inr ⟨_, _, rfl, h3, ?_⟩, hb⟩
   have := codeL_upTo (upTo (linesB s) (linesB s).length).1 (linesB s) _ (Nat.le_refl _)
   rw [List.take_length] at this
   omega
 ·refine (parse_long s w (by omega)).mono ?_
  rintro r w' ⟨rfl, hb⟩
  exact ⟨.inl ⟨_, rfl, errT_no _ _, _, _, rfl⟩, hb⟩
/-- What encoded answers. -/
def EncA (w w' : World) (r : Ending) : Prop := (∃ ev, r = .returned (.tuple #[.slice none 0 0, ev]) ∧ NoT w' ev) ∨ ∃ q g c zs, r = .returned (.tuple #[.slice q zs.length c, .nilIface]) ∧ (0 < zs.length → q = some ⟨g, 0, none⟩) ∧ (0 < zs.length → w.heap.size ≤ g) ∧ IntsAt w' g 0 zs ∧ (∀ z ∈ zs, 0 ≤ z ∧ z ≤ 65535) ∧ zs.length ≤ 100
set_option maxRecDepth 100000 in
set_option maxHeartbeats 4000000 in
theorem encoded_any (s : ByteArray) (w : World) (hM : MLok w) (hN : NamesAt w) :
  Calls Tryz.prog 126 #[.string s] w fun r w' => EncA w w' r ∧ Below w.heap.size w w' := by
 have PA := hid (parse_any s w hM hN)
 clear hM hN
 go_enter Tryz.func126, Tryz.ntmps126
 go_wp2_with fail
 refine PA.out.mono ?_
 rintro r w1 ⟨hp, hb⟩
 have B1 := hid hb
 clear hb PA
 rcases hp with ⟨ev, rfl, he⟩ | ⟨v, l, rfl, hr, hl⟩
 ·have HE := hid he
  obtain ⟨t, u, rfl⟩ := he.2
  clear he
  go_wp2_with fail
  go_ret2
  exact ⟨.inl ⟨_, rfl, HE.out⟩, B1.out⟩
 ·obtain ⟨q, cap, rfl, -, hz⟩ := hr
  have HZ := hid hz
  have hl2 : (l.length : Int) ≤ 40 := by omega
  clear hz
  go_wp2_with fail
  go_loopw [6, 21] (fun u i wr => ∃ (k : Nat) (qu : Option Addr) (cu : Nat) (zs : List Int), k ≤ l.length ∧ i = .int .i64 k ∧ u = .slice qu zs.length cu ∧ Hid (zs.length = 2 * k) ∧ Hid (wr.ownsRow w1.heap.size 3 1 (.slice qu zs.length cu) zs.length (ints zs)) ∧ Hid (Below w1.heap.size w1 wr) ∧ Hid (∀ z ∈ zs, 0 ≤ z ∧ z ≤ 65535)) (fun _ i _ => l.length - (intOf i).toNat)
  case atStart => exact ⟨0, none, 0, [], by omega, rfl, rfl, hid rfl, hid (World.ownsRow_nil _ _ _ _), hid (Below.refl _ _), hid (fun z hz => by cases hz)⟩
  case round =>
   obtain ⟨k, qu, cu, zs, hk, rfl, rfl, HL, HO, HB, HW⟩ := hrel
   by_cases hlt : k < l.length
   ·have hlt2 : (k : Int) < (l.length : Int) := by omega
    obtain ⟨b, rfl, hi⟩ := HZ.out (by intro e; rw [e] at hlt; simp at hlt)
    obtain ⟨c0, c1, c2, c3⟩ := hi k hlt
    clear hi
    replace c0 := cell_up c0 HB.out
    replace c1 := cell_up c1 HB.out
    replace c2 := cell_up c2 HB.out
    replace c3 := cell_up c3 HB.out
    rcases hq : l[k] with ⟨o, a, c, i⟩
    rw [hq] at c0 c1 c2 c3
    simp only [Nat.zero_add] at c0 c1 c2 c3
    clear hq
    generalize hn : zs.length = n at *
    have HN := hid hn
    clear hn
    by_cases hm : IP.may o a c i = 0
    ·have EN := hid (fun W => encode_ok o a c i W hm)
     have WI := hid (word_in hm)
     clear hm
     generalize IP.c0 o a c = y0 at *
     generalize IP.c1 i = y1 at *
     go_wp2_with fail
     refine (EN.out _).mono ?_
     rintro r w2 ⟨rfl, hb2⟩
     have B2 := hid (btr (bal HB.out _) hb2)
     have O2 := hid (own_below (own_below HO.out (bal (Below.refl _ _) _)) hb2)
     clear hb2 c0 c1 c2 c3 EN
     go_upto_region 11 with fail
     have bn := bal (Below.refl w2.heap.size w2) (.cells #[.int .i64 y0, .int .i64 y1] 80)
     have B3 := hid (btr B2.out bn)
     have O3 := hid (own_below O2.out bn)
     have X3 := hid (show IntsAt (w2.alloc (.cells #[.int .i64 y0, .int .i64 y1] 80)) w2.heap.size 0 [y0, y1] from fun j hj => by
      match j, hj with
      | 0, _ => exact cells_new w2 #[.int .i64 y0, .int .i64 y1] 80 0
      | 1, _ => exact cells_new w2 #[.int .i64 y0, .int .i64 y1] 80 1)
     generalize w2.alloc (.cells #[.int .i64 y0, .int .i64 y1] 80) = w3 at *
     generalize w2.heap.size = g2 at *
     clear bn B2 O2
     have AP := app_ml (c := 2) (show w3.ownsRow w1.heap.size 3 1 (.slice qu n cu) zs.length (ints zs) by rw [HN.out]; exact O3.out) B3.out.size (by have := HN.out; have := HL.out; omega) (show [y0, y1].length ≤ 1000 by simp) X3.out
     obtain ⟨q', c', w4, hr, ho, hb⟩ := AP
     have HR := hid hr
     have O4 := hid ho
     have B4 := hid (B3.out.trans hb)
     rw [HN.out] at HR
     clear hr ho hb O3 B3
     go_wp2_with (first | (at_builtin; refine wpList_apN rfl _ _ 22 rfl (.slice qu n cu) (.slice (some ⟨g2, 0, none⟩) 2 2) (.slice q' (n + [y0, y1].length) c') rfl rfl HR.out ?_))
     have hl5 : n + [y0, y1].length = (zs ++ [y0, y1]).length := by rw [List.length_append, HN.out]
     have O5 := O4.out
     rw [HN.out, hl5] at O5
     refine ⟨⟨k + 1, q', c', zs ++ [y0, y1], by omega, by go_num, by rw [← hl5]; rfl, hid (by rw [← hl5]; have := HL.out; simp; omega), hid O5, B4, hid (fun z hz => ?_)⟩, by simp [intOf]; omega⟩
     rcases List.mem_append.1 hz with h | h
     ·exact HW.out z h
     ·obtain ⟨w0, w1'⟩ := WI.out
      simp at h
      rcases h with rfl | rfl
      ·exact w0
      ·exact w1'
    ·have EN := hid (fun W => encode_no o a c i W hm)
     have HM := hid hm
     clear hm
     generalize IP.may o a c i = em at *
     go_wp2_with fail
     refine (EN.out _).mono ?_
     rintro r w2 ⟨rfl, hb2⟩
     have B2 := hid (btr (bal HB.out _) hb2)
     clear hb2 c0 c1 c2 c3 EN
     go_wp2_with fail
     go_ret2
     exact ⟨.inl ⟨_, rfl, errT_no _ _, _, _, rfl⟩, btr B1.out (bal B2.out _)⟩
   ·obtain rfl : k = l.length := by omega
    have hge : ¬ ((l.length : Int) < (l.length : Int)) := by omega
    go_wp2_with fail
    go_ret2
    refine ⟨.inr ?_, btr B1.out HB.out⟩
    by_cases h0 : 0 < zs.length
    ·obtain ⟨g, cap2, e, _, hg, hi⟩ := own_pos HO.out rfl h0
     obtain ⟨rfl, -, rfl⟩ := Value.slice.inj e
     exact ⟨_, g, _, zs, rfl, fun _ => rfl, fun _ => Nat.le_trans B1.out.size hg, hi, HW.out, by have := HL.out; omega⟩
    ·obtain rfl := List.eq_nil_of_length_eq_zero (show zs.length = 0 by omega)
     exact ⟨qu, 0, cu, [], rfl, fun h => absurd h h0, fun h => absurd h h0, fun j hj => absurd hj (by simp), fun z hz => (by cases hz), by simp⟩
end Go.Proofs.YtkocmkaeaagbaaaGreatDoor.Wd
namespace Go.Proofs.YtkocmkaeaagbaaaGreatDoor.Wd
open Go.RowKit Go.Proofs.YtkocmkaeaagbaaaGreatDoor.Mem Go.Proofs.YtkocmkaeaagbaaaGreatDoor.Bw Go.Proofs.YtkocmkaeaagbaaaGreatDoor.Nums Go.Proofs.YtkocmkaeaagbaaaGreatDoor.Mmu
theorem Bld.store {W : World} {bb : Nat} {tag : Nat → Nat} {V : Nat → Value} {p p' : PW} {lv : Value} {n g o : Nat} {x : Value} (h : Bld W bb tag V p lv n) (hb : BoxT (W.setCell ⟨g, o, none⟩ x) bb tag V p') (hg : g ≠ bb) (hk : Bt p') : Bld (W.setCell ⟨g, o, none⟩ x) bb tag V p' lv n := by
 have kp : Kp (fun k => k = g) W (W.setCell ⟨g, o, none⟩ x) := (Kp.refl (fun k => k = g) W).setCell (.inl rfl) x
 exact ⟨hb, (kp.cell (p := ⟨bb, 11, none⟩) h.b.lt (Ne.symm hg)).trans h.l, (kp.cell (p := ⟨bb, 12, none⟩) h.b.lt (Ne.symm hg)).trans h.n, there_kp h.t kp (Ne.symm hg), hk⟩
theorem Bld.done {w W : World} {bb : Nat} {tag tag' : Nat → Nat} {V : Nat → Value} {p : PW} {lv : Value} {n : Nat} {N : Nat} (h : Bld W bb tag' V p lv n) (hk : Kt tag tag' w W) : DoA w bb tag lv N n (.returned .nilIface) W :=
 ⟨_, tag', rfl, errT_nil _, hk, fun _ => ⟨V, p, n, h, Nat.le_refl _, id⟩⟩
theorem Bld.view {W : World} {bb : Nat} {tag : Nat → Nat} {V : Nat → Value} {p : PW} {lv : Value} {n : Nat} (h : Bld W bb tag V p lv n) : ViewAt W bb V p := h.b.view h.k.fits h.k.tlb
theorem InT.ne {w : World} {tag : Nat → Nat} {t I s n g cap bb : Nat} {xs : List Value} (h : InT w tag t I s (.slice (some ⟨g, 0, none⟩) n cap) (n, xs)) (hb : tag bb = 1) (ht : t ≠ 1) : g ≠ bb := fun e => ht (by rw [← h.2 g rfl, e, hb])
theorem k_get {p : PW} {t : Nat} (ht : t < p.kinds.length) : p.k t = p.kinds[t] := by unfold PW.k; rw [List.getD_eq_getElem?_getD, List.getElem?_eq_getElem ht]; rfl
set_option maxRecDepth 100000 in
set_option maxHeartbeats 4000000 in
theorem bput_any (bb : Nat) (tag : Nat → Nat) (V : Nat → Value) (p : PW) (lv : Value) (n N g c : Nat) (x y z : Int) (w : World) (h : Bld w bb tag V p lv n) (hz : IntsAt w g 0 [x, y, z]) :
  Calls Tryz.prog 81 #[.pointer (some ⟨bb, 0, none⟩), .slice (some ⟨g, 0, none⟩) 3 c] w fun r w' => DoA w bb tag lv N n r w' := by
 have B0 := hid (show Below w.heap.size w w.drew from below_drew w 1)
 have H := hid (h.below B0.out)
 have Z := hid (hz.below B0.out)
 clear h hz
 go_enter Tryz.func81, Tryz.ntmps81
 go_wp2_with fail
 refine Rf.wp_region_H (R := fun W => IntsAt W g 0 [x, y, z]) [] [0, 1, 2, 3, 4, 5, 6, 7, 8, 9, 10, 11] 0 (by kernel_rfl) Z.out (by kernel_rfl) (by kernel_rfl) (by kernel_rfl) (fun _ => ?_)
 repeat (refine Rf.rd_st rfl (by rfl) (fun _ _ _ _ h => h) ?_; apply Exists.intro; refine ⟨fun W h => ?_, ?_⟩; (focus (have h0 := h 0 (by simp); have h1 := h 1 (by simp); have h2 := h 2 (by simp); clear h; rw [Nat.zero_add] at h0 h1 h2; simp only [List.getElem_cons_zero, List.getElem_cons_succ] at h0 h1 h2; go_simp; try rfl)); simp only [jj])
 refine Rf.rd_nil ?_
 refine Rf.wpAnyF_done (by kernel_rfl) ?_ _
 generalize w.drew = w1 at *
 clear Z
 have TH := hid (thing_any bb V p x 2 w1 H.out.view)
 have W1 := hid (withinB y 0 15 w1)
 have W2 := hid (isWord_any z w1)
 by_cases e1 : thE p x 2 = 0
 ·rw [e1, eV_0] at TH
  obtain ⟨t, ht, rfl, hk⟩ := thE_in e1
  cases e2 : within 0 15 y with
  | false =>
   rw [e2] at W1
   clear e1 e2
   go_wp2_with (first | (go_at_call 124; refine TH.out.mono ?_; rintro r w' ⟨rfl, rfl⟩) | (go_at_call 43; refine W1.out.mono ?_; rintro r w' ⟨rfl, rfl⟩))
   go_ret
   exact DoA.no B0.out
  | true =>
   rw [e2] at W1
   cases e3 : wB z with
   | false =>
    rw [e3] at W2
    clear e1 e2 e3
    go_wp2_with (first | (go_at_call 124; refine TH.out.mono ?_; rintro r w' ⟨rfl, rfl⟩) | (go_at_call 43; refine W1.out.mono ?_; rintro r w' ⟨rfl, rfl⟩) | (go_at_call 91; refine W2.out.mono ?_; rintro r w' ⟨rfl, rfl⟩))
    go_ret
    exact DoA.no B0.out
   | true =>
    rw [e3] at W2
    have hy := of_decide_eq_true e2
    have hw := hid (of_decide_eq_true e3)
    obtain ⟨j, rfl⟩ := Int.eq_ofNat_of_zero_le hy.1
    have hj : j ≤ 15 := by omega
    have hr := H.out.k.lf.ram
    have hk2 := H.out.k.lf.k2
    obtain ⟨d, hde⟩ : ∃ d : Nat, d = t * 16 + j := ⟨_, rfl⟩
    have hd : d < p.ram.length := by omega
    have hq : (t : Int) * 16 + (j : Int) = (d : Int) := by omega
    have hd2 : (d : Int) < (p.ram.length : Int) := by omega
    obtain ⟨gr, cr, e⟩ := H.out.b.o.ram.form (by omega)
    have RM := hid (show InT w1 tag 2 3 1 (.slice (some ⟨gr, 0, none⟩) p.ram.length cr) (p.ram.length, ints p.ram) by rw [← e]; exact H.out.b.o.ram)
    have NE := hid (RM.out.ne H.out.b.g (by decide))
    have BX := hid (H.out.b.ramCell e d z)
    have BT := hid (show Bt { p with ram := p.ram.set d z } from H.out.k.word hd hw.out (by rw [show d / 16 = t by omega, k_get ht, hk]; rfl))
    have c0 : w1.cell? ⟨bb, 0, none⟩ = some (V 0) := range_cell H.out.b.r rfl
    rw [e] at c0
    have cr1 := RM.out.int hd
    have cf1 := RM.out.frozen d
    have hlen : (p.ram.length : Int) ≤ 1000 := by omega
    have ht2 : (t : Int) ≤ 24 := by omega
    have hj2 : (j : Int) ≤ 15 := by omega
    clear e1 e2 e3 hy hr hk2 hde
    go_wp2_with (first | (go_at_call 124; refine TH.out.mono ?_; rintro r w' ⟨rfl, rfl⟩) | (go_at_call 43; refine W1.out.mono ?_; rintro r w' ⟨rfl, rfl⟩) | (go_at_call 91; refine W2.out.mono ?_; rintro r w' ⟨rfl, rfl⟩))
    go_ret
    exact ((H.out.store BX.out.1 NE.out BT.out).done BX.out.2).pre B0.out
 ·rw [eV_n e1] at TH
  go_wp2_with (first | (go_at_call 124; refine TH.out.mono ?_; rintro r w' ⟨rfl, rfl⟩))
  go_ret
  exact DoA.no B0.out
end Go.Proofs.YtkocmkaeaagbaaaGreatDoor.Wd
namespace Go.Proofs.YtkocmkaeaagbaaaGreatDoor.Wd
open Go.RowKit Go.Proofs.YtkocmkaeaagbaaaGreatDoor.Mem Go.Proofs.YtkocmkaeaagbaaaGreatDoor.Bw Go.Proofs.YtkocmkaeaagbaaaGreatDoor.Nums Go.Proofs.YtkocmkaeaagbaaaGreatDoor.Mmu
def tnE (p : PW) (f k : Int) : Int := if f = -1 then 0 else thE p f k
theorem tnE_or {p : PW} {f k : Int} (h : tnE p f k = 0) : isOrB p f k = true := by
 unfold tnE at h
 unfold isOrB
 by_cases e : f = -1
 ·simp [e]
 ·rw [if_neg e] at h
  unfold thE at h
  cases h1 : frB p f with
  | false => rw [h1] at h; cases h
  | true =>
   rw [h1, if_pos rfl] at h
   cases h2 : isB p f k with
   | false => rw [h2] at h; cases h
   | true => simp
set_option maxHeartbeats 2000000 in
theorem thingOrNone_any (bb : Nat) (V : Nat → Value) (p : PW) (f k : Int) (w : World) (hv : ViewAt w bb V p) :
  Calls Tryz.prog 178 #[.pointer (some ⟨bb, 0, none⟩), .int .i64 f, .int .i64 k] w fun r w' => r = .returned (eV (tnE p f k)) ∧ w = w' := by
 have TH := hid (thing_any bb V p f k w hv)
 clear hv
 unfold tnE
 by_cases e : f = -1
 ·subst e
  rw [if_pos rfl, eV_0]
  go_enter Tryz.func178, Tryz.ntmps178
  go_wp2_with fail
  go_ret
  exact ⟨rfl, rfl⟩
 ·rw [if_neg e]
  have e2 : (f == -1) = false := by simp [e]
  generalize eV (thE p f k) = v at *
  go_enter Tryz.func178, Tryz.ntmps178
  go_wp2_with fail
  refine TH.out.mono ?_
  rintro r w' ⟨rfl, rfl⟩
  go_wp2_with fail
  go_ret
  exact ⟨rfl, rfl⟩
def ftE (p : PW) (x a b c : Int) : Int := if thE p x 6 = 0 then (if tnE p a 5 = 0 then (if tnE p b 4 = 0 then tnE p c 7 else tnE p b 4) else tnE p a 5) else thE p x 6
set_option maxHeartbeats 2000000 in
theorem fit_any (bb : Nat) (V : Nat → Value) (p : PW) (x a b c : Int) (w : World) (hv : ViewAt w bb V p) :
  Calls Tryz.prog 130 #[.pointer (some ⟨bb, 0, none⟩), .int .i64 x, .int .i64 a, .int .i64 b, .int .i64 c] w fun r w' => r = .returned (eV (ftE p x a b c)) ∧ w = w' := by
 have TH := hid (thing_any bb V p x 6 w hv)
 have T1 := hid (thingOrNone_any bb V p a 5 w hv)
 have T2 := hid (thingOrNone_any bb V p b 4 w hv)
 have T3 := hid (thingOrNone_any bb V p c 7 w hv)
 clear hv
 unfold ftE
 by_cases e : thE p x 6 = 0
 ·rw [if_pos e]
  rw [e, eV_0] at TH
  by_cases e1 : tnE p a 5 = 0
  ·rw [if_pos e1]
   rw [e1, eV_0] at T1
   by_cases e2 : tnE p b 4 = 0
   ·rw [if_pos e2]
    rw [e2, eV_0] at T2
    clear e e1 e2
    generalize eV (tnE p c 7) = v at *
    go_enter Tryz.func130, Tryz.ntmps130
    go_wp2_with fail
    refine TH.out.mono ?_
    rintro r w' ⟨rfl, rfl⟩
    go_wp2_with fail
    refine T1.out.mono ?_
    rintro r w' ⟨rfl, rfl⟩
    go_wp2_with fail
    refine T2.out.mono ?_
    rintro r w' ⟨rfl, rfl⟩
    go_wp2_with fail
    refine T3.out.mono ?_
    rintro r w' ⟨rfl, rfl⟩
    go_wp2_with fail
    go_ret
    exact ⟨rfl, rfl⟩
   ·rw [if_neg e2, eV_n e2]
    rw [eV_n e2] at T2
    clear e e1 e2
    generalize tnE p b 4 = v at *
    go_enter Tryz.func130, Tryz.ntmps130
    go_wp2_with fail
    refine TH.out.mono ?_
    rintro r w' ⟨rfl, rfl⟩
    go_wp2_with fail
    refine T1.out.mono ?_
    rintro r w' ⟨rfl, rfl⟩
    go_wp2_with fail
    refine T2.out.mono ?_
    rintro r w' ⟨rfl, rfl⟩
    go_wp2_with fail
    go_ret
    exact ⟨rfl, rfl⟩
  ·rw [if_neg e1, eV_n e1]
   rw [eV_n e1] at T1
   clear e e1
   generalize tnE p a 5 = v at *
   go_enter Tryz.func130, Tryz.ntmps130
   go_wp2_with fail
   refine TH.out.mono ?_
   rintro r w' ⟨rfl, rfl⟩
   go_wp2_with fail
   refine T1.out.mono ?_
   rintro r w' ⟨rfl, rfl⟩
   go_wp2_with fail
   go_ret
   exact ⟨rfl, rfl⟩
 ·rw [if_neg e, eV_n e]
  rw [eV_n e] at TH
  clear e
  generalize thE p x 6 = v at *
  go_enter Tryz.func130, Tryz.ntmps130
  go_wp2_with fail
  refine TH.out.mono ?_
  rintro r w' ⟨rfl, rfl⟩
  go_wp2_with fail
  go_ret
  exact ⟨rfl, rfl⟩
theorem bcore_any (vb n : Nat) (q : Option Addr) (cap : Nat) (c : Int) (w : World) (c6 : w.cell? ⟨vb, 6, none⟩ = some (.slice q n cap)) (h1 : (1 : Int) ≤ (n : Int)) (h2 : (n : Int) ≤ 1000) :
  Calls Tryz.prog 131 #[.pointer (some ⟨vb, 0, none⟩), .int .i64 c] w fun r w' => r = .returned (.bool (within 0 ((n : Int) - 1) c)) ∧ w = w' := by
 have HWI := hid (withinB c 0 ((n : Int) - 1) w)
 go_enter Tryz.func131, Tryz.ntmps131
 go_wp2_with fail
 refine HWI.out.mono ?_
 rintro r w1 ⟨rfl, rfl⟩
 go_wp2_with fail
 go_ret
 exact ⟨rfl, rfl⟩
/-- What a task is given. -/
def bqP (p : PW) (t : Nat) (a b c d e f : Int) : PW := (((((p.task t 11 a).task t 12 b).task t 13 c).task t 18 d).task t 10 e).task t 19 f
theorem BoxT.taskP {W : World} {wb : Nat} {tag : Nat → Nat} {V : Nat → Value} {p : PW} (h : BoxT W wb tag V p) {g cap n : Nat} (hn : p.tasks.length = n) (e : V 3 = .slice (some ⟨g, 0, none⟩) n cap) {i k : Nat} (hi : i < n) (hk : k < 20) (x : Int) :
  BoxT (W.setCell ⟨g, i * 20 + k, none⟩ (.int .i64 x)) wb tag V (p.task i k x) ∧ Kt tag tag W (W.setCell ⟨g, i * 20 + k, none⟩ (.int .i64 x)) ∧ (p.task i k x).tasks.length = n := by
 subst hn
 have := h.tasksCell e hi hk x
 have e2 : p.tasks.getD i bl = p.tasks[i] := by rw [List.getD_eq_getElem?_getD, List.getElem?_eq_getElem hi]; rfl
 refine ⟨?_, this.2, PW.task_len p i k x⟩
 unfold PW.task
 rw [e2]
 exact this.1
theorem Bld.cells {W W' : World} {bb : Nat} {tag : Nat → Nat} {V : Nat → Value} {p p' : PW} {lv : Value} {n g : Nat} (h : Bld W bb tag V p lv n) (hb : BoxT W' bb tag V p') (kp : Kp (fun k => k = g) W W') (hg : g ≠ bb) (hk : Bt p') : Bld W' bb tag V p' lv n :=
 ⟨hb, (kp.cell (p := ⟨bb, 11, none⟩) h.b.lt (Ne.symm hg)).trans h.l, (kp.cell (p := ⟨bb, 12, none⟩) h.b.lt (Ne.symm hg)).trans h.n, there_kp h.t kp (Ne.symm hg), hk⟩
theorem task2 {p : PW} {t k : Nat} {f : Nat → Int} {x : Int} (ht : t < p.tasks.length) : PW.task { p with tasks := p.tasks.set t f } t k x = { p with tasks := p.tasks.set t (upd f k x) } := by
 unfold PW.task
 show ({ p with tasks := (p.tasks.set t f).set t (upd ((p.tasks.set t f).getD t bl) k x) } : PW) = _
 rw [List.set_set, List.getD_eq_getElem?_getD, List.getElem?_set_self ht]
 rfl
theorem bq_bt {p : PW} {t : Nat} {a b c d e f : Int} (h : Bt p) (h6 : p.k t = 6) (h9 : p.t t 9 = 0) (hf : tnE p a 5 = 0 ∧ tnE p b 4 = 0 ∧ tnE p c 7 = 0) (hd : 0 ≤ d ∧ d ≤ (p.cores.length : Int) - 1) (he : 0 ≤ e ∧ e ≤ 3) (hg : 0 ≤ f ∧ f ≤ 3) : Bt (bqP p t a b c d e f) := by
 have ht : t < p.tasks.length := by have := k_in (p := p) (f := t) (by omega); have := h.lf.tasks; omega
 have nt := h.tsk.yes t h6
 unfold bqP
 rw [show p.task t 11 a = { p with tasks := p.tasks.set t (upd (p.t t) 11 a) } from rfl, task2 ht, task2 ht, task2 ht, task2 ht, task2 ht]
 refine h.task h6 h9 ⟨fun k hk => ?_, .inl ?_, ?_, ⟨tnE_or hf.1, tnE_or hf.2.1, tnE_or hf.2.2⟩, nt.v, hd, hg⟩ h9
 ·have := nt.z k hk
  unfold upd
  rw [if_neg (by omega), if_neg (by omega), if_neg (by omega), if_neg (by omega), if_neg (by omega), if_neg (by omega)]
  exact this
 ·exact h9
 ·exact he
set_option maxRecDepth 100000 in
set_option maxHeartbeats 4000000 in
theorem bequip_any (bb : Nat) (tag : Nat → Nat) (V : Nat → Value) (p : PW) (lv : Value) (n N g c : Nat) (x n1 n2 n3 n4 n5 n6 : Int) (w : World) (h : Bld w bb tag V p lv n) (hz : IntsAt w g 0 [x, n1, n2, n3, n4, n5, n6]) :
  Calls Tryz.prog 84 #[.pointer (some ⟨bb, 0, none⟩), .slice (some ⟨g, 0, none⟩) 7 c] w fun r w' => DoA w bb tag lv N n r w' := by
 have B0 := hid (show Below w.heap.size w w.drew from below_drew w 1)
 have H := hid (h.below B0.out)
 have Z := hid (hz.below B0.out)
 clear h hz
 go_enter Tryz.func84, Tryz.ntmps84
 go_wp2_with fail
 refine Rf.wp_region_H (R := fun W => IntsAt W g 0 [x, n1, n2, n3, n4, n5, n6]) [] [0, 1, 2, 3, 4, 5, 6, 7, 8, 9, 10, 11, 12, 13, 14, 15] 0 (by kernel_rfl) Z.out (by kernel_rfl) (by kernel_rfl) (by kernel_rfl) (fun _ => ?_)
 repeat (refine Rf.rd_st rfl (by rfl) (fun _ _ _ _ h => h) ?_; apply Exists.intro; refine ⟨fun W h => ?_, ?_⟩; (focus (have h0 := h 0 (by simp); have h1 := h 1 (by simp); have h2 := h 2 (by simp); have h3 := h 3 (by simp); clear h; rw [Nat.zero_add] at h0 h1 h2 h3; simp only [List.getElem_cons_zero, List.getElem_cons_succ] at h0 h1 h2 h3; go_simp; try rfl)); simp only [jj])
 refine Rf.rd_nil ?_
 refine Rf.wpAnyF_done (by kernel_rfl) ?_ _
 have BB := hid (btr B0.out (show Below w.drew.heap.size w.drew w.drew.drew from below_drew w.drew 1))
 replace H := hid (H.out.below (show Below w.drew.heap.size w.drew w.drew.drew from below_drew w.drew 1))
 replace Z := hid (Z.out.below (show Below w.drew.heap.size w.drew w.drew.drew from below_drew w.drew 1))
 clear B0
 go_wp2_with fail
 refine Rf.wp_region_H (R := fun W => IntsAt W g 0 [x, n1, n2, n3, n4, n5, n6]) [] [0, 1, 2, 3, 4, 5, 6, 7, 8, 9, 10, 11] 0 (by kernel_rfl) Z.out (by kernel_rfl) (by kernel_rfl) (by kernel_rfl) (fun _ => ?_)
 repeat (refine Rf.rd_st rfl (by rfl) (fun _ _ _ _ h => h) ?_; apply Exists.intro; refine ⟨fun W h => ?_, ?_⟩; (focus (have h4 := h 4 (by simp); have h5 := h 5 (by simp); have h6 := h 6 (by simp); clear h; rw [Nat.zero_add] at h4 h5 h6; simp only [List.getElem_cons_zero, List.getElem_cons_succ] at h4 h5 h6; go_simp; try rfl)); simp only [jj])
 refine Rf.rd_nil ?_
 refine Rf.wpAnyF_done (by kernel_rfl) ?_ _
 generalize w.drew.drew = w1 at *
 clear Z
 have FT := hid (fit_any bb V p x n1 n2 n3 w1 H.out.view)
 by_cases e1 : ftE p x n1 n2 n3 = 0
 ·rw [e1, eV_0] at FT
  have hc1 := H.out.k.lf.c1
  have hc2 := H.out.k.lf.c2
  obtain ⟨g6, cap6, e6⟩ := H.out.b.o.cores.form (by omega)
  have c6 : w1.cell? ⟨bb, 6, none⟩ = some (.slice (some ⟨g6, 0, none⟩) p.cores.length cap6) := by rw [range_cell H.out.b.r (k := 6) rfl, e6]
  have IC := hid (bcore_any bb p.cores.length (some ⟨g6, 0, none⟩) cap6 n4 w1 c6 (by omega) (by omega))
  have W1 := hid (withinB n5 0 3 w1)
  have W2 := hid (withinB n6 0 3 w1)
  clear c6 e6 hc1 hc2
  cases e2 : within 0 ((p.cores.length : Int) - 1) n4 with
  | false =>
   rw [e2] at IC
   clear e1 e2
   go_wp2_with fail
   refine FT.out.mono ?_
   rintro r w' ⟨rfl, rfl⟩
   go_wp2_with fail
   refine IC.out.mono ?_
   rintro r w' ⟨rfl, rfl⟩
   go_wp2_with fail
   go_ret
   exact DoA.no BB.out
  | true =>
  rw [e2] at IC
  cases e3 : within 0 3 n5 with
  | false =>
   rw [e3] at W1
   clear e1 e2 e3
   go_wp2_with fail
   refine FT.out.mono ?_
   rintro r w' ⟨rfl, rfl⟩
   go_wp2_with fail
   refine IC.out.mono ?_
   rintro r w' ⟨rfl, rfl⟩
   go_wp2_with fail
   refine W1.out.mono ?_
   rintro r w' ⟨rfl, rfl⟩
   go_wp2_with fail
   go_ret
   exact DoA.no BB.out
  | true =>
  rw [e3] at W1
  cases e4 : within 0 3 n6 with
  | false =>
   rw [e4] at W2
   clear e1 e2 e3 e4
   go_wp2_with fail
   refine FT.out.mono ?_
   rintro r w' ⟨rfl, rfl⟩
   go_wp2_with fail
   refine IC.out.mono ?_
   rintro r w' ⟨rfl, rfl⟩
   go_wp2_with fail
   refine W1.out.mono ?_
   rintro r w' ⟨rfl, rfl⟩
   go_wp2_with fail
   refine W2.out.mono ?_
   rintro r w' ⟨rfl, rfl⟩
   go_wp2_with fail
   go_ret
   exact DoA.no BB.out
  | true =>
  rw [e4] at W2
  have hn4 := of_decide_eq_true e2
  have hn5 := of_decide_eq_true e3
  have hn6 := of_decide_eq_true e4
  have FI := hid (show thE p x 6 = 0 ∧ tnE p n1 5 = 0 ∧ tnE p n2 4 = 0 ∧ tnE p n3 7 = 0 by
   unfold ftE at e1
   by_cases a1 : thE p x 6 = 0
   ·rw [if_pos a1] at e1
    by_cases a2 : tnE p n1 5 = 0
    ·rw [if_pos a2] at e1
     by_cases a3 : tnE p n2 4 = 0
     ·rw [if_pos a3] at e1
      exact ⟨a1, a2, a3, e1⟩
     ·rw [if_neg a3] at e1
      exact absurd e1 a3
    ·rw [if_neg a2] at e1
     exact absurd e1 a2
   ·rw [if_neg a1] at e1
    exact absurd e1 a1)
  have N4 := hid hn4
  have N5 := hid hn5
  have N6 := hid hn6
  obtain ⟨t, ht, rfl, hk⟩ := thE_in FI.out.1
  have hlt := H.out.k.lf.tasks
  have hk2 := H.out.k.lf.k2
  have htt : t < p.tasks.length := by omega
  obtain ⟨gt, ct, e5⟩ := H.out.b.o.tasks.form (by omega)
  have RM := hid (show InT w1 tag 5 68 20 (.slice (some ⟨gt, 0, none⟩) p.tasks.length ct) (p.tasks.length, rowsC 20 p.tasks) by rw [← e5]; exact H.out.b.o.tasks)
  have NE := hid (RM.out.ne H.out.b.g (by decide))
  have E5 := hid e5
  have c3 : w1.cell? ⟨bb, 3, none⟩ = some (.slice (some ⟨gt, 0, none⟩) p.tasks.length ct) := by rw [range_cell H.out.b.r (k := 3) rfl, e5]
  have c9 := H.out.b.tasksAt e5 htt (k := 9) (by decide)
  have HT := hid htt
  have HK := hid (show p.k t = 6 by rw [k_get ht]; exact hk)
  have T9 := hid (show p.t t 9 = p.tasks[t] 9 by unfold PW.t; rw [List.getD_eq_getElem?_getD, List.getElem?_eq_getElem htt]; rfl)
  have hti : (t : Int) < (p.tasks.length : Int) := by omega
  have htl : (p.tasks.length : Int) ≤ 24 := by omega
  generalize p.tasks[t] 9 = st at *
  clear e1 e2 e3 e4 e5 hn4 hn5 hn6 hlt hk2 ht hk htt
  by_cases h9 : st = 0
  ·subst h9
   have d11 := H.out.b.tasksAt E5.out HT.out (k := 11) (by decide)
   have q11 := RM.out.frozen (t * 20 + 11)
   have d12 := H.out.b.tasksAt E5.out HT.out (k := 12) (by decide)
   have q12 := RM.out.frozen (t * 20 + 12)
   have d13 := H.out.b.tasksAt E5.out HT.out (k := 13) (by decide)
   have q13 := RM.out.frozen (t * 20 + 13)
   have d18 := H.out.b.tasksAt E5.out HT.out (k := 18) (by decide)
   have q18 := RM.out.frozen (t * 20 + 18)
   have d10 := H.out.b.tasksAt E5.out HT.out (k := 10) (by decide)
   have q10 := RM.out.frozen (t * 20 + 10)
   have d19 := H.out.b.tasksAt E5.out HT.out (k := 19) (by decide)
   have q19 := RM.out.frozen (t * 20 + 19)
   go_wp2_with fail
   refine FT.out.mono ?_
   rintro r w' ⟨rfl, rfl⟩
   go_wp2_with fail
   refine IC.out.mono ?_
   rintro r w' ⟨rfl, rfl⟩
   go_wp2_with fail
   refine W1.out.mono ?_
   rintro r w' ⟨rfl, rfl⟩
   go_wp2_with fail
   refine W2.out.mono ?_
   rintro r w' ⟨rfl, rfl⟩
   go_wp2_with fail
   obtain ⟨x1, y1, l1⟩ := H.out.b.taskP rfl E5.out HT.out (k := 11) (by decide) n1
   obtain ⟨x2, y2, l2⟩ := x1.taskP l1 E5.out HT.out (k := 12) (by decide) n2
   obtain ⟨x3, y3, l3⟩ := x2.taskP l2 E5.out HT.out (k := 13) (by decide) n3
   obtain ⟨x4, y4, l4⟩ := x3.taskP l3 E5.out HT.out (k := 18) (by decide) n4
   obtain ⟨x5, y5, l5⟩ := x4.taskP l4 E5.out HT.out (k := 10) (by decide) n5
   obtain ⟨x6, y6, l6⟩ := x5.taskP l5 E5.out HT.out (k := 19) (by decide) n6
   go_ret
   refine (Bld.done (tag' := tag) (p := bqP p t n1 n2 n3 n4 n5 n6) (H.out.cells x6 ((((((((Kp.refl (fun k => k = gt) w1).setCell (.inl rfl) _).setCell (.inl rfl) _).setCell (.inl rfl) _).setCell (.inl rfl) _).setCell (.inl rfl) _).setCell (.inl rfl) _)) NE.out (bq_bt H.out.k HK.out T9.out FI.out.2 N4.out N5.out N6.out)) ((((((y1.trans y2).trans y3).trans y4).trans y5).trans y6))).pre BB.out
  ·have h9b : (st == 0) = false := by simp [h9]
   clear h9
   go_wp2_with fail
   refine FT.out.mono ?_
   rintro r w' ⟨rfl, rfl⟩
   go_wp2_with fail
   refine IC.out.mono ?_
   rintro r w' ⟨rfl, rfl⟩
   go_wp2_with fail
   refine W1.out.mono ?_
   rintro r w' ⟨rfl, rfl⟩
   go_wp2_with fail
   refine W2.out.mono ?_
   rintro r w' ⟨rfl, rfl⟩
   go_wp2_with fail
   go_ret
   exact DoA.no BB.out
 ·rw [eV_n e1] at FT
  clear e1
  generalize ftE p x n1 n2 n3 = v at *
  go_wp2_with fail
  refine FT.out.mono ?_
  rintro r w' ⟨rfl, rfl⟩
  go_wp2_with fail
  go_ret
  exact DoA.no BB.out
end Go.Proofs.YtkocmkaeaagbaaaGreatDoor.Wd
