/- A world out of a text: isClay, the order clay; walked. · A world out of a text: the order clay; walked. · A world out of a text: lay; walked. -/
import Derived.Test.YtkocmkaeaagbaaaGreatDoorQbi
namespace Go.Proofs.YtkocmkaeaagbaaaGreatDoor.Wd
open Go.RowKit Go.Proofs.YtkocmkaeaagbaaaGreatDoor.Mem Go.Proofs.YtkocmkaeaagbaaaGreatDoor.Bw Go.Proofs.YtkocmkaeaagbaaaGreatDoor.Nums Go.Proofs.YtkocmkaeaagbaaaGreatDoor.Mmu
def sl7 (f : Nat → Int) : Array Value := #[.int .i64 (f 0), .int .i64 (f 1), .int .i64 (f 2), .int .i64 (f 3), .int .i64 (f 4), .int .i64 (f 5), .int .i64 (f 6)]
set_option maxHeartbeats 2000000 in
theorem isClayN_any (c : Nat) (fr f0 f1 f2 f3 f4 f5 f6 : Int) (w : World) (hc : w.cell? ⟨c, 0, none⟩ = some (.int .i64 fr)) (h1 : f0 = 1 → 0 ≤ f1 ∧ f1 ≤ 1000 ∧ 0 ≤ f2 ∧ f2 ≤ 1000) :
  Calls Tryz.prog 157 #[.agg #[.int .i64 f0, .int .i64 f1, .int .i64 f2, .int .i64 f3, .int .i64 f4, .int .i64 f5, .int .i64 f6], .pointer (some ⟨c, 0, none⟩)] w fun r w' => r = .returned (.bool (f0 == 1 && decide (f1 ≤ fr ∧ fr ≤ f1 + f2 - 1))) ∧ Below w.heap.size w w' := by
 have hb := bal (Below.refl w.heap.size w) (.cells #[.int .i64 f0, .int .i64 f1, .int .i64 f2, .int .i64 f3, .int .i64 f4, .int .i64 f5, .int .i64 f6] 45)
 have BB := hid hb
 have xc := cell_up hc hb
 have CN := cells_new w #[.int .i64 f0, .int .i64 f1, .int .i64 f2, .int .i64 f3, .int .i64 f4, .int .i64 f5, .int .i64 f6] 45
 have WI := hid (within_any fr f1 (f1 + f2 - 1) (w.alloc (.cells #[.int .i64 f0, .int .i64 f1, .int .i64 f2, .int .i64 f3, .int .i64 f4, .int .i64 f5, .int .i64 f6] 45)))
 clear hb hc
 by_cases e : f0 = 1
 ·obtain ⟨a1, a2, a3, a4⟩ := h1 e
  subst e
  clear h1
  go_enter Tryz.func157, Tryz.ntmps157
  go_wp2_with fail
  refine WI.out.mono ?_
  rintro r w' ⟨rfl, rfl⟩
  go_wp2_with fail
  go_ret
  exact ⟨by simp, BB.out⟩
 ·have e2 : (f0 == 1) = false := by simp [e]
  clear h1
  go_enter Tryz.func157, Tryz.ntmps157
  go_wp2_with fail
  go_ret
  exact ⟨by simp [e2], BB.out⟩
/-- Slots in memory. -/
def SlsAt (w : World) (g : Nat) (fs : List (Nat → Int)) : Prop := ∀ i k, i < fs.length → k < 7 → w.cell? ⟨g, i * 7 + k, none⟩ = some (.int .i64 (fs.getD i eS k))
theorem SlsAt.below {w w' : World} {g : Nat} {fs : List (Nat → Int)} (h : SlsAt w g fs) (hb : Below w.heap.size w w') : SlsAt w' g fs := fun i k hi hk => cell_up (h i k hi hk) hb
set_option maxRecDepth 100000 in
set_option maxHeartbeats 8000000 in
theorem indexClay_any (g c cap : Nat) (fs : List (Nat → Int)) (fr : Int) (w : World) (hS : SlsAt w g fs) (hl : fs.length ≤ 1000) (hc : w.cell? ⟨c, 0, none⟩ = some (.int .i64 fr)) (h1 : ∀ i, fs.getD i eS 0 = 1 → 0 ≤ fs.getD i eS 1 ∧ fs.getD i eS 1 ≤ 1000 ∧ 0 ≤ fs.getD i eS 2 ∧ fs.getD i eS 2 ≤ 1000) :
  Calls Tryz.prog 193 #[.slice (some ⟨g, 0, none⟩) fs.length cap, .func (.func 157) #[] #[.pointer (some ⟨c, 0, none⟩)]] w fun r w' => ∃ z : Int, r = .returned (.int .i64 z) ∧ Below w.heap.size w w' ∧ (z < 0 → ∀ i, i < fs.length → clI fr (fs.getD i eS) = false) := by
 have hl2 : (fs.length : Int) ≤ 1000 := by omega
 have HS := hid hS
 have HC := hid hc
 have H1 := hid h1
 clear hS hc h1
 go_enter Tryz.func193, Tryz.ntmps193
 go_wp2_with fail
 go_loopw [8] (fun i wr => ∃ (k : Nat), k ≤ fs.length ∧ i = .int .i64 k ∧ Hid (Below w.heap.size w wr ∧ ∀ j, j < k → clI fr (fs.getD j eS) = false)) (fun i _ => fs.length - (intOf i).toNat)
 case atStart => exact ⟨0, by omega, rfl, hid ⟨Below.refl _ _, fun j h => by omega⟩⟩
 case round =>
  obtain ⟨k, hk, rfl, HH⟩ := hrel
  have BB := hid HH.out.1
  have HN := hid HH.out.2
  clear HH
  by_cases hlt : k < fs.length
  ·have hlt2 : (k : Int) < (fs.length : Int) := by omega
   have RG := hid (show wr.rangeAt g (k * 7) (sl7 (fs.getD k eS)).toList from fun o x hx => by
    have h1 := fun j hj => HS.out.below BB.out k j hlt hj
    rcases o with _ | _ | _ | _ | _ | _ | _ | o
    ·exact (h1 0 (by decide)).trans hx
    ·exact (h1 1 (by decide)).trans hx
    ·exact (h1 2 (by decide)).trans hx
    ·exact (h1 3 (by decide)).trans hx
    ·exact (h1 4 (by decide)).trans hx
    ·exact (h1 5 (by decide)).trans hx
    ·exact (h1 6 (by decide)).trans hx
    ·simp [sl7] at hx)
   have CL := hid (isClayN_any c fr (fs.getD k eS 0) (fs.getD k eS 1) (fs.getD k eS 2) (fs.getD k eS 3) (fs.getD k eS 4) (fs.getD k eS 5) (fs.getD k eS 6) wr (cell_up HC.out BB.out) (H1.out k))
   have HY := hid (show clI fr (fs.getD k eS) = (fs.getD k eS 0 == 1 && decide (fs.getD k eS 1 ≤ fr ∧ fr ≤ fs.getD k eS 1 + fs.getD k eS 2 - 1)) from rfl)
   unfold sl7 at RG
   generalize (fs.getD k eS 0 == 1 && decide (fs.getD k eS 1 ≤ fr ∧ fr ≤ fs.getD k eS 1 + fs.getD k eS 2 - 1)) = bv at CL HY
   generalize fs.getD k eS 0 = f0 at RG CL
   generalize fs.getD k eS 1 = f1 at RG CL
   generalize fs.getD k eS 2 = f2 at RG CL
   generalize fs.getD k eS 3 = f3 at RG CL
   generalize fs.getD k eS 4 = f4 at RG CL
   generalize fs.getD k eS 5 = f5 at RG CL
   generalize fs.getD k eS 6 = f6 at RG CL
   go_wp2_with (first | ((with_reducible (show wpList _ _ _ (⟨_, Op.load 45 _, _, _, _, _⟩ :: _) _ _)); refine wpList_load_mid rfl 45 _ rfl g (k * 7) rfl [.int .i64 f0, .int .i64 f1, .int .i64 f2, .int .i64 f3, .int .i64 f4, .int .i64 f5, .int .i64 f6] _ RG.out Tryz.underlying45 rfl (by rw [info7]; rfl) ?_))
   refine CL.out.mono ?_
   rintro r w1 ⟨rfl, hb⟩
   have B2 := hid (btr BB.out hb)
   clear hb RG CL
   cases bv with
   | true =>
    go_wp2_with fail
    go_ret
    exact ⟨k, rfl, B2.out, fun h => by omega⟩
   | false =>
    have HN2 := hid (show Below w.heap.size w w1 ∧ ∀ j, j < k + 1 → clI fr (fs.getD j eS) = false from ⟨B2.out, fun j h => by
     by_cases e2 : j = k
     ·subst e2
      exact HY.out
     ·exact HN.out j (by omega)⟩)
    go_wp2_with fail
    exact ⟨⟨k + 1, by omega, by go_num, HN2⟩, by simp [intOf]; omega⟩
  ·obtain rfl : k = fs.length := by omega
   have hge : ¬ ((fs.length : Int) < (fs.length : Int)) := by omega
   go_wp2_with fail
   go_ret
   exact ⟨-1, rfl, BB.out, fun _ i hi => HN.out i hi⟩
end Go.Proofs.YtkocmkaeaagbaaaGreatDoor.Wd
namespace Go.Proofs.YtkocmkaeaagbaaaGreatDoor.Wd
open Go.RowKit Go.Proofs.YtkocmkaeaagbaaaGreatDoor.Mem Go.Proofs.YtkocmkaeaagbaaaGreatDoor.Bw Go.Proofs.YtkocmkaeaagbaaaGreatDoor.Nums Go.Proofs.YtkocmkaeaagbaaaGreatDoor.Mmu
theorem set_self6 {α : Type} {l : List α} {j : Nat} {a : α} (h : l[j]? = some a) : l.set j a = l := by
 apply List.ext_getElem?
 intro n
 by_cases e : j = n
 ·subst e
  rw [List.getElem?_set_self (List.getElem?_eq_some_iff.1 h).1, h]
 ·rw [List.getElem?_set_ne e]
theorem BoxT.slotsSix {W : World} {wb : Nat} {tag : Nat → Nat} {V : Nat → Value} {p : PW} (h : BoxT W wb tag V p) {g cap : Nat} (e : V 2 = .slice (some ⟨g, 0, none⟩) p.slots.length cap) {i : Nat} (hi : i < p.slots.length) (f : Nat → Int) (h6 : p.slots[i] 6 = f 6) :
  BoxT (W.setCells g (i * 7) (cf 6 f)) wb tag V { p with slots := p.slots.set i f } ∧ Kt tag tag W (W.setCells g (i * 7) (cf 6 f)) ∧ Kp (fun k => k = g) W (W.setCells g (i * 7) (cf 6 f)) := by
 have c6 := h.slotsAt e hi (k := 6) (by decide)
 have h2 := h.o.slots
 rw [e] at h2
 obtain ⟨h3, h4⟩ := h2.cells (i * 7) (cf 6 f)
 have hx : (rowsC 7 p.slots)[i * 7 + 6]? = some (.int .i64 (f 6)) := by
  have h5 : W.cell? ⟨g, i * 7 + 6, none⟩ = (rowsC 7 p.slots)[i * 7 + 6]? := h2.1.cellAt (i * 7 + 6) (by omega)
  rw [← h5, c6, h6]
 have hs := rowsC_set 7 (by decide) p.slots i hi f
 have h7 : spl (rowsC 7 p.slots) (i * 7) (cf 7 f) = (spl (rowsC 7 p.slots) (i * 7) (cf 6 f)).set (i * 7 + 6) (.int .i64 (f 6)) := rfl
 have h8 : (spl (rowsC 7 p.slots) (i * 7) (cf 6 f))[i * 7 + 6]? = some (.int .i64 (f 6)) := by
  show ((((((((rowsC 7 p.slots).set (i * 7) _).set (i * 7 + 1) _).set (i * 7 + 2) _).set (i * 7 + 3) _).set (i * 7 + 4) _).set (i * 7 + 5) _))[i * 7 + 6]? = _
  rw [List.getElem?_set_ne (by omega), List.getElem?_set_ne (by omega), List.getElem?_set_ne (by omega), List.getElem?_set_ne (by omega), List.getElem?_set_ne (by omega), List.getElem?_set_ne (by omega)]
  exact hx
 rw [h7, set_self6 h8] at hs
 rw [hs] at h3
 refine ⟨h.slots h4 (fun _ _ => rfl) ?_, .of h4 (fun k e => by omega) (fun _ _ => rfl), Kp.setCells (T := fun k => k = g) (.inl rfl) _ _ _ (Kp.refl _ _)⟩
 rw [List.length_set, e]
 exact h3
theorem Bt.small {p : PW} (h : Bt p) (i : Nat) : p.slots.getD i eS 0 = 1 → 0 ≤ p.slots.getD i eS 1 ∧ p.slots.getD i eS 1 ≤ 1000 ∧ 0 ≤ p.slots.getD i eS 2 ∧ p.slots.getD i eS 2 ≤ 1000 := fun e => by
 obtain ⟨r, ks⟩ := h.keys
 have k := kc_in (ks.key i (by show p.slots.getD i eS 0 ≠ 0; omega)).c (by show p.slots.getD i eS 0 ≠ 0; omega)
 have := k.b; have := k.l; have := k.bl
 exact ⟨k.b, by show p.s i 1 ≤ 1000; omega, by show 0 ≤ p.s i 2; omega, by show p.s i 2 ≤ 1000; omega⟩
set_option maxRecDepth 100000 in
set_option maxHeartbeats 4000000 in
theorem isClay_any (bb : Nat) (tag : Nat → Nat) (V : Nat → Value) (p : PW) (lv : Value) (n : Nat) (fr : Int) (w : World) (h : Bld w bb tag V p lv n) :
  Calls Tryz.prog 119 #[.pointer (some ⟨bb, 0, none⟩), .int .i64 fr] w fun r w' => ∃ b, r = .returned (.bool b) ∧ Below w.heap.size w w' ∧ (b = false → ∀ i, clI fr (p.s i) = false) := by
 have hb := bal (Below.refl w.heap.size w) (.cells #[.int .i64 fr] 3)
 have H := hid (h.below hb)
 have BB := hid hb
 have CC := hid (cells_new w #[.int .i64 fr] 3 0)
 have k1 := h.k.lf.k1
 have k2 := h.k.lf.k2
 have ks := h.k.lf.slots
 obtain ⟨g, cap, e⟩ := H.out.b.o.slots.form (by omega)
 have c2 : (w.alloc (.cells #[.int .i64 fr] 3)).cell? ⟨bb, 2, none⟩ = some (.slice (some ⟨g, 0, none⟩) p.slots.length cap) := by rw [range_cell H.out.b.r (k := 2) rfl, e]
 have SS := hid (show SlsAt (w.alloc (.cells #[.int .i64 fr] 3)) g p.slots from fun i k hi hk => by
  rw [H.out.b.slotsAt e hi hk, List.getD_eq_getElem?_getD, List.getElem?_eq_getElem hi]; rfl)
 have IX := hid (indexClay_any g w.heap.size cap p.slots fr _ SS.out (by omega) CC.out h.k.small)
 clear h hb k1 k2 ks e
 have CF := hid (show Calls Tryz.prog 156 #[.slice (some ⟨g, 0, none⟩) p.slots.length cap, .func (.func 157) #[] #[.pointer (some ⟨w.heap.size, 0, none⟩)]] (w.alloc (.cells #[.int .i64 fr] 3)) fun r w' => ∃ b, r = .returned (.bool b) ∧ Below (w.alloc (.cells #[.int .i64 fr] 3)).heap.size (w.alloc (.cells #[.int .i64 fr] 3)) w' ∧ (b = false → ∀ i, i < p.slots.length → clI fr (p.slots.getD i eS) = false) by
  generalize w.alloc (.cells #[.int .i64 fr] 3) = w1 at *
  go_enter Tryz.func156, Tryz.ntmps156
  go_wp2_with fail
  refine IX.out.mono ?_
  rintro r w2 ⟨z, rfl, hb, hz⟩
  have B2 := hid hb
  have HZ := hid hz
  clear hb hz
  go_wp2_with fail
  go_ret
  exact ⟨decide (0 ≤ z), by simp, B2.out, fun e => HZ.out (by have := of_decide_eq_false e; omega)⟩)
 clear IX SS CC
 go_enter Tryz.func119, Tryz.ntmps119
 go_wp2_with fail
 refine CF.out.mono ?_
 rintro r w2 ⟨b, rfl, hb, hz⟩
 have B2 := hid (btr BB.out hb)
 have HZ := hid hz
 clear hb hz CF
 go_wp2_with fail
 go_ret
 refine ⟨b, rfl, B2.out, fun e i => ?_⟩
 rcases Nat.lt_or_ge i p.slots.length with h1 | h1
 ·exact HZ.out e i h1
 ·rw [s_out h1]; rfl
set_option maxRecDepth 100000 in
set_option maxHeartbeats 8000000 in
theorem bclay_any (bb : Nat) (tag : Nat → Nat) (V : Nat → Value) (p : PW) (lv : Value) (n N g c : Nat) (x y z : Int) (w : World) (h : Bld w bb tag V p lv n) (hz : IntsAt w g 0 [x, y, z]) (hyz : -1000000 ≤ y ∧ y ≤ 1000000 ∧ -1000000 ≤ z ∧ z ≤ 1000000) :
  Calls Tryz.prog 77 #[.pointer (some ⟨bb, 0, none⟩), .slice (some ⟨g, 0, none⟩) 3 c] w fun r w' => DoA w bb tag lv N n r w' := by
 have B0 := hid (show Below w.heap.size w w.drew from below_drew w 1)
 have H := hid (h.below B0.out)
 have Z := hid (hz.below B0.out)
 clear h hz
 obtain ⟨y1, y2, z1, z2⟩ := hyz
 go_enter Tryz.func77, Tryz.ntmps77
 go_wp2_with fail
 refine Rf.wp_region_H (R := fun W => IntsAt W g 0 [x, y, z]) [] [0, 1, 2, 3, 4, 5, 6, 7, 8, 9, 10, 11] 0 (by kernel_rfl) Z.out (by kernel_rfl) (by kernel_rfl) (by kernel_rfl) (fun _ => ?_)
 repeat (refine Rf.rd_st rfl (by rfl) (fun _ _ _ _ h => h) ?_; apply Exists.intro; refine ⟨fun W h => ?_, ?_⟩; (focus (have h0 := h 0 (by simp); have h1 := h 1 (by simp); have h2 := h 2 (by simp); clear h; rw [Nat.zero_add] at h0 h1 h2; simp only [List.getElem_cons_zero, List.getElem_cons_succ] at h0 h1 h2; go_simp; try rfl)); simp only [jj])
 refine Rf.rd_nil ?_
 refine Rf.wpAnyF_done (by kernel_rfl) ?_ _
 generalize w.drew = w1 at *
 clear Z
 have S1 := hid (pisSlot_any bb V p x w1 H.out.view)
 have k1 := H.out.k.lf.k1
 have k2 := H.out.k.lf.k2
 have ks := H.out.k.lf.slots
 obtain ⟨gk, ck, ek⟩ := H.out.b.o.kinds.form (by omega)
 have c1 : w1.cell? ⟨bb, 1, none⟩ = some (.slice (some ⟨gk, 0, none⟩) p.kinds.length ck) := by rw [range_cell H.out.b.r (k := 1) rfl, ek]
 have hkl : (p.kinds.length : Int) ≤ 24 := by omega
 by_cases e1 : slotB p x = true
 ·rw [e1] at S1
  by_cases e2 : y < 0
  ·go_wp2_with fail
   refine S1.out.mono ?_
   rintro r w' ⟨rfl, rfl⟩
   go_wp2_with fail
   go_ret
   exact DoA.no B0.out
  ·by_cases e3 : z < 1
   ·go_wp2_with fail
    refine S1.out.mono ?_
    rintro r w' ⟨rfl, rfl⟩
    go_wp2_with fail
    go_ret
    exact DoA.no B0.out
   ·by_cases e4 : (p.kinds.length : Int) < y + z
    ·go_wp2_with fail
     refine S1.out.mono ?_
     rintro r w' ⟨rfl, rfl⟩
     go_wp2_with fail
     go_ret
     exact DoA.no B0.out
    ·skip
     have hx := of_decide_eq_true e1
     obtain ⟨s, rfl⟩ := Int.eq_ofNat_of_zero_le hx.1
     obtain ⟨b, rfl⟩ := Int.eq_ofNat_of_zero_le (show 0 ≤ y by omega)
     obtain ⟨m, rfl⟩ := Int.eq_ofNat_of_zero_le (show 0 ≤ z by omega)
     have hs : s < p.slots.length := by omega
     have hbm : b + m ≤ p.kinds.length := by omega
     have hm1 : 1 ≤ m := by omega
     have hqq : (s : Int).tdiv 16 = ((s / 16 : Nat) : Int) := by rw [Int.tdiv_eq_ediv_of_nonneg (by omega)]; omega
     obtain ⟨s16, h16⟩ : ∃ q : Nat, q = s / 16 := ⟨_, rfl⟩
     rw [← h16] at hqq
     have H16 := hid h16
     have IS := hid (pis_any bb V p (s16 : Int) 5 w1 H.out.view)
     have FU := hid (full_any bb V p (s : Int) w1 H.out.view)
     have HE := hid (show hasE p (s : Int) = if p.s s 0 = 0 then 6 else 0 by unfold hasE; rw [e1, if_pos rfl, Int.toNat_natCast, nk_eS hs])
     obtain ⟨gs, cs, es⟩ := H.out.b.o.slots.form (by omega)
     have RS := hid (show InT w1 tag 4 45 7 (.slice (some ⟨gs, 0, none⟩) p.slots.length cs) (p.slots.length, rowsC 7 p.slots) by rw [← es]; exact H.out.b.o.slots)
     have RK := hid (show InT w1 tag 3 3 1 (.slice (some ⟨gk, 0, none⟩) p.kinds.length ck) (p.kinds.length, ints p.kinds) by rw [← ek]; exact H.out.b.o.kinds)
     have c2 : w1.cell? ⟨bb, 2, none⟩ = some (.slice (some ⟨gs, 0, none⟩) p.slots.length cs) := by rw [range_cell H.out.b.r (k := 2) rfl, es]
     have ES := hid es
     have hsi : (s : Int) < (p.slots.length : Int) := by omega
     have hsl : (p.slots.length : Int) ≤ 400 := by omega
     have HS := hid hs
     have HBM := hid hbm
     have hs16 : (s16 : Int) ≤ 1000 := by omega
     have HM1 := hid hm1
     clear es ek e1 h16 hx hs hbm hm1
     cases e5 : isB p (s16 : Int) 5 with
     | false =>
      rw [e5] at IS
      clear e5
      go_wp2_with fail
      refine S1.out.mono ?_
      rintro r w' ⟨rfl, rfl⟩
      go_wp2_with fail
      refine IS.out.mono ?_
      rintro r w' ⟨rfl, rfl⟩
      go_wp2_with fail
      go_ret
      exact DoA.no B0.out
     | true =>
     rw [e5] at IS
     have K5 := hid (show p.k (s / 16) = 5 by
      rw [← H16.out]
      have hl : s16 < p.kinds.length := by have := H16.out; omega
      rw [isB_k hl] at e5
      simpa using e5)
     clear e5
     by_cases e6 : p.s s 0 = 0
     ·have FE := hid (show eV (hasE p (s : Int)) = .iface 29 (.int .i64 6) by rw [HE.out, if_pos e6]; rfl)
      rw [FE.out] at FU
      have E6 := hid e6
      clear HE FE e6
      go_wp2_with fail
      refine S1.out.mono ?_
      rintro r w' ⟨rfl, rfl⟩
      go_wp2_with fail
      refine IS.out.mono ?_
      rintro r w' ⟨rfl, rfl⟩
      go_wp2_with fail
      refine FU.out.mono ?_
      rintro r w' ⟨rfl, rfl⟩
      go_wp2_with fail
      have C1 := hid c1
      have C2 := hid c2
      clear c1 c2 S1 IS FU
      go_loopw [8] (fun i wr => ∃ (d : Nat), b ≤ d ∧ d ≤ b + m ∧ i = .int .i64 (d : Int) ∧ Hid (Below w1.heap.size w1 wr ∧ ∀ f, b ≤ f → f < d → p.k f = 0 ∧ ∀ i, clI (f : Int) (p.s i) = false)) (fun i _ => b + m - (intOf i).toNat)
      case atStart => exact ⟨b, Nat.le_refl _, by omega, rfl, hid ⟨Below.refl _ _, fun f h1 h2 => by omega⟩⟩
      case round =>
       obtain ⟨d, hd1, hd2, rfl, HH⟩ := hrel
       have BB := hid HH.out.1
       have HN := hid HH.out.2
       have HW := hid (H.out.below BB.out)
       clear HH
       have c1 := cell_up C1.out BB.out
       have c2 := cell_up C2.out BB.out
       have D1 := hid hd1
       have D2 := hid hd2
       clear hd1 hd2
       by_cases hlt : d < b + m
       ·have hlt2 : (d : Int) < (b : Int) + (m : Int) := by omega
        have hdl : d < p.kinds.length := by have := HBM.out; omega
        have hdk : (d : Int) < (p.kinds.length : Int) := by omega
        have cd := cell_up (RK.out.int hdl) BB.out
        have KD := hid (k_get hdl)
        have HL := hid hlt
        have IC := hid (isClay_any bb tag V p lv n (d : Int) wr HW.out)
        generalize p.kinds[d] = kk at cd KD
        clear hlt hdl
        by_cases hkk : kk = 0
        ·subst hkk
         go_wp2_with fail
         refine IC.out.mono ?_
         rintro r w2 ⟨bv, rfl, hb2, hz⟩
         have B2 := hid (btr BB.out hb2)
         have HZ := hid hz
         clear hb2 hz IC
         cases bv with
         | true =>
          go_wp2_with fail
          go_ret
          exact DoA.no (btr B0.out B2.out)
         | false =>
          have HN2 := hid (show Below w1.heap.size w1 w2 ∧ ∀ f, b ≤ f → f < d + 1 → p.k f = 0 ∧ ∀ i, clI (f : Int) (p.s i) = false from ⟨B2.out, fun f h1 h2 => by
           by_cases e2 : f = d
           ·subst e2
            exact ⟨KD.out, HZ.out rfl⟩
           ·exact HN.out f h1 (by omega)⟩)
          have hd4 : (d : Int) ≤ 100 := by omega
          go_wp2_with fail
          exact ⟨⟨d + 1, by have := D1.out; omega, by have := HL.out; omega, by go_num, HN2⟩, by have := HL.out; simp [intOf]; omega⟩
        ·have hkb : (kk == 0) = false := by simp [hkk]
         go_wp2_with fail
         all_goals (try (exact absurd rfl hkk))
         go_ret
         exact DoA.no (btr B0.out BB.out)
       ·have hge : ¬ ((d : Int) < (b : Int) + (m : Int)) := by omega
        have DE := hid (show d = b + m by have := D2.out; omega)
        have TH := hid (show wr.there gs (s * 7) 6 from by
         have h2 := HW.out.b.o.slots
         rw [ES.out] at h2
         exact h2.there (s * 7) 6 (by have := HS.out; omega))
        have SX := hid (HW.out.b.slotsSix ES.out HS.out (clk b m) (by
         obtain ⟨r, kz⟩ := H.out.k.keys
         rw [s_at HS.out]
         exact (kz.em s E6.out).2))
        have BT := hid (H.out.k.clay HS.out K5.out E6.out HM1.out HBM.out (fun f h1 h2 => HN.out f h1 (by have := DE.out; omega)))
        have NE := hid (RS.out.ne H.out.b.g (by decide))
        have K1 := hid (show (#[Value.int .i64 1, .int .i64 b, .int .i64 m, .int .i64 0, .int .i64 7, .int .i64 0] : Array Value).all (·.oneCell') = true by simp [Value.oneCell'])
        clear hlt
        go_wp2_with (first | ((with_reducible (show wpList _ _ _ (⟨_, Op.store 43 _ _, _, _, _, _⟩ :: _) _ _)); refine wpList_store_mid rfl 43 _ _ rfl gs (s * 7) #[.int .i64 1, .int .i64 b, .int .i64 m, .int .i64 0, .int .i64 7, .int .i64 0] rfl rfl TH.out (by rw [info6k]; rfl) (K1.out) ?_))
        go_ret
        exact ((HW.out.cells SX.out.1 SX.out.2.2 NE.out BT.out).done SX.out.2.1).pre (btr B0.out BB.out)
     ·have FE := hid (show eV (hasE p (s : Int)) = .nilIface by rw [HE.out, if_neg e6]; rfl)
      rw [FE.out] at FU
      clear HE FE e6
      go_wp2_with fail
      refine S1.out.mono ?_
      rintro r w' ⟨rfl, rfl⟩
      go_wp2_with fail
      refine IS.out.mono ?_
      rintro r w' ⟨rfl, rfl⟩
      go_wp2_with fail
      refine FU.out.mono ?_
      rintro r w' ⟨rfl, rfl⟩
      go_wp2_with fail
      go_ret
      exact DoA.no B0.out
 ·have e1b : slotB p x = false := by simpa using e1
  rw [e1b] at S1
  clear e1 e1b
  go_wp2_with fail
  refine S1.out.mono ?_
  rintro r w' ⟨rfl, rfl⟩
  go_wp2_with fail
  go_ret
  exact DoA.no B0.out
end Go.Proofs.YtkocmkaeaagbaaaGreatDoor.Wd
namespace Go.Proofs.YtkocmkaeaagbaaaGreatDoor.Wd
open Go.RowKit Go.Proofs.YtkocmkaeaagbaaaGreatDoor.Mem Go.Proofs.YtkocmkaeaagbaaaGreatDoor.Bw Go.Proofs.YtkocmkaeaagbaaaGreatDoor.Nums Go.Proofs.YtkocmkaeaagbaaaGreatDoor.Mmu
/-- While words are laid. -/
def Lys (w : World) (bb : Nat) (tag : Nat → Nat) (V : Nat → Value) (p : PW) (lv : Value) (n : Nat) (wr : World) : Prop := ∃ p', Bld wr bb tag V p' lv n ∧ p'.kinds = p.kinds ∧ p'.ram.length = p.ram.length ∧ Kt tag tag w wr
set_option maxRecDepth 100000 in
set_option maxHeartbeats 8000000 in
theorem blay_any (bb : Nat) (tag : Nat → Nat) (V : Nat → Value) (p : PW) (lv : Value) (n N : Nat) (x : Int) (q : Option Addr) (g c : Nat) (zs : List Int) (w : World) (h : Bld w bb tag V p lv n) (hx : -1 ≤ x ∧ x ≤ 99999) (hq : 0 < zs.length → q = some ⟨g, 0, none⟩) (hz : IntsAt w g 0 zs) (htg : tag g = 0) (hwd : ∀ z ∈ zs, 0 ≤ z ∧ z ≤ 65535) (hl : zs.length ≤ 100000) :
  Calls Tryz.prog 127 #[.pointer (some ⟨bb, 0, none⟩), .int .i64 x, .slice q zs.length c] w fun r w' => DoA w bb tag lv N n r w' := by
 have H := hid h
 have HZ := hid hz
 have HQ := hid hq
 have HT := hid htg
 have HW := hid hwd
 have hl2 : (zs.length : Int) ≤ 100000 := by omega
 obtain ⟨hx1, hx2⟩ := hx
 clear h hz hq htg hwd
 go_enter Tryz.func127, Tryz.ntmps127
 go_wp2_with fail
 go_loopw [7] (fun i wr => ∃ k : Nat, 16 * k ≤ zs.length + 15 ∧ i = .int .i64 ((16 * k : Nat) : Int) ∧ w = wr ∧ Hid (∀ j : Nat, j < k → isB p (x + j) 2 = true)) (fun i _ => zs.length + 16 - (intOf i).toNat)
 case atStart => exact ⟨0, by omega, rfl, rfl, hid (fun j h => by omega)⟩
 case round =>
  obtain ⟨k, hk, rfl, rfl, HN⟩ := hrel
  obtain ⟨e, he⟩ : ∃ e : Nat, e = 16 * k := ⟨_, rfl⟩
  rw [← he] at hk ⊢
  have HE := hid he
  by_cases hlt : e < zs.length
  ·have hlt2 : (e : Int) < (zs.length : Int) := by omega
   have hqq : (e : Int).tdiv 16 = (k : Int) := by rw [Int.tdiv_eq_ediv_of_nonneg (by omega)]; omega
   have hk2 : (k : Int) ≤ 100000 := by omega
   have IS := hid (pis_any bb V p (x + (k : Int)) 2 w H.out.view)
   have HL := hid hlt
   clear he hlt hk
   cases e5 : isB p (x + (k : Int)) 2 with
   | false =>
    rw [e5] at IS
    clear e5
    go_wp2_with fail
    refine IS.out.mono ?_
    rintro r w' ⟨rfl, rfl⟩
    go_wp2_with fail
    go_ret
    exact DoA.no (Below.refl _ _)
   | true =>
    rw [e5] at IS
    have HN2 := hid (show ∀ j : Nat, j < k + 1 → isB p (x + j) 2 = true from fun j hj => by
     by_cases e2 : j = k
     ·subst e2; exact e5
     ·exact HN.out j (by omega))
    clear e5
    go_wp2_with fail
    refine IS.out.mono ?_
    rintro r w' ⟨rfl, rfl⟩
    go_wp2_with fail
    exact ⟨⟨k + 1, by have := HE.out; have := HL.out; omega, by have := HE.out; go_num, by trivial, HN2⟩, by have := HE.out; have := HL.out; simp [intOf]; omega⟩
  ·have hge : ¬ ((e : Int) < (zs.length : Int)) := by omega
   have HP := hid (show ∀ j : Nat, 16 * j < zs.length → isB p (x + j) 2 = true from fun j hj => HN.out j (by omega))
   clear he hlt hk HN
   go_wp2_with fail
   go_loopw [28] (fun i wr => ∃ k : Nat, k ≤ zs.length ∧ i = .int .i64 (k : Int) ∧ Hid (Lys w bb tag V p lv n wr)) (fun i _ => zs.length - (intOf i).toNat)
   case atStart => exact ⟨0, by omega, rfl, hid ⟨p, H.out, rfl, rfl, Kt.refl _ _⟩⟩
   case round =>
    obtain ⟨k, hk, rfl, LY⟩ := hrel
    obtain ⟨p', B, hkd, hrm, KT⟩ := LY.out
    by_cases hlt : k < zs.length
    ·have hqe := HQ.out (by omega)
     subst hqe
     have hlt2 : (k : Int) < (zs.length : Int) := by omega
     obtain ⟨f, hf, hfk, _⟩ := isB_nat (HP.out 0 (by omega))
     obtain ⟨f2, hf2, hf2k, hf22⟩ := isB_nat (HP.out (k / 16) (by omega))
     have hxf : x = (f : Int) := by simpa using hf
     subst hxf
     have hff : f2 = f + k / 16 := by omega
     obtain ⟨d, hd⟩ : ∃ d : Nat, d = f * 16 + k := ⟨_, rfl⟩
     have hram := B.k.lf.ram
     have hdr : d < p'.ram.length := by rw [hkd] at hram; omega
     obtain ⟨gr, cr, e⟩ := B.b.o.ram.form (by omega)
     have RM := hid (show InT wr tag 2 3 1 (.slice (some ⟨gr, 0, none⟩) p'.ram.length cr) (p'.ram.length, ints p'.ram) by rw [← e]; exact B.b.o.ram)
     have NE := hid (RM.out.ne B.b.g (by decide))
     have BX := hid (B.b.ramCell e d zs[k])
     have BT := hid (show Bt { p' with ram := p'.ram.set d zs[k] } from B.k.word hdr (HW.out _ (List.getElem_mem hlt)) (by
      rw [show d / 16 = f + k / 16 by omega, show p'.k (f + k / 16) = 2 by unfold PW.k at hf22 ⊢; rw [hkd, ← hff]; exact hf22]
      rfl))
     have c0 : wr.cell? ⟨bb, 0, none⟩ = some (V 0) := range_cell B.b.r rfl
     rw [e] at c0
     have cr1 := RM.out.int hdr
     have cf1 := RM.out.frozen d
     have ck := KT.cell (HZ.out k hlt) HT.out
     rw [Nat.zero_add] at ck
     have BB := hid B
     have K0 := hid KT
     have KD := hid hkd
     have KR := hid hrm
     have hq2 : (f : Int) * 16 + (k : Int) = (d : Int) := by omega
     have hd2 : (d : Int) < (p'.ram.length : Int) := by omega
     have hfl : (f : Int) ≤ 24 := by have := B.k.lf.k2; rw [hkd] at this; omega
     have hlr : (p'.ram.length : Int) ≤ 1000 := by have := B.k.lf.k2; rw [hkd] at this; rw [hkd] at hram; omega
     have HK := hid hk
     have HL := hid hlt
     generalize zs[k] = zk at *
     generalize p'.ram[d] = old at *
     clear B hkd hrm KT LY hlt hf hfk hf2 hf2k hf22 hff hd hram hdr e hk
     go_wp2_with fail
     exact ⟨⟨k + 1, by have := HL.out; omega, by go_num, hid ⟨_, BB.out.store BX.out.1 NE.out BT.out, KD.out, (List.length_set ..).trans KR.out, K0.out.trans BX.out.2⟩⟩, by have := HL.out; simp [intOf]; omega⟩
    ·have hge : ¬ ((k : Int) < (zs.length : Int)) := by omega
     have BB := hid B
     have K0 := hid KT
     clear B hkd hrm KT LY
     go_wp2_with fail
     go_ret
     exact BB.out.done K0.out
end Go.Proofs.YtkocmkaeaagbaaaGreatDoor.Wd
