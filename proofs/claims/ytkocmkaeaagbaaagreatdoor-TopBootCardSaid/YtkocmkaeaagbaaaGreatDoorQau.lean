/- A key is made from another one: what tree.Copy does, walked. (Written by mk_cp.py.) -/
import Derived.Deep.RegionHeld3
import Derived.Test.YtkocmkaeaagbaaaGreatDoorQal
import Derived.Test.YtkocmkaeaagbaaaGreatDoorQap
import Derived.Test.YtkocmkaeaagbaaaGreatDoorQas
namespace Go.Proofs.YtkocmkaeaagbaaaGreatDoor.Wd
open Go.RowKit Go.Proofs.YtkocmkaeaagbaaaGreatDoor.Mem Go.Proofs.YtkocmkaeaagbaaaGreatDoor.Bw Go.Proofs.YtkocmkaeaagbaaaGreatDoor.Nums Go.Proofs.YtkocmkaeaagbaaaGreatDoor.Mmu
def cpE (p : PW) (a b r g : Int) : Int := if boE p a b = 0 then lsE (p.slots.getD a.toNat nkey) r g else boE p a b
/-- The slot that comes. -/
def cpS (s : Nat → Int) (a : Int) : Nat → Int := fun k => if k = 6 then a else s k
def cpP (p : PW) (a b r g : Int) : PW := p.slot b.toNat (cpS (lsK (p.slots.getD a.toNat nkey) r g) a)
theorem info6 : (Tryz.prog.info? 43).map (·.size) = some 6 := by kernel_rfl
theorem info7t : (Tryz.prog.info? 45).map (·.size) = some 7 := by kernel_rfl
theorem six_range {W : World} {b o : Nat} {f : Nat → Int} (h : W.rangeAt b o (cf 7 f)) : W.rangeAt b o [.int .i64 (f 0), .int .i64 (f 1), .int .i64 (f 2), .int .i64 (f 3), .int .i64 (f 4), .int .i64 (f 5)] := fun j v hv => h j v (by
 have : j < 6 := by have := (List.getElem?_eq_some_iff.1 hv).1; simpa using this
 have hj : j = 0 ∨ j = 1 ∨ j = 2 ∨ j = 3 ∨ j = 4 ∨ j = 5 := by omega
 rcases hj with rfl | rfl | rfl | rfl | rfl | rfl <;> exact hv)
theorem own_there {w : World} {B e size g n cap : Nat} {xs : List Value} (h : w.ownsRow B e size (.slice (some ⟨g, 0, none⟩) n cap) n xs) (o m : Nat) (hm : o + m ≤ n * size) : w.there g o m := fun j hj => by
 refine ⟨?_, h.frozenAt _⟩
 rw [h.cellAt (o + j) (by omega), List.getElem?_eq_getElem (by rw [h.1]; omega)]
 rfl
theorem bset6b {w W : World} {B : Nat} (hB : w.heap.size ≤ B) {v0 v1 v2 v3 v4 v5 : Value} (h : Below w.heap.size w W) : Below w.heap.size w ((((((W.setCell ⟨B, 0, none⟩ v0).setCell ⟨B, 1, none⟩ v1).setCell ⟨B, 2, none⟩ v2).setCell ⟨B, 3, none⟩ v3).setCell ⟨B, 4, none⟩ v4).setCell ⟨B, 5, none⟩ v5) :=
 bset (bset (bset (bset (bset (bset h hB _) hB _) hB _) hB _) hB _) hB _
/-- Where the four numbers lie that the deed has kept. -/
structure Caps4 (c1 c2 c3 c4 : Nat) (a b r g : Int) (W : World) : Prop where
 x1 : W.cell? ⟨c1, 0, none⟩ = some (.int .i64 a)
 x2 : W.cell? ⟨c2, 0, none⟩ = some (.int .i64 b)
 x3 : W.cell? ⟨c3, 0, none⟩ = some (.int .i64 r)
 x4 : W.cell? ⟨c4, 0, none⟩ = some (.int .i64 g)
theorem Caps4.below {c1 c2 c3 c4 : Nat} {a b r g : Int} {w w' : World} (h : Caps4 c1 c2 c3 c4 a b r g w) (hb : Below w.heap.size w w') : Caps4 c1 c2 c3 c4 a b r g w' :=
 ⟨(hb.cell (World.block_lt_of_cell? _ _ h.x1)).trans h.x1, (hb.cell (World.block_lt_of_cell? _ _ h.x2)).trans h.x2, (hb.cell (World.block_lt_of_cell? _ _ h.x3)).trans h.x3, (hb.cell (World.block_lt_of_cell? _ _ h.x4)).trans h.x4⟩
set_option maxRecDepth 100000 in
set_option maxHeartbeats 4000000 in
theorem copy_deed (c1 c2 c3 c4 : Nat) (a b r g : Int) (p : PW) (hp : p.Fits) (hl : ∀ l ∈ p.tlbs, l.length ≤ 100) (hs : Snd p) : Deed 166 #[ptr c1, ptr c2, ptr c3, ptr c4] (Caps4 c1 c2 c3 c4 a b r g) eV p (cpP p a b r g) (cpE p a b r g) := by
 intro W wb L V bo hc hst
 have HST := hid hst
 have x1 := hc.x1
 have x2 := hc.x2
 have HBO := hid bo
 have HC := hid hc
 have HB := hid (between_any wb V p a b W (bo.view hp hl) hs.lf.slots)
 have HL2 := hid (show (p.slots.length : Int) ≤ 1000 by have := hp.slots; omega)
 clear hs hl hp bo hc hst
 unfold ptr
 simp only [List.append_toArray, List.cons_append, List.nil_append]
 by_cases hb : boE p a b = 0
 rotate_left
 ·have HE := hid (show cpE p a b r g = boE p a b from if_neg hb)
  rw [eV_n hb] at HB
  have HV := hid (show eV (cpE p a b r g) = .iface 29 (.int .i64 (boE p a b)) by rw [HE.out, eV_n hb])
  have HN := hid (show ¬ cpE p a b r g = 0 by rw [HE.out]; exact hb)
  generalize boE p a b = x at HB HV
  clear hb HE
  go_enter Tryz.func166, Tryz.ntmps166
  go_wp2_with fail
  refine HB.out.mono ?_
  rintro q w1 ⟨rfl, rfl⟩
  go_wp2_with fail
  go_ret
  exact ⟨by rw [HV.out]; rfl, Below.refl _ _, fun h => absurd h HN.out⟩
 obtain ⟨i, j, rfl, rfl, hi, hj⟩ := boE_in hb
 have HE := hid (show cpE p i j r g = lsE p.slots[i] r g by unfold cpE; rw [if_pos hb, Int.toNat_natCast, List.getD_eq_getElem?_getD, List.getElem?_eq_getElem hi]; rfl)
 have HPP := hid (show cpP p i j r g = p.slot j (cpS (lsK p.slots[i] r g) i) by unfold cpP; rw [Int.toNat_natCast, Int.toNat_natCast, List.getD_eq_getElem?_getD, List.getElem?_eq_getElem hi]; rfl)
 rw [hb, eV_0] at HB
 have hi2 : (i : Int) < (p.slots.length : Int) := by omega
 have hj2 : (j : Int) < (p.slots.length : Int) := by omega
 have hl2 := HL2.out
 obtain ⟨g2, cap2, e2⟩ : ∃ g2 cap, V 2 = .slice (some ⟨g2, 0, none⟩) p.slots.length cap := by
  rcases HBO.out.o.slots.1.2 with ⟨_, h0⟩ | ⟨g2, cap, cur, h, _⟩
  ·simp only at h0; omega
  ·exact ⟨g2, cap, h⟩
 obtain ⟨s, hsi⟩ : ∃ s, p.slots[i] = s := ⟨_, rfl⟩
 rw [hsi] at HE HPP
 have RS := hid (fun X (h : Below W.heap.size W X) => show X.rangeAt g2 (i * 7) [.int .i64 (s 0), .int .i64 (s 1), .int .i64 (s 2), .int .i64 (s 3), .int .i64 (s 4), .int .i64 (s 5)] from by
  have h1 := own_rowsC (HBO.out.below h).o.slots.1
  obtain ⟨q, b, off, cap, e, hq, hz⟩ := h1
  rw [e2] at e
  have e3 := hq (by omega)
  rw [e3] at e
  have e4 : g2 = b ∧ off = 0 := by simp at e; omega
  have h7 := hz i hi
  rw [hsi] at h7
  have := six_range h7
  rw [e4.2, Nat.zero_add, ← e4.1] at this
  exact this)
 have KS := hid (show ∀ X, Below W.heap.size W X → X.cell? ⟨wb, 2, none⟩ = some (.slice (some ⟨g2, 0, none⟩) p.slots.length cap2) ∧ X.cell? ⟨c1, 0, none⟩ = some (.int .i64 i) ∧ X.cell? ⟨c2, 0, none⟩ = some (.int .i64 j) ∧ X.cell? ⟨c3, 0, none⟩ = some (.int .i64 r) ∧ X.cell? ⟨c4, 0, none⟩ = some (.int .i64 g) ∧ X.rangeAt g2 (i * 7) [.int .i64 (s 0), .int .i64 (s 1), .int .i64 (s 2), .int .i64 (s 3), .int .i64 (s 4), .int .i64 (s 5)] from fun X h => ⟨by rw [range_cell (HBO.out.below h).r (k := 2) rfl, e2], (HC.out.below h).x1, (HC.out.below h).x2, (HC.out.below h).x3, (HC.out.below h).x4, RS.out X h⟩)
 have TH := hid (fun X (h : Below W.heap.size W X) => show X.there g2 (j * 7) 7 from by
  have h1 := (HBO.out.below h).o.slots.1
  rw [e2] at h1
  exact own_there h1 (j * 7) 7 (by show j * 7 + 7 ≤ p.slots.length * 7; omega))
 have L0W := hid (show L 0 ≤ W.heap.size from Nat.le_trans (HBO.out.o.le 10 (by omega)) (Nat.le_trans HBO.out.lo (Nat.le_of_lt HBO.out.lt)))
 clear hb RS hsi
 have LS := hid (fun X => lesser_any s r g X)
 have HLR := hid (show lsE s r g = 0 → lsR s r g = lsK s r g from fun h => if_pos h)
 generalize lsR s r g = s2 at LS HLR
 generalize lsE s r g = el at LS HLR HE
 unfold kv at LS
 have BD : Hid (Below W.heap.size W W.drew) := hid (below_drew W 1)
 have dsz : W.drew.heap.size = W.heap.size := rfl
 by_cases he : el = 0
 ·rw [he, eV_0] at LS
  have HV := hid (show eV (cpE p i j r g) = .nilIface by rw [HE.out, he]; rfl)
  have HS2 := hid (HLR.out he)
  rw [← HS2.out] at HPP
  clear he HE HLR HS2
  go_enter Tryz.func166, Tryz.ntmps166
  go_wp2_with fail
  refine HB.out.mono ?_
  rintro q w1 ⟨rfl, rfl⟩
  go_wp2_with fail
  clear x1 x2
  refine wp_region_held_drew (S := fun X => X.cell? ⟨wb, 2, none⟩ = some (.slice (some ⟨g2, 0, none⟩) p.slots.length cap2) ∧ X.cell? ⟨c1, 0, none⟩ = some (.int .i64 i) ∧ X.cell? ⟨c2, 0, none⟩ = some (.int .i64 j) ∧ X.cell? ⟨c3, 0, none⟩ = some (.int .i64 r) ∧ X.cell? ⟨c4, 0, none⟩ = some (.int .i64 g) ∧ X.rangeAt g2 (i * 7) [.int .i64 (s 0), .int .i64 (s 1), .int .i64 (s 2), .int .i64 (s 3), .int .i64 (s 4), .int .i64 (s 5)]) (by kernel_rfl) (KS.out _ BD.out) (fun hH0 => ?_)
  have hH := hid hH0
  clear hH0
  refine tk 0 (.pointer (some ⟨wb, 0, none⟩)) rfl hH.out ?_
  simp only [jj]
  refine tk 1 (.pointer (some ⟨wb, 0, none⟩)) rfl hH.out ?_
  simp only [jj]
  refine tk 2 (.pointer (some ⟨wb, 2, none⟩)) rfl hH.out ?_
  simp only [jj]
  refine tg 3 (.slice (some ⟨g2, 0, none⟩) p.slots.length cap2) rfl (Or.inl ⟨by rfl, fun W h => by have h3 := h.1; clear h; go_simp⟩) hH.out ?_
  simp only [jj]
  refine tg 4 (.int .i64 i) rfl (Or.inl ⟨by rfl, fun W h => by have h3 := h.2.1; clear h; go_simp⟩) hH.out ?_
  simp only [jj]
  refine tk 5 (.pointer (some ⟨g2, i * 7, none⟩)) rfl hH.out ?_
  simp only [jj]
  refine tk 6 (.pointer (some ⟨g2, i * 7, none⟩)) rfl hH.out ?_
  simp only [jj]
  refine tg 7 (.agg #[.int .i64 (s 0), .int .i64 (s 1), .int .i64 (s 2), .int .i64 (s 3), .int .i64 (s 4), .int .i64 (s 5)]) rfl (yieldsIf_load_mid (by rfl) _ _ rfl _ _ rfl ([.int .i64 (s 0), .int .i64 (s 1), .int .i64 (s 2), .int .i64 (s 3), .int .i64 (s 4), .int .i64 (s 5)]) _ (fun _ h => h.2.2.2.2.2) Tryz.underlying43 rfl info6) hH.out ?_
  simp only [jj]
  refine tg 8 (.int .i64 r) rfl (Or.inl ⟨by rfl, fun W h => by have h3 := h.2.2.2.1; clear h; go_simp⟩) hH.out ?_
  simp only [jj]
  refine tg 9 (.int .i64 g) rfl (Or.inl ⟨by rfl, fun W h => by have h3 := h.2.2.2.2.1; clear h; go_simp⟩) hH.out ?_
  simp only [jj]
  refine wpAnyH_ready (rs := [10, 14]) (by kernel_rfl) (by simp) (AllReadyH.cons rfl (fun K hK => ?_) (AllReadyH.cons rfl (fun K hK => ?_) AllReadyH.nil))
  ·go_simp
   refine (LS.out _).mono ?_
   rintro q w1 ⟨rfl, hb⟩
   have A1 := hid (btr BD.out hb)
   clear hb
   go_wp2_with fail
   refine hK.out _ _ (KS.out _ A1.out) (fun hH0 => ?_)
   have hH2 := hid hH0
   clear hK K hH0
   try simp only [Act.put, jD, jE, jF]
   refine tk 11 (.tuple #[.agg #[.int .i64 (s2 0), .int .i64 (s2 1), .int .i64 (s2 2), .int .i64 (s2 3), .int .i64 (s2 4), .int .i64 (s2 5)], .nilIface]) rfl hH2.out ?_
   simp only [jj]
   refine tk 12 (.agg #[.int .i64 (s2 0), .int .i64 (s2 1), .int .i64 (s2 2), .int .i64 (s2 3), .int .i64 (s2 4), .int .i64 (s2 5)]) rfl hH2.out ?_
   simp only [jj]
   refine tk 13 .nilIface rfl hH2.out ?_
   simp only [jj]
   have A3 := hid (bal A1.out (.cells #[.int .i64 0, .int .i64 0, .int .i64 0, .int .i64 0, .int .i64 0, .int .i64 0] 43))
   have ck := cells_new w1 #[.int .i64 0, .int .i64 0, .int .i64 0, .int .i64 0, .int .i64 0, .int .i64 0] 43
   have fk : ∀ o, (w1.alloc (.cells #[.int .i64 0, .int .i64 0, .int .i64 0, .int .i64 0, .int .i64 0, .int .i64 0] 43)).frozen? ⟨w1.heap.size, o, none⟩ = false := fun o => World.frozen?_alloc_at _ _ _ _ rfl
   have hkb := hid (show W.heap.size ≤ w1.heap.size from A1.out.size)
   refine wpAnyH_ready (rs := [14]) (by kernel_rfl) (by simp) (AllReadyH.cons rfl (fun K hK => ?_) AllReadyH.nil)
   go_simp
   refine hK.out _ _ (KS.out _ A3.out) (fun hH0 => ?_)
   have hH3 := hid hH0
   clear hK K hH0
   try simp only [Act.put, jD, jE, jF]
   generalize w1.alloc _ = W3 at A3 ck fk hH3 ⊢
   generalize w1.heap.size = kb at ck fk hkb ⊢
   clear A1
   have q6 := hid (six_set (B := kb) (v0 := .int .i64 (s2 0)) (v1 := .int .i64 (s2 1)) (v2 := .int .i64 (s2 2)) (v3 := .int .i64 (s2 3)) (v4 := .int .i64 (s2 4)) (v5 := .int .i64 (s2 5)) ck)
   have A4 := hid (bset6b (v0 := .int .i64 (s2 0)) (v1 := .int .i64 (s2 1)) (v2 := .int .i64 (s2 2)) (v3 := .int .i64 (s2 3)) (v4 := .int .i64 (s2 4)) (v5 := .int .i64 (s2 5)) hkb.out A3.out)
   refine wpAnyH_ready (rs := [15]) (by kernel_rfl) (by simp) (AllReadyH.cons rfl (fun K hK => ?_) AllReadyH.nil)
   go_simp
   refine hK.out _ _ (KS.out _ A4.out) (fun hH0 => ?_)
   have hH4 := hid hH0
   clear hK K hH0
   try simp only [Act.put]
   refine tk 16 .nilIface rfl hH4.out ?_
   simp only [jj]
   refine wpAnyH_done (by kernel_rfl) ?_ _
   clear hH hH2 hH3 hH4 ck fk
   generalize World.setCell _ _ _ = W4 at *
   go_wp2_with fail
   have A5 := hid (btr A4.out (below_drew W4 1))
   have R5 := hid (show W4.drew.rangeAt kb 0 [.int .i64 (s2 0), .int .i64 (s2 1), .int .i64 (s2 2), .int .i64 (s2 3), .int .i64 (s2 4), .int .i64 (s2 5)] from fun k v hk => by
    rw [Nat.zero_add]
    exact ((q6.out k).trans (by simpa using hk) : W4.cell? ⟨kb, k, none⟩ = some v))
   have F5 := hid ((HBO.out.below A5.out).slot e2 hj (cpS s2 i))
   refine wp_region_held_drew (S := fun X => X.cell? ⟨wb, 2, none⟩ = some (.slice (some ⟨g2, 0, none⟩) p.slots.length cap2) ∧ X.cell? ⟨c1, 0, none⟩ = some (.int .i64 i) ∧ X.cell? ⟨c2, 0, none⟩ = some (.int .i64 j) ∧ X.rangeAt kb 0 [.int .i64 (s2 0), .int .i64 (s2 1), .int .i64 (s2 2), .int .i64 (s2 3), .int .i64 (s2 4), .int .i64 (s2 5)]) (by kernel_rfl) ⟨(KS.out _ A5.out).1, (KS.out _ A5.out).2.1, (KS.out _ A5.out).2.2.1, R5.out⟩ (fun hH0 => ?_)
   have hH := hid hH0
   clear hH0
   refine tk 0 (.pointer (some ⟨wb, 0, none⟩)) rfl hH.out ?_
   simp only [jj]
   refine tk 1 (.pointer (some ⟨wb, 0, none⟩)) rfl hH.out ?_
   simp only [jj]
   refine tk 2 (.pointer (some ⟨wb, 2, none⟩)) rfl hH.out ?_
   simp only [jj]
   refine tg 3 (.slice (some ⟨g2, 0, none⟩) p.slots.length cap2) rfl (Or.inl ⟨by rfl, fun W h => by have h3 := h.1; clear h; go_simp⟩) hH.out ?_
   simp only [jj]
   refine tg 4 (.int .i64 j) rfl (Or.inl ⟨by rfl, fun W h => by have h3 := h.2.2.1; clear h; go_simp⟩) hH.out ?_
   simp only [jj]
   refine tg 5 (.agg #[.int .i64 (s2 0), .int .i64 (s2 1), .int .i64 (s2 2), .int .i64 (s2 3), .int .i64 (s2 4), .int .i64 (s2 5)]) rfl (yieldsIf_load_mid (by rfl) _ _ rfl _ _ rfl ([.int .i64 (s2 0), .int .i64 (s2 1), .int .i64 (s2 2), .int .i64 (s2 3), .int .i64 (s2 4), .int .i64 (s2 5)]) _ (fun _ h => h.2.2.2) Tryz.underlying43 rfl info6) hH.out ?_
   simp only [jj]
   refine tg 6 (.int .i64 i) rfl (Or.inl ⟨by rfl, fun W h => by have h3 := h.2.1; clear h; go_simp⟩) hH.out ?_
   simp only [jj]
   refine tk 7 (.agg #[.int .i64 (s2 0), .int .i64 (s2 1), .int .i64 (s2 2), .int .i64 (s2 3), .int .i64 (s2 4), .int .i64 (s2 5), .int .i64 i]) rfl hH.out ?_
   simp only [jj]
   refine tk 8 (.pointer (some ⟨g2, j * 7, none⟩)) rfl hH.out ?_
   simp only [jj]
   refine wpAnyH_ready (rs := [9]) (by kernel_rfl) (by simp) (AllReadyH.cons rfl (fun K hK => ?_) AllReadyH.nil)
   refine wp_store_mid 45 _ _ rfl g2 (j * 7) #[.int .i64 (s2 0), .int .i64 (s2 1), .int .i64 (s2 2), .int .i64 (s2 3), .int .i64 (s2 4), .int .i64 (s2 5), .int .i64 i] rfl rfl (TH.out _ A5.out) info7t (by simp [Value.oneCell']) ?_
   have R6 := hid (show (W4.drew.setCells g2 (j * 7) (#[.int .i64 (s2 0), .int .i64 (s2 1), .int .i64 (s2 2), .int .i64 (s2 3), .int .i64 (s2 4), .int .i64 (s2 5), .int .i64 i]).toList).rangeAt kb 0 [.int .i64 (s2 0), .int .i64 (s2 1), .int .i64 (s2 2), .int .i64 (s2 3), .int .i64 (s2 4), .int .i64 (s2 5)] from fun k v hk => by
    rw [World.cell?_setCells_out g2 _ _ _ ⟨kb, 0 + k, none⟩ (fun e _ => by
     simp only at e
     have h2 := HBO.out.o.slots
     rw [e2] at h2
     have := h2.2 g2 rfl
     have u3 : L 3 ≤ L 10 := HBO.out.o.upto 7 3 (by omega)
     have := HBO.out.lo
     have := HBO.out.lt
     have := hkb.out
     omega)]
    exact R5.out k v hk)
   have F6 := hid (show BoxO (W4.drew.setCells g2 (j * 7) (#[.int .i64 (s2 0), .int .i64 (s2 1), .int .i64 (s2 2), .int .i64 (s2 3), .int .i64 (s2 4), .int .i64 (s2 5), .int .i64 i]).toList) wb L V (p.slot j (cpS s2 i)) ∧ Below (L 0) W4.drew (W4.drew.setCells g2 (j * 7) (#[.int .i64 (s2 0), .int .i64 (s2 1), .int .i64 (s2 2), .int .i64 (s2 3), .int .i64 (s2 4), .int .i64 (s2 5), .int .i64 i]).toList) from F5.out)
   generalize World.setCells _ _ _ _ = W6 at R6 F6 ⊢
   refine hK.out _ _ ?_ (fun hH0 => ?_)
   rotate_left
   ·clear hK K hH0 hH
    try simp only [Act.put]
    refine wpAnyH_done (by kernel_rfl) ?_ _
    go_wp2_with fail
    go_ret
    exact ⟨by rw [HV.out]; rfl, (A5.out.mono L0W.out).trans F6.out.2, fun _ => ⟨V, L, by rw [HPP.out]; exact F6.out.1, Nat.le_refl _⟩⟩
   ·have ok6 := HST.out _ ((A5.out.mono L0W.out).trans F6.out.2)
    exact ⟨by rw [range_cell F6.out.1.r (k := 2) rfl, e2], ok6.x1, ok6.x2, R6.out⟩
  ·have A0 := hid (bal BD.out (.cells #[.int .i64 0, .int .i64 0, .int .i64 0, .int .i64 0, .int .i64 0, .int .i64 0] 43))
   have ck0 := hid (show ∀ o, (W.drew.alloc (.cells #[.int .i64 0, .int .i64 0, .int .i64 0, .int .i64 0, .int .i64 0, .int .i64 0] 43)).cell? ⟨W.heap.size, o, none⟩ = (#[.int .i64 0, .int .i64 0, .int .i64 0, .int .i64 0, .int .i64 0, .int .i64 0] : Array Value)[o]? from cells_new W.drew #[.int .i64 0, .int .i64 0, .int .i64 0, .int .i64 0, .int .i64 0, .int .i64 0] 43)
   have fk0 := hid (show ∀ o, (W.drew.alloc (.cells #[.int .i64 0, .int .i64 0, .int .i64 0, .int .i64 0, .int .i64 0, .int .i64 0] 43)).frozen? ⟨W.heap.size, o, none⟩ = false from fun o => World.frozen?_alloc_at _ _ _ _ rfl)
   have lk0 := hid (show W.heap.size < (W.drew.alloc (.cells #[.int .i64 0, .int .i64 0, .int .i64 0, .int .i64 0, .int .i64 0, .int .i64 0] 43)).heap.size by simp)
   have hkb := hid (show W.heap.size ≤ W.heap.size from Nat.le_refl _)
   go_simp
   refine hK.out _ _ (KS.out _ A0.out) (fun hH0 => ?_)
   have hH2 := hid hH0
   clear hK K hH0
   try simp only [Act.put, jD, jE, jF]
   refine wpAnyH_ready (rs := [10]) (by kernel_rfl) (by simp) (AllReadyH.cons rfl (fun K hK => ?_) AllReadyH.nil)
   go_simp
   refine (LS.out _).mono ?_
   rintro q w1 ⟨rfl, hb⟩
   have A1 := hid (btr A0.out hb)
   have ck := cells_next ck0.out lk0.out hb
   have fk : ∀ o, w1.frozen? ⟨W.heap.size, o, none⟩ = false := fun o => (hb.frozen (p := ⟨W.heap.size, o, none⟩) lk0.out).trans (fk0.out o)
   clear hb
   go_wp2_with fail
   refine hK.out _ _ (KS.out _ A1.out) (fun hH0 => ?_)
   have hH3 := hid hH0
   clear hK K hH0
   try simp only [Act.put, jD, jE, jF]
   refine tk 11 (.tuple #[.agg #[.int .i64 (s2 0), .int .i64 (s2 1), .int .i64 (s2 2), .int .i64 (s2 3), .int .i64 (s2 4), .int .i64 (s2 5)], .nilIface]) rfl hH3.out ?_
   simp only [jj]
   refine tk 12 (.agg #[.int .i64 (s2 0), .int .i64 (s2 1), .int .i64 (s2 2), .int .i64 (s2 3), .int .i64 (s2 4), .int .i64 (s2 5)]) rfl hH3.out ?_
   simp only [jj]
   refine tk 13 .nilIface rfl hH3.out ?_
   simp only [jj]
   have A3 := A1
   clear A1 ck0 fk0 lk0 A0
   generalize w1 = W3 at *
   have q6 := hid (six_set (B := W.heap.size) (v0 := .int .i64 (s2 0)) (v1 := .int .i64 (s2 1)) (v2 := .int .i64 (s2 2)) (v3 := .int .i64 (s2 3)) (v4 := .int .i64 (s2 4)) (v5 := .int .i64 (s2 5)) ck)
   have A4 := hid (bset6b (v0 := .int .i64 (s2 0)) (v1 := .int .i64 (s2 1)) (v2 := .int .i64 (s2 2)) (v3 := .int .i64 (s2 3)) (v4 := .int .i64 (s2 4)) (v5 := .int .i64 (s2 5)) hkb.out A3.out)
   refine wpAnyH_ready (rs := [15]) (by kernel_rfl) (by simp) (AllReadyH.cons rfl (fun K hK => ?_) AllReadyH.nil)
   go_simp
   refine hK.out _ _ (KS.out _ A4.out) (fun hH0 => ?_)
   have hH4 := hid hH0
   clear hK K hH0
   try simp only [Act.put]
   refine tk 16 .nilIface rfl hH4.out ?_
   simp only [jj]
   refine wpAnyH_done (by kernel_rfl) ?_ _
   clear hH hH2 hH3 hH4 ck fk
   generalize World.setCell _ _ _ = W4 at *
   go_wp2_with fail
   have A5 := hid (btr A4.out (below_drew W4 1))
   have R5 := hid (show W4.drew.rangeAt W.heap.size 0 [.int .i64 (s2 0), .int .i64 (s2 1), .int .i64 (s2 2), .int .i64 (s2 3), .int .i64 (s2 4), .int .i64 (s2 5)] from fun k v hk => by
    rw [Nat.zero_add]
    exact ((q6.out k).trans (by simpa using hk) : W4.cell? ⟨W.heap.size, k, none⟩ = some v))
   have F5 := hid ((HBO.out.below A5.out).slot e2 hj (cpS s2 i))
   refine wp_region_held_drew (S := fun X => X.cell? ⟨wb, 2, none⟩ = some (.slice (some ⟨g2, 0, none⟩) p.slots.length cap2) ∧ X.cell? ⟨c1, 0, none⟩ = some (.int .i64 i) ∧ X.cell? ⟨c2, 0, none⟩ = some (.int .i64 j) ∧ X.rangeAt W.heap.size 0 [.int .i64 (s2 0), .int .i64 (s2 1), .int .i64 (s2 2), .int .i64 (s2 3), .int .i64 (s2 4), .int .i64 (s2 5)]) (by kernel_rfl) ⟨(KS.out _ A5.out).1, (KS.out _ A5.out).2.1, (KS.out _ A5.out).2.2.1, R5.out⟩ (fun hH0 => ?_)
   have hH := hid hH0
   clear hH0
   refine tk 0 (.pointer (some ⟨wb, 0, none⟩)) rfl hH.out ?_
   simp only [jj]
   refine tk 1 (.pointer (some ⟨wb, 0, none⟩)) rfl hH.out ?_
   simp only [jj]
   refine tk 2 (.pointer (some ⟨wb, 2, none⟩)) rfl hH.out ?_
   simp only [jj]
   refine tg 3 (.slice (some ⟨g2, 0, none⟩) p.slots.length cap2) rfl (Or.inl ⟨by rfl, fun W h => by have h3 := h.1; clear h; go_simp⟩) hH.out ?_
   simp only [jj]
   refine tg 4 (.int .i64 j) rfl (Or.inl ⟨by rfl, fun W h => by have h3 := h.2.2.1; clear h; go_simp⟩) hH.out ?_
   simp only [jj]
   refine tg 5 (.agg #[.int .i64 (s2 0), .int .i64 (s2 1), .int .i64 (s2 2), .int .i64 (s2 3), .int .i64 (s2 4), .int .i64 (s2 5)]) rfl (yieldsIf_load_mid (by rfl) _ _ rfl _ _ rfl ([.int .i64 (s2 0), .int .i64 (s2 1), .int .i64 (s2 2), .int .i64 (s2 3), .int .i64 (s2 4), .int .i64 (s2 5)]) _ (fun _ h => h.2.2.2) Tryz.underlying43 rfl info6) hH.out ?_
   simp only [jj]
   refine tg 6 (.int .i64 i) rfl (Or.inl ⟨by rfl, fun W h => by have h3 := h.2.1; clear h; go_simp⟩) hH.out ?_
   simp only [jj]
   refine tk 7 (.agg #[.int .i64 (s2 0), .int .i64 (s2 1), .int .i64 (s2 2), .int .i64 (s2 3), .int .i64 (s2 4), .int .i64 (s2 5), .int .i64 i]) rfl hH.out ?_
   simp only [jj]
   refine tk 8 (.pointer (some ⟨g2, j * 7, none⟩)) rfl hH.out ?_
   simp only [jj]
   refine wpAnyH_ready (rs := [9]) (by kernel_rfl) (by simp) (AllReadyH.cons rfl (fun K hK => ?_) AllReadyH.nil)
   refine wp_store_mid 45 _ _ rfl g2 (j * 7) #[.int .i64 (s2 0), .int .i64 (s2 1), .int .i64 (s2 2), .int .i64 (s2 3), .int .i64 (s2 4), .int .i64 (s2 5), .int .i64 i] rfl rfl (TH.out _ A5.out) info7t (by simp [Value.oneCell']) ?_
   have R6 := hid (show (W4.drew.setCells g2 (j * 7) (#[.int .i64 (s2 0), .int .i64 (s2 1), .int .i64 (s2 2), .int .i64 (s2 3), .int .i64 (s2 4), .int .i64 (s2 5), .int .i64 i]).toList).rangeAt W.heap.size 0 [.int .i64 (s2 0), .int .i64 (s2 1), .int .i64 (s2 2), .int .i64 (s2 3), .int .i64 (s2 4), .int .i64 (s2 5)] from fun k v hk => by
    rw [World.cell?_setCells_out g2 _ _ _ ⟨W.heap.size, 0 + k, none⟩ (fun e _ => by
     simp only at e
     have h2 := HBO.out.o.slots
     rw [e2] at h2
     have := h2.2 g2 rfl
     have u3 : L 3 ≤ L 10 := HBO.out.o.upto 7 3 (by omega)
     have := HBO.out.lo
     have := HBO.out.lt
     have := hkb.out
     omega)]
    exact R5.out k v hk)
   have F6 := hid (show BoxO (W4.drew.setCells g2 (j * 7) (#[.int .i64 (s2 0), .int .i64 (s2 1), .int .i64 (s2 2), .int .i64 (s2 3), .int .i64 (s2 4), .int .i64 (s2 5), .int .i64 i]).toList) wb L V (p.slot j (cpS s2 i)) ∧ Below (L 0) W4.drew (W4.drew.setCells g2 (j * 7) (#[.int .i64 (s2 0), .int .i64 (s2 1), .int .i64 (s2 2), .int .i64 (s2 3), .int .i64 (s2 4), .int .i64 (s2 5), .int .i64 i]).toList) from F5.out)
   generalize World.setCells _ _ _ _ = W6 at R6 F6 ⊢
   refine hK.out _ _ ?_ (fun hH0 => ?_)
   rotate_left
   ·clear hK K hH0 hH
    try simp only [Act.put]
    refine wpAnyH_done (by kernel_rfl) ?_ _
    go_wp2_with fail
    go_ret
    exact ⟨by rw [HV.out]; rfl, (A5.out.mono L0W.out).trans F6.out.2, fun _ => ⟨V, L, by rw [HPP.out]; exact F6.out.1, Nat.le_refl _⟩⟩
   ·have ok6 := HST.out _ ((A5.out.mono L0W.out).trans F6.out.2)
    exact ⟨by rw [range_cell F6.out.1.r (k := 2) rfl, e2], ok6.x1, ok6.x2, R6.out⟩
 ·rw [eV_n he] at LS
  have HV := hid (show eV (cpE p i j r g) = .iface 29 (.int .i64 el) by rw [HE.out, eV_n he])
  have HN := hid (show ¬ cpE p i j r g = 0 by rw [HE.out]; exact he)
  clear he HE HLR HPP
  go_enter Tryz.func166, Tryz.ntmps166
  go_wp2_with fail
  refine HB.out.mono ?_
  rintro q w1 ⟨rfl, rfl⟩
  go_wp2_with fail
  clear x1 x2
  refine wp_region_held_drew (S := fun X => X.cell? ⟨wb, 2, none⟩ = some (.slice (some ⟨g2, 0, none⟩) p.slots.length cap2) ∧ X.cell? ⟨c1, 0, none⟩ = some (.int .i64 i) ∧ X.cell? ⟨c2, 0, none⟩ = some (.int .i64 j) ∧ X.cell? ⟨c3, 0, none⟩ = some (.int .i64 r) ∧ X.cell? ⟨c4, 0, none⟩ = some (.int .i64 g) ∧ X.rangeAt g2 (i * 7) [.int .i64 (s 0), .int .i64 (s 1), .int .i64 (s 2), .int .i64 (s 3), .int .i64 (s 4), .int .i64 (s 5)]) (by kernel_rfl) (KS.out _ BD.out) (fun hH0 => ?_)
  have hH := hid hH0
  clear hH0
  refine tk 0 (.pointer (some ⟨wb, 0, none⟩)) rfl hH.out ?_
  simp only [jj]
  refine tk 1 (.pointer (some ⟨wb, 0, none⟩)) rfl hH.out ?_
  simp only [jj]
  refine tk 2 (.pointer (some ⟨wb, 2, none⟩)) rfl hH.out ?_
  simp only [jj]
  refine tg 3 (.slice (some ⟨g2, 0, none⟩) p.slots.length cap2) rfl (Or.inl ⟨by rfl, fun W h => by have h3 := h.1; clear h; go_simp⟩) hH.out ?_
  simp only [jj]
  refine tg 4 (.int .i64 i) rfl (Or.inl ⟨by rfl, fun W h => by have h3 := h.2.1; clear h; go_simp⟩) hH.out ?_
  simp only [jj]
  refine tk 5 (.pointer (some ⟨g2, i * 7, none⟩)) rfl hH.out ?_
  simp only [jj]
  refine tk 6 (.pointer (some ⟨g2, i * 7, none⟩)) rfl hH.out ?_
  simp only [jj]
  refine tg 7 (.agg #[.int .i64 (s 0), .int .i64 (s 1), .int .i64 (s 2), .int .i64 (s 3), .int .i64 (s 4), .int .i64 (s 5)]) rfl (yieldsIf_load_mid (by rfl) _ _ rfl _ _ rfl ([.int .i64 (s 0), .int .i64 (s 1), .int .i64 (s 2), .int .i64 (s 3), .int .i64 (s 4), .int .i64 (s 5)]) _ (fun _ h => h.2.2.2.2.2) Tryz.underlying43 rfl info6) hH.out ?_
  simp only [jj]
  refine tg 8 (.int .i64 r) rfl (Or.inl ⟨by rfl, fun W h => by have h3 := h.2.2.2.1; clear h; go_simp⟩) hH.out ?_
  simp only [jj]
  refine tg 9 (.int .i64 g) rfl (Or.inl ⟨by rfl, fun W h => by have h3 := h.2.2.2.2.1; clear h; go_simp⟩) hH.out ?_
  simp only [jj]
  refine wpAnyH_ready (rs := [10, 14]) (by kernel_rfl) (by simp) (AllReadyH.cons rfl (fun K hK => ?_) (AllReadyH.cons rfl (fun K hK => ?_) AllReadyH.nil))
  ·go_simp
   refine (LS.out _).mono ?_
   rintro q w1 ⟨rfl, hb⟩
   have A1 := hid (btr BD.out hb)
   clear hb
   go_wp2_with fail
   refine hK.out _ _ (KS.out _ A1.out) (fun hH0 => ?_)
   have hH2 := hid hH0
   clear hK K hH0
   try simp only [Act.put, jD, jE, jF]
   refine tk 11 (.tuple #[.agg #[.int .i64 (s2 0), .int .i64 (s2 1), .int .i64 (s2 2), .int .i64 (s2 3), .int .i64 (s2 4), .int .i64 (s2 5)], .iface 29 (.int .i64 el)]) rfl hH2.out ?_
   simp only [jj]
   refine tk 12 (.agg #[.int .i64 (s2 0), .int .i64 (s2 1), .int .i64 (s2 2), .int .i64 (s2 3), .int .i64 (s2 4), .int .i64 (s2 5)]) rfl hH2.out ?_
   simp only [jj]
   refine tk 13 (.iface 29 (.int .i64 el)) rfl hH2.out ?_
   simp only [jj]
   have A3 := hid (bal A1.out (.cells #[.int .i64 0, .int .i64 0, .int .i64 0, .int .i64 0, .int .i64 0, .int .i64 0] 43))
   have ck := cells_new w1 #[.int .i64 0, .int .i64 0, .int .i64 0, .int .i64 0, .int .i64 0, .int .i64 0] 43
   have fk : ∀ o, (w1.alloc (.cells #[.int .i64 0, .int .i64 0, .int .i64 0, .int .i64 0, .int .i64 0, .int .i64 0] 43)).frozen? ⟨w1.heap.size, o, none⟩ = false := fun o => World.frozen?_alloc_at _ _ _ _ rfl
   have hkb := hid (show W.heap.size ≤ w1.heap.size from A1.out.size)
   refine wpAnyH_ready (rs := [14]) (by kernel_rfl) (by simp) (AllReadyH.cons rfl (fun K hK => ?_) AllReadyH.nil)
   go_simp
   refine hK.out _ _ (KS.out _ A3.out) (fun hH0 => ?_)
   have hH3 := hid hH0
   clear hK K hH0
   try simp only [Act.put, jD, jE, jF]
   generalize w1.alloc _ = W3 at A3 ck fk hH3 ⊢
   generalize w1.heap.size = kb at ck fk hkb ⊢
   clear A1
   have q6 := hid (six_set (B := kb) (v0 := .int .i64 (s2 0)) (v1 := .int .i64 (s2 1)) (v2 := .int .i64 (s2 2)) (v3 := .int .i64 (s2 3)) (v4 := .int .i64 (s2 4)) (v5 := .int .i64 (s2 5)) ck)
   have A4 := hid (bset6b (v0 := .int .i64 (s2 0)) (v1 := .int .i64 (s2 1)) (v2 := .int .i64 (s2 2)) (v3 := .int .i64 (s2 3)) (v4 := .int .i64 (s2 4)) (v5 := .int .i64 (s2 5)) hkb.out A3.out)
   refine wpAnyH_ready (rs := [15]) (by kernel_rfl) (by simp) (AllReadyH.cons rfl (fun K hK => ?_) AllReadyH.nil)
   go_simp
   refine hK.out _ _ (KS.out _ A4.out) (fun hH0 => ?_)
   have hH4 := hid hH0
   clear hK K hH0
   try simp only [Act.put]
   refine tk 16 (.iface 29 (.int .i64 el)) rfl hH4.out ?_
   simp only [jj]
   refine wpAnyH_done (by kernel_rfl) ?_ _
   clear hH hH2 hH3 hH4 ck fk
   generalize World.setCell _ _ _ = W4 at *
   go_wp2_with fail
   go_ret
   exact ⟨by rw [HV.out]; rfl, A4.out.mono L0W.out, fun h => absurd h HN.out⟩
  ·have A0 := hid (bal BD.out (.cells #[.int .i64 0, .int .i64 0, .int .i64 0, .int .i64 0, .int .i64 0, .int .i64 0] 43))
   have ck0 := hid (show ∀ o, (W.drew.alloc (.cells #[.int .i64 0, .int .i64 0, .int .i64 0, .int .i64 0, .int .i64 0, .int .i64 0] 43)).cell? ⟨W.heap.size, o, none⟩ = (#[.int .i64 0, .int .i64 0, .int .i64 0, .int .i64 0, .int .i64 0, .int .i64 0] : Array Value)[o]? from cells_new W.drew #[.int .i64 0, .int .i64 0, .int .i64 0, .int .i64 0, .int .i64 0, .int .i64 0] 43)
   have fk0 := hid (show ∀ o, (W.drew.alloc (.cells #[.int .i64 0, .int .i64 0, .int .i64 0, .int .i64 0, .int .i64 0, .int .i64 0] 43)).frozen? ⟨W.heap.size, o, none⟩ = false from fun o => World.frozen?_alloc_at _ _ _ _ rfl)
   have lk0 := hid (show W.heap.size < (W.drew.alloc (.cells #[.int .i64 0, .int .i64 0, .int .i64 0, .int .i64 0, .int .i64 0, .int .i64 0] 43)).heap.size by simp)
   have hkb := hid (show W.heap.size ≤ W.heap.size from Nat.le_refl _)
   go_simp
   refine hK.out _ _ (KS.out _ A0.out) (fun hH0 => ?_)
   have hH2 := hid hH0
   clear hK K hH0
   try simp only [Act.put, jD, jE, jF]
   refine wpAnyH_ready (rs := [10]) (by kernel_rfl) (by simp) (AllReadyH.cons rfl (fun K hK => ?_) AllReadyH.nil)
   go_simp
   refine (LS.out _).mono ?_
   rintro q w1 ⟨rfl, hb⟩
   have A1 := hid (btr A0.out hb)
   have ck := cells_next ck0.out lk0.out hb
   have fk : ∀ o, w1.frozen? ⟨W.heap.size, o, none⟩ = false := fun o => (hb.frozen (p := ⟨W.heap.size, o, none⟩) lk0.out).trans (fk0.out o)
   clear hb
   go_wp2_with fail
   refine hK.out _ _ (KS.out _ A1.out) (fun hH0 => ?_)
   have hH3 := hid hH0
   clear hK K hH0
   try simp only [Act.put, jD, jE, jF]
   refine tk 11 (.tuple #[.agg #[.int .i64 (s2 0), .int .i64 (s2 1), .int .i64 (s2 2), .int .i64 (s2 3), .int .i64 (s2 4), .int .i64 (s2 5)], .iface 29 (.int .i64 el)]) rfl hH3.out ?_
   simp only [jj]
   refine tk 12 (.agg #[.int .i64 (s2 0), .int .i64 (s2 1), .int .i64 (s2 2), .int .i64 (s2 3), .int .i64 (s2 4), .int .i64 (s2 5)]) rfl hH3.out ?_
   simp only [jj]
   refine tk 13 (.iface 29 (.int .i64 el)) rfl hH3.out ?_
   simp only [jj]
   have A3 := A1
   clear A1 ck0 fk0 lk0 A0
   generalize w1 = W3 at *
   have q6 := hid (six_set (B := W.heap.size) (v0 := .int .i64 (s2 0)) (v1 := .int .i64 (s2 1)) (v2 := .int .i64 (s2 2)) (v3 := .int .i64 (s2 3)) (v4 := .int .i64 (s2 4)) (v5 := .int .i64 (s2 5)) ck)
   have A4 := hid (bset6b (v0 := .int .i64 (s2 0)) (v1 := .int .i64 (s2 1)) (v2 := .int .i64 (s2 2)) (v3 := .int .i64 (s2 3)) (v4 := .int .i64 (s2 4)) (v5 := .int .i64 (s2 5)) hkb.out A3.out)
   refine wpAnyH_ready (rs := [15]) (by kernel_rfl) (by simp) (AllReadyH.cons rfl (fun K hK => ?_) AllReadyH.nil)
   go_simp
   refine hK.out _ _ (KS.out _ A4.out) (fun hH0 => ?_)
   have hH4 := hid hH0
   clear hK K hH0
   try simp only [Act.put]
   refine tk 16 (.iface 29 (.int .i64 el)) rfl hH4.out ?_
   simp only [jj]
   refine wpAnyH_done (by kernel_rfl) ?_ _
   clear hH hH2 hH3 hH4 ck fk
   generalize World.setCell _ _ _ = W4 at *
   go_wp2_with fail
   go_ret
   exact ⟨by rw [HV.out]; rfl, A4.out.mono L0W.out, fun h => absurd h HN.out⟩
end Go.Proofs.YtkocmkaeaagbaaaGreatDoor.Wd
