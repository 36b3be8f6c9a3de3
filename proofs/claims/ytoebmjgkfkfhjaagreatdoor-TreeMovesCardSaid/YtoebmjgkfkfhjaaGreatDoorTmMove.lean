/- A key is moved: what tree.Move and keyholdref.MoveKey do, walked. (Written by mk_tm.py.) -/
import Derived.Test.YtoebmjgkfkfhjaaGreatDoorGTc1More
import Derived.Test.YtoebmjgkfkfhjaaGreatDoorTmHand
import Derived.Test.YtoebmjgkfkfhjaaGreatDoorGBx
import Derived.Test.YtoebmjgkfkfhjaaGreatDoorGBxMore
import Derived.Test.YtoebmjgkfkfhjaaGreatDoorGTc1
namespace Go.Proofs.YtoebmjgkfkfhjaaGreatDoor.Wd
open Go.RowKit Go.Proofs.YtoebmjgkfkfhjaaGreatDoor.Mem Go.Proofs.YtoebmjgkfkfhjaaGreatDoor.Bw Go.Proofs.YtoebmjgkfkfhjaaGreatDoor.Nums Go.Proofs.YtoebmjgkfkfhjaaGreatDoor.Mmu
def mvP (p : PW) (a b : Int) : PW := { p with slots := hnd a b ((p.slots.set b.toNat (p.slots.getD a.toNat nkey)).set a.toNat eS) }
theorem boE_ne {p : PW} {i j : Nat} (h : boE p i j = 0) : i ≠ j := by
 intro e
 subst e
 unfold boE hasE opE at h
 cases hs : slotB p i with
 | false => rw [hs] at h; simp at h
 | true =>
  rw [hs] at h
  simp only [if_true, Int.toNat_natCast] at h
  by_cases h0 : (p.slots.getD i nkey) 0 = 0
  ·rw [if_pos h0] at h
   simp at h
  ·rw [if_neg h0, if_pos rfl, if_neg h0] at h
   split at h <;> simp at h
set_option maxRecDepth 100000 in
set_option maxHeartbeats 4000000 in
theorem move_deed (c1 c2 : Nat) (a b : Int) (p : PW) (hp : p.Fits) (hl : ∀ l ∈ p.tlbs, l.length ≤ 100) (hs : Snd p) : DeedT 38 #[ptr c1, ptr c2] (CapsT [(c1, .int .i64 a), (c2, .int .i64 b)]) eV p (mvP p a b) (boE p a b) := by
 intro W wb tag V bt hc
 have x1 := (hc (c1, .int .i64 a) (by simp)).1
 have x2 := (hc (c2, .int .i64 b) (by simp)).1
 have HBO := hid bt
 have HC := hid hc
 have HB := hid (between_any wb V p a b W (bt.view hp hl) hs.lf.slots)
 have HLS := hid hp.slots
 have hl2 : (p.slots.length : Int) ≤ 1000 := by have := hp.slots; omega
 clear hs hl hp bt hc
 unfold ptr
 simp only [List.append_toArray, List.cons_append, List.nil_append]
 by_cases hb : boE p a b = 0
 rotate_left
 ·have HN := hid hb
  rw [eV_n hb] at HB ⊢
  generalize boE p a b = x at HB HN ⊢
  clear hb
  go_enter Tryz.func38, Tryz.ntmps38
  go_wp2_with fail
  refine HB.out.mono ?_
  rintro q w1 ⟨rfl, rfl⟩
  go_wp2_with fail
  go_ret
  exact ⟨rfl, tag, Kt.refl _ _, fun h => absurd h HN.out⟩
 obtain ⟨i, j, rfl, rfl, hi, hj⟩ := boE_in hb
 have hij := boE_ne hb
 have HE := hid hb
 rw [hb, eV_0] at HB
 have hi2 : (i : Int) < (p.slots.length : Int) := by omega
 have hj2 : (j : Int) < (p.slots.length : Int) := by omega
 obtain ⟨g, cap, e2⟩ := HBO.out.o.slots.form (by omega)
 obtain ⟨s, hsi⟩ : ∃ s, p.slots[i] = s := ⟨_, rfl⟩
 have HPP := hid (show mvP p i j = { p with slots := hnd i j ((p.slots.set j s).set i eS) } by unfold mvP; rw [Int.toNat_natCast, Int.toNat_natCast, List.getD_eq_getElem?_getD, List.getElem?_eq_getElem hi, Option.getD_some, hsi])
 have KS := hid (fun X (h : Below W.heap.size W X) => show X.cell? ⟨wb, 2, none⟩ = some (.slice (some ⟨g, 0, none⟩) p.slots.length cap) ∧ X.cell? ⟨c1, 0, none⟩ = some (.int .i64 i) ∧ X.cell? ⟨c2, 0, none⟩ = some (.int .i64 j) from ⟨by rw [range_cell (HBO.out.below h).r (k := 2) rfl, e2], (HC.out.kt (.below h) (c1, .int .i64 i) (by simp)).1, (HC.out.kt (.below h) (c2, .int .i64 j) (by simp)).1⟩)
 have KR := hid (fun X (h : Below W.heap.size W X) => show X.rangeAt g (i * 7) (cf 7 s) from by
  have h2 := (HBO.out.below h).o.slots
  rw [e2] at h2
  have h3 := h2.range hi
  rw [hsi] at h3
  exact h3)
 have TH := hid (fun X (h : Below W.heap.size W X) => show X.there g (j * 7) 7 from by
  have h2 := (HBO.out.below h).o.slots
  rw [e2] at h2
  exact h2.there (j * 7) 7 (by omega))
 have ROW := hid (fun X (h : Below W.heap.size W X) => show BoxT (X.setCells g (j * 7) (cf 7 s)) wb tag V { p with slots := p.slots.set j s } ∧ Kt tag tag X (X.setCells g (j * 7) (cf 7 s)) from (HBO.out.below h).slotsRow e2 hj s)
 have BD : Hid (Below W.heap.size W W.drew) := hid (below_drew W 1)
 have dsz : W.drew.heap.size = W.heap.size := rfl
 clear hb hsi
 go_enter Tryz.func38, Tryz.ntmps38
 go_wp2_with fail
 refine HB.out.mono ?_
 rintro q w1 ⟨rfl, rfl⟩
 go_wp2_with fail
 clear x1 x2
 refine wp_region_F (S := fun X => X.cell? ⟨wb, 2, none⟩ = some (.slice (some ⟨g, 0, none⟩) p.slots.length cap) ∧ X.cell? ⟨c1, 0, none⟩ = some (.int .i64 i) ∧ X.cell? ⟨c2, 0, none⟩ = some (.int .i64 j)) (R := fun X => X.rangeAt g (i * 7) (cf 7 s)) [19, 21] (by kernel_rfl) (KS.out _ BD.out) (KR.out _ BD.out) (fun hS0 hR0 => ?_)
 have hS := hid hS0
 have hR := hid hR0
 clear hS0 hR0
 refine wpAnyF_take (i := 0) (v := .pointer (some ⟨wb, 0, none⟩)) rfl (by kernel_rfl) (by kernel_rfl) (by kernel_rfl) (by kernel_rfl) (fun _ _ _ h => h) (Or.inl ⟨by rfl, fun W h => by clear h; go_simp⟩) hS.out (fun _ => hR.out) ?_
 simp only [jj]
 refine wpAnyF_take (i := 1) (v := .pointer (some ⟨wb, 0, none⟩)) rfl (by kernel_rfl) (by kernel_rfl) (by kernel_rfl) (by kernel_rfl) (fun _ _ _ h => h) (Or.inl ⟨by rfl, fun W h => by clear h; go_simp⟩) hS.out (fun _ => hR.out) ?_
 simp only [jj]
 refine wpAnyF_take (i := 2) (v := .pointer (some ⟨wb, 2, none⟩)) rfl (by kernel_rfl) (by kernel_rfl) (by kernel_rfl) (by kernel_rfl) (fun _ _ _ h => h) (Or.inl ⟨by rfl, fun W h => by clear h; go_simp⟩) hS.out (fun _ => hR.out) ?_
 simp only [jj]
 refine wpAnyF_take (i := 3) (v := .slice (some ⟨g, 0, none⟩) p.slots.length cap) rfl (by kernel_rfl) (by kernel_rfl) (by kernel_rfl) (by kernel_rfl) (fun _ _ _ h => h) (Or.inl ⟨by rfl, fun W h => by have h3 := h.1; clear h; go_simp⟩) hS.out (fun _ => hR.out) ?_
 simp only [jj]
 refine wpAnyF_take (i := 4) (v := .int .i64 j) rfl (by kernel_rfl) (by kernel_rfl) (by kernel_rfl) (by kernel_rfl) (fun _ _ _ h => h) (Or.inl ⟨by rfl, fun W h => by have h3 := h.2.2; clear h; go_simp⟩) hS.out (fun _ => hR.out) ?_
 simp only [jj]
 refine wpAnyF_take (i := 5) (v := .pointer (some ⟨wb, 0, none⟩)) rfl (by kernel_rfl) (by kernel_rfl) (by kernel_rfl) (by kernel_rfl) (fun _ _ _ h => h) (Or.inl ⟨by rfl, fun W h => by clear h; go_simp⟩) hS.out (fun _ => hR.out) ?_
 simp only [jj]
 refine wpAnyF_take (i := 6) (v := .pointer (some ⟨wb, 0, none⟩)) rfl (by kernel_rfl) (by kernel_rfl) (by kernel_rfl) (by kernel_rfl) (fun _ _ _ h => h) (Or.inl ⟨by rfl, fun W h => by clear h; go_simp⟩) hS.out (fun _ => hR.out) ?_
 simp only [jj]
 refine wpAnyF_take (i := 7) (v := .pointer (some ⟨wb, 2, none⟩)) rfl (by kernel_rfl) (by kernel_rfl) (by kernel_rfl) (by kernel_rfl) (fun _ _ _ h => h) (Or.inl ⟨by rfl, fun W h => by clear h; go_simp⟩) hS.out (fun _ => hR.out) ?_
 simp only [jj]
 refine wpAnyF_take (i := 8) (v := .slice (some ⟨g, 0, none⟩) p.slots.length cap) rfl (by kernel_rfl) (by kernel_rfl) (by kernel_rfl) (by kernel_rfl) (fun _ _ _ h => h) (Or.inl ⟨by rfl, fun W h => by have h3 := h.1; clear h; go_simp⟩) hS.out (fun _ => hR.out) ?_
 simp only [jj]
 refine wpAnyF_take (i := 9) (v := .int .i64 i) rfl (by kernel_rfl) (by kernel_rfl) (by kernel_rfl) (by kernel_rfl) (fun _ _ _ h => h) (Or.inl ⟨by rfl, fun W h => by have h3 := h.2.1; clear h; go_simp⟩) hS.out (fun _ => hR.out) ?_
 simp only [jj]
 refine wpAnyF_take (i := 10) (v := .pointer (some ⟨wb, 0, none⟩)) rfl (by kernel_rfl) (by kernel_rfl) (by kernel_rfl) (by kernel_rfl) (fun _ _ _ h => h) (Or.inl ⟨by rfl, fun W h => by clear h; go_simp⟩) hS.out (fun _ => hR.out) ?_
 simp only [jj]
 refine wpAnyF_take (i := 11) (v := .pointer (some ⟨wb, 0, none⟩)) rfl (by kernel_rfl) (by kernel_rfl) (by kernel_rfl) (by kernel_rfl) (fun _ _ _ h => h) (Or.inl ⟨by rfl, fun W h => by clear h; go_simp⟩) hS.out (fun _ => hR.out) ?_
 simp only [jj]
 refine wpAnyF_take (i := 12) (v := .pointer (some ⟨wb, 2, none⟩)) rfl (by kernel_rfl) (by kernel_rfl) (by kernel_rfl) (by kernel_rfl) (fun _ _ _ h => h) (Or.inl ⟨by rfl, fun W h => by clear h; go_simp⟩) hS.out (fun _ => hR.out) ?_
 simp only [jj]
 refine wpAnyF_take (i := 13) (v := .slice (some ⟨g, 0, none⟩) p.slots.length cap) rfl (by kernel_rfl) (by kernel_rfl) (by kernel_rfl) (by kernel_rfl) (fun _ _ _ h => h) (Or.inl ⟨by rfl, fun W h => by have h3 := h.1; clear h; go_simp⟩) hS.out (fun _ => hR.out) ?_
 simp only [jj]
 refine wpAnyF_take (i := 14) (v := .int .i64 i) rfl (by kernel_rfl) (by kernel_rfl) (by kernel_rfl) (by kernel_rfl) (fun _ _ _ h => h) (Or.inl ⟨by rfl, fun W h => by have h3 := h.2.1; clear h; go_simp⟩) hS.out (fun _ => hR.out) ?_
 simp only [jj]
 refine wpAnyF_take (i := 15) (v := .pointer (some ⟨g, i * 7, none⟩)) rfl (by kernel_rfl) (by kernel_rfl) (by kernel_rfl) (by kernel_rfl) (fun _ _ _ h => h) (Or.inl ⟨by rfl, fun W h => by clear h; go_simp⟩) hS.out (fun _ => hR.out) ?_
 simp only [jj]
 refine wpAnyF_takeR (i := 16) (v := .agg (cf 7 s).toArray) rfl (by kernel_rfl) (by kernel_rfl) (by kernel_rfl) (by kernel_rfl) (by kernel_rfl) (by kernel_rfl) (fun _ _ _ h => h) (yieldsIf_load_mid (by rfl) _ _ rfl _ _ rfl (cf 7 s) _ (fun _ h => h.2) Tryz.underlying64 rfl (by rw [cf_len]; exact info7s)) hS.out (fun _ => hR.out) ?_
 simp only [jj]
 refine wpAnyF_ready (rs := [17]) (by kernel_rfl) (by simp) (AllReadyF.cons rfl (fun K hK => ?_) AllReadyF.nil)
 go_simp
 refine (empty_any _).mono ?_
 rintro q w1 ⟨rfl, hb⟩
 have A1 := hid (btr BD.out hb)
 clear hb
 go_wp2_with fail
 refine hK.out _ _ (KS.out _ A1.out) (fun _ => KR.out _ A1.out) (fun _ _ => ?_)
 clear hK K
 try simp only [Act.put, jD, jE, jF]
 have hS1 := hid (KS.out _ A1.out)
 have hR1 := hid (KR.out _ A1.out)
 clear hS hR
 refine wpAnyF_take (i := 18) (v := .pointer (some ⟨g, j * 7, none⟩)) rfl (by kernel_rfl) (by kernel_rfl) (by kernel_rfl) (by kernel_rfl) (fun _ _ _ h => h) (Or.inl ⟨by rfl, fun W h => by clear h; go_simp⟩) hS1.out (fun _ => hR1.out) ?_
 simp only [jj]
 obtain ⟨b2, k2⟩ := ROW.out w1 A1.out
 have B2 := hid b2
 have K2 := hid (show Kt tag tag W (w1.setCells g (j * 7) (cf 7 s)) from Kt.trans (.below A1.out) k2)
 have S2 := hid (show (w1.setCells g (j * 7) (cf 7 s)).cell? ⟨wb, 2, none⟩ = some (.slice (some ⟨g, 0, none⟩) p.slots.length cap) ∧ (w1.setCells g (j * 7) (cf 7 s)).cell? ⟨c1, 0, none⟩ = some (.int .i64 i) ∧ (w1.setCells g (j * 7) (cf 7 s)).cell? ⟨c2, 0, none⟩ = some (.int .i64 j) from ⟨by rw [range_cell b2.r (k := 2) rfl, e2], (HC.out.kt K2.out (c1, .int .i64 i) (by simp)).1, (HC.out.kt K2.out (c2, .int .i64 j) (by simp)).1⟩)
 clear b2 k2
 refine wpAnyF_ready (rs := [19]) (by kernel_rfl) (by simp) (AllReadyF.cons rfl (fun K hK => ?_) AllReadyF.nil)
 refine wp_store_mid 64 _ _ rfl g (j * 7) (cf 7 s).toArray rfl rfl (TH.out _ A1.out) (by rw [info7s]; rfl) (all_oneCell_toArray (cf_one 7 s)) ?_
 generalize World.setCells _ _ _ _ = W2 at *
 refine hK.out _ _ S2.out (notClean (by kernel_rfl)) (fun _ _ => ?_)
 clear hK K
 try simp only [Act.put]
 refine wpAnyF_take (i := 20) (v := .pointer (some ⟨g, i * 7, none⟩)) rfl (by kernel_rfl) (by kernel_rfl) (by kernel_rfl) (by kernel_rfl) (fun _ _ _ h => h) (Or.inl ⟨by rfl, fun W h => by clear h; go_simp⟩) S2.out (notClean (by kernel_rfl)) ?_
 simp only [jj]
 have he : V 2 = .slice (some ⟨g, 0, none⟩) (p.slots.set j s).length cap := by rw [List.length_set]; exact e2
 obtain ⟨b3, k3⟩ := B2.out.slotsRow he (i := i) (by show i < (p.slots.set j s).length; rw [List.length_set]; exact hi) eS
 have B3 := hid b3
 have K3 := hid (K2.out.trans k3)
 have S3 := hid (show (W2.setCells g (i * 7) (cf 7 eS)).cell? ⟨wb, 2, none⟩ = some (.slice (some ⟨g, 0, none⟩) p.slots.length cap) ∧ (W2.setCells g (i * 7) (cf 7 eS)).cell? ⟨c1, 0, none⟩ = some (.int .i64 i) ∧ (W2.setCells g (i * 7) (cf 7 eS)).cell? ⟨c2, 0, none⟩ = some (.int .i64 j) from ⟨by rw [range_cell b3.r (k := 2) rfl, e2], (HC.out.kt K3.out (c1, .int .i64 i) (by simp)).1, (HC.out.kt K3.out (c2, .int .i64 j) (by simp)).1⟩)
 have T3 := hid (show W2.there g (i * 7) 7 from by
  have h2 := B2.out.o.slots
  rw [he] at h2
  exact h2.there (i * 7) 7 (by rw [List.length_set]; omega))
 clear b3 k3 he
 refine wpAnyF_ready (rs := [21]) (by kernel_rfl) (by simp) (AllReadyF.cons rfl (fun K hK => ?_) AllReadyF.nil)
 refine wp_store_mid 64 _ _ rfl g (i * 7) (cf 7 eS).toArray rfl rfl T3.out (by rw [info7s]; rfl) (all_oneCell_toArray (cf_one 7 eS)) ?_
 generalize World.setCells _ _ _ _ = W3 at *
 refine hK.out _ _ S3.out (notClean (by kernel_rfl)) (fun _ _ => ?_)
 clear hK K
 try simp only [Act.put]
 refine wpAnyF_done (by kernel_rfl) ?_ _
 have y1 := S3.out.2.1
 have y2 := S3.out.2.2
 have HH := hid (hand_any wb tag V { p with slots := (p.slots.set j s).set i eS } i j W3 B3.out (by show ((p.slots.set j s).set i eS).length ≤ 1000; rw [List.length_set, List.length_set]; exact HLS.out))
 clear hS1 hR1 S2 S3 T3 B2 KS KR TH ROW
 go_wp2_with fail
 refine HH.out.mono ?_
 rintro q w4 ⟨rfl, h1, h2⟩
 have H1 := hid h1
 have H2 := hid h2
 clear h1 h2
 go_wp2_with fail
 go_ret
 exact ⟨by rw [HE.out]; rfl, tag, K3.out.trans H2.out, fun _ => ⟨V, by rw [HPP.out]; exact H1.out⟩⟩
set_option maxRecDepth 100000 in
set_option maxHeartbeats 4000000 in
theorem moveKey_any (a b : Int) (p : PW) (hp : p.Fits) (hl : ∀ l ∈ p.tlbs, l.length ≤ 100) (hs : Snd p) (W : World) (wb : Nat) (tag : Nat → Nat) (V : Nat → Value) (bt : BoxT W wb tag V p) :
  Calls Tryz.prog 15 #[.pointer (some ⟨wb, 0, none⟩), .int .i64 a, .int .i64 b] W fun x W' => x = .returned (.int .i64 (boE p a b)) ∧ ∃ tag', Kt tag tag' W W' ∧ (boE p a b = 0 → ∃ V', BoxT W' wb tag' V' (mvP p a b)) := by
 have HBO := hid bt
 have HB := hid (both_ref wb V p a b W (bt.view hp hl) hs.lf.slots)
 have HLS := hid hp.slots
 have hl2 : (p.slots.length : Int) ≤ 1000 := by have := hp.slots; omega
 clear hs hl hp bt
 by_cases hb : boE p a b = 0
 rotate_left
 ·have HN := hid hb
  have hbb : (boE p a b != 0) = true := by simpa using hb
  generalize boE p a b = x at HB HN hbb ⊢
  clear hb
  go_enter Tryz.func15, Tryz.ntmps15
  go_wp2_with fail
  refine HB.out.mono ?_
  rintro q w1 ⟨rfl, rfl⟩
  go_wp2_with fail
  go_ret
  exact ⟨rfl, tag, Kt.refl _ _, fun h => absurd h HN.out⟩
 obtain ⟨i, j, rfl, rfl, hi, hj⟩ := boE_in hb
 have hij := boE_ne hb
 have HE := hid hb
 rw [hb] at HB
 have hi2 : (i : Int) < (p.slots.length : Int) := by omega
 have hj2 : (j : Int) < (p.slots.length : Int) := by omega
 obtain ⟨g, cap, e2⟩ := HBO.out.o.slots.form (by omega)
 obtain ⟨s, hsi⟩ : ∃ s, p.slots[i] = s := ⟨_, rfl⟩
 have HPP := hid (show mvP p i j = { p with slots := hnd i j ((p.slots.set i eS).set j s) } by unfold mvP; rw [Int.toNat_natCast, Int.toNat_natCast, List.getD_eq_getElem?_getD, List.getElem?_eq_getElem hi, Option.getD_some, hsi, List.set_comm _ _ (fun e => hij e.symm)])
 have c2 : W.cell? ⟨wb, 2, none⟩ = some (.slice (some ⟨g, 0, none⟩) p.slots.length cap) := by rw [range_cell HBO.out.r (k := 2) rfl, e2]
 have R1 := hid (show W.rangeAt g (i * 7) (cf 7 s) from by
  have h2 := HBO.out.o.slots
  rw [e2] at h2
  have h3 := h2.range hi
  rw [hsi] at h3
  exact h3)
 have BA := hid (bal (Below.refl W.heap.size W) (.cells #[.int .i64 0, .int .i64 0, .int .i64 0, .int .i64 0, .int .i64 0, .int .i64 0, .int .i64 0] 64))
 have TN := hid (there_new W #[.int .i64 0, .int .i64 0, .int .i64 0, .int .i64 0, .int .i64 0, .int .i64 0, .int .i64 0] 64 W.heap.size 7 rfl (by decide))
 have BX := hid (below_setCells BA.out (Nat.le_refl _) (cf 7 s) 0)
 have RX := hid (World.rangeAt_setCells_same (W.alloc (.cells #[.int .i64 0, .int .i64 0, .int .i64 0, .int .i64 0, .int .i64 0, .int .i64 0, .int .i64 0] 64)) W.heap.size 0 (cf 7 s) (by rw [cf_len]; exact TN.out))
 clear hb hsi
 go_enter Tryz.func15, Tryz.ntmps15
 go_wp2_with fail
 refine HB.out.mono ?_
 rintro q w1 ⟨rfl, rfl⟩
 go_upto_region 5 with (first | ((with_reducible (show wpList _ _ _ (⟨_, Op.load 64 _, _, _, _, _⟩ :: _) _ _)); refine wp_ldS rfl _ rfl g (i * 7) rfl (cf 7 s) (cf_len _ _) R1.out ?_) | ((with_reducible (show wpList _ _ _ (⟨_, Op.store 64 _ _, _, _, _, _⟩ :: _) _ _)); refine wp_stS rfl _ _ rfl W.heap.size 0 rfl (cf 7 s) rfl (cf_len _ _) (cf_one _ _) TN.out ?_))
 generalize World.setCells _ _ _ _ = W1 at *
 clear c2 TN BA R1
 have B1 := hid (HBO.out.below BX.out)
 have c2 : W1.cell? ⟨wb, 2, none⟩ = some (.slice (some ⟨g, 0, none⟩) p.slots.length cap) := by rw [range_cell B1.out.r (k := 2) rfl, e2]
 have T1 := hid (show W1.there g (i * 7) 7 from by
  have h2 := B1.out.o.slots
  rw [e2] at h2
  exact h2.there (i * 7) 7 (by omega))
 obtain ⟨b2, k2⟩ := B1.out.slotsRow e2 hi eS
 have B2 := hid b2
 have K2 := hid (show Kt tag tag W (W1.setCells g (i * 7) (cf 7 eS)) from Kt.trans (.below BX.out) k2)
 have he : V 2 = .slice (some ⟨g, 0, none⟩) (p.slots.set i eS).length cap := by rw [List.length_set]; exact e2
 have d2 : (W1.setCells g (i * 7) (cf 7 eS)).cell? ⟨wb, 2, none⟩ = some (.slice (some ⟨g, 0, none⟩) p.slots.length cap) := by rw [range_cell b2.r (k := 2) rfl, e2]
 have hgx : g ≠ W.heap.size := fun e => by
  have h2 := HBO.out.o.slots
  rw [e2] at h2
  have := (h2.1.lt g rfl).2
  omega
 have R2 := hid (show (W1.setCells g (i * 7) (cf 7 eS)).rangeAt W.heap.size 0 (cf 7 s) from fun k v hk => by
  rw [cell_setCells (fun e => hgx e.symm)]
  exact RX.out k v hk)
 have T2 := hid (show (W1.setCells g (i * 7) (cf 7 eS)).there g (j * 7) 7 from by
  have h2 := b2.o.slots
  simp only at h2
  rw [he] at h2
  exact h2.there (j * 7) 7 (by rw [List.length_set]; omega))
 clear b2 k2
 go_upto_region 6 with (first | ((with_reducible (show wpList _ _ _ (⟨_, Op.store 64 _ _, _, _, _, _⟩ :: _) _ _)); refine wp_stS rfl _ _ rfl g (i * 7) rfl (cf 7 eS) rfl (cf_len _ _) (cf_one _ _) T1.out ?_))
 generalize World.setCells _ _ _ _ = W2 at *
 clear c2 T1 B1
 have BD : Hid (Below W2.heap.size W2 W2.drew) := hid (below_drew W2 1)
 have KS := hid (show W2.drew.cell? ⟨wb, 2, none⟩ = some (.slice (some ⟨g, 0, none⟩) p.slots.length cap) ∧ W2.drew.rangeAt W.heap.size 0 (cf 7 s) from ⟨d2, R2.out⟩)
 obtain ⟨b3, k3⟩ := (B2.out.below BD.out).slotsRow he (i := j) (by show j < (p.slots.set i eS).length; rw [List.length_set]; exact hj) s
 have B3 := hid b3
 have K3 := hid ((K2.out.trans (.below BD.out)).trans k3)
 have T3 := hid (show W2.drew.there g (j * 7) 7 from T2.out)
 have d3 : (W2.drew.setCells g (j * 7) (cf 7 s)).cell? ⟨wb, 2, none⟩ = some (.slice (some ⟨g, 0, none⟩) p.slots.length cap) := by rw [range_cell b3.r (k := 2) rfl, e2]
 have R3 := hid (show (W2.drew.setCells g (j * 7) (cf 7 s)).rangeAt W.heap.size 0 (cf 7 s) from fun k v hk => by
  rw [cell_setCells (fun e => hgx e.symm)]
  exact R2.out k v hk)
 clear b3 k3
 refine wp_region_held_drew (S := fun X => X.cell? ⟨wb, 2, none⟩ = some (.slice (some ⟨g, 0, none⟩) p.slots.length cap) ∧ X.rangeAt W.heap.size 0 (cf 7 s)) (by kernel_rfl) KS.out (fun hH0 => ?_)
 have hH := hid hH0
 clear hH0
 refine tk 0 (.pointer (some ⟨wb, 0, none⟩)) rfl hH.out ?_
 simp only [jj]
 refine tk 1 (.pointer (some ⟨wb, 0, none⟩)) rfl hH.out ?_
 simp only [jj]
 refine tk 2 (.pointer (some ⟨wb, 2, none⟩)) rfl hH.out ?_
 simp only [jj]
 refine tg 3 (.slice (some ⟨g, 0, none⟩) p.slots.length cap) rfl (Or.inl ⟨by rfl, fun W h => by have h3 := h.1; clear h; go_simp⟩) hH.out ?_
 simp only [jj]
 refine tk 4 (.int .i64 j) rfl hH.out ?_
 simp only [jj]
 refine tg 5 (.agg (cf 7 s).toArray) rfl (yieldsIf_load_mid (by rfl) _ _ rfl _ _ rfl (cf 7 s) _ (fun _ h => h.2) Tryz.underlying64 rfl (by rw [cf_len]; exact info7s)) hH.out ?_
 simp only [jj]
 refine tk 6 (.pointer (some ⟨g, j * 7, none⟩)) rfl hH.out ?_
 simp only [jj]
 refine wpAnyH_ready (rs := [7]) (by kernel_rfl) (by simp) (AllReadyH.cons rfl (fun K hK => ?_) AllReadyH.nil)
 refine wp_store_mid 64 _ _ rfl g (j * 7) (cf 7 s).toArray rfl rfl T3.out (by rw [info7s]; rfl) (all_oneCell_toArray (cf_one 7 s)) ?_
 generalize World.setCells _ _ _ _ = W3 at *
 refine hK.out _ _ ⟨d3, R3.out⟩ (fun _ => ?_)
 clear hK K hH
 try simp only [Act.put]
 refine wpAnyH_done (by kernel_rfl) ?_ _
 have HH := hid (turn_ref wb tag V { p with slots := (p.slots.set i eS).set j s } i j W3 B3.out (by show ((p.slots.set i eS).set j s).length ≤ 1000; rw [List.length_set, List.length_set]; exact HLS.out))
 clear KS T2 T3 B2 R2 R3 d2 d3
 go_wp2_with fail
 refine HH.out.mono ?_
 rintro q w4 ⟨rfl, h1, h2⟩
 have H1 := hid h1
 have H2 := hid h2
 clear h1 h2
 go_wp2_with fail
 go_ret
 exact ⟨by rw [HE.out]; rfl, tag, K3.out.trans H2.out, fun _ => ⟨V, by rw [HPP.out]; exact H1.out⟩⟩
end Go.Proofs.YtoebmjgkfkfhjaaGreatDoor.Wd
