/- Lines of a text: keyholdref.CopyKey on a world with tags, where nothing is wrong; walked. -/
import Derived.BigGuard
import Derived.BigQuiet
import Derived.Test.YtakmaeohhclngaaGreatDoorRba
import Derived.Test.YtakmaeohhclngaaGreatDoorRau
namespace Go.Proofs.YtakmaeohhclngaaGreatDoor.Wd
open Go.RowKit Go.Proofs.YtakmaeohhclngaaGreatDoor.Mem Go.Proofs.YtakmaeohhclngaaGreatDoor.Bw Go.Proofs.YtakmaeohhclngaaGreatDoor.Nums Go.Proofs.YtakmaeohhclngaaGreatDoor.Mmu Go.Proofs.YtakmaeohhclngaaGreatDoor.Hex
/-- The key that comes. -/
def kpK (s : Nat → Int) (a4 : Int) (g : Nat) (k : Nat) : Int := if k = 4 then a4 else if k = 5 then (if g = 0 then s 5 else g) else s k
def kpS (s : Nat → Int) (a4 : Int) (g i : Nat) (k : Nat) : Int := if k = 6 then i else kpK s a4 g k
theorem cf_congr {n : Nat} {f g : Nat → Int} (h : ∀ k, k < n → f k = g k) : cf n f = cf n g := by
 apply List.ext_getElem?
 intro k
 by_cases hk : k < n
 ·rw [cf_at n f k hk, cf_at n g k hk, h k hk]
 ·rw [List.getElem?_eq_none (by rw [cf_len]; omega), List.getElem?_eq_none (by rw [cf_len]; omega)]
theorem range_put {W : World} {b : Nat} {f : Nat → Int} (h : W.rangeAt b 0 (cf 6 f)) {k : Nat} (hk : k < 6) (x : Int) : (W.setCell ⟨b, k, none⟩ (.int .i64 x)).rangeAt b 0 (cf 6 (upd f k x)) := fun o v hv => by
 have ho : o < 6 := by
  have := (List.getElem?_eq_some_iff.1 hv).1
  rwa [cf_len] at this
 rw [cf_at 6 _ o ho] at hv
 have h1 := h o _ (cf_at 6 f o ho)
 have h3 := h k _ (cf_at 6 f k hk)
 rw [Nat.zero_add] at h1 h3 ⊢
 by_cases e : o = k
 ·subst e
  rw [← hv]
  unfold upd
  rw [if_pos rfl]
  exact World.cell?_setCell_same _ _ _ h3
 ·rw [← hv, World.cell?_setCell_other _ _ _ _ (by intro e2; cases e2; exact e rfl), h1]
  unfold upd
  rw [if_neg e]
set_option maxRecDepth 100000 in
set_option maxHeartbeats 16000000 in
theorem copyT_ref (wb : Nat) (tag : Nat → Nat) (V : Nat → Value) (p : PW) (i j r g a : Nat) (s : Nat → Int) (w : World) (bt : BoxT w wb tag V p) (hp : p.Fits) (hl : ∀ l ∈ p.tlbs, l.length ≤ 100) (hsk : p.slots.length = p.kinds.length * 16)
  (hb : boE p i j = 0) (hi : i < p.slots.length) (hj : j < p.slots.length) (hs : p.slots[i] = s) (h0 : s 0 ≠ 1) (hr : r ≤ 7) (hg : g ≤ 65535) (hgk : g = 0 ∨ (0 < g ∧ (s 0 = 7 ∨ s 0 = 8) ∧ s 5 = 0)) (h4 : s 4 = a) (ha : a ≤ 7) :
  Calls Tryz.prog 72 #[.pointer (some ⟨wb, 0, none⟩), .int .i64 i, .int .i64 j, .int .i64 r, .int .i64 g] w fun x w' => x = .returned (.int .i64 0) ∧ BoxT w' wb tag V { p with slots := p.slots.set j (kpS s (Bw.bw 6 a r : Nat) g i) } ∧ Kt tag tag w w' := by
 have BT := hid bt
 have HB := hid (both_ref wb V p i j w (bt.view hp hl) hsk)
 rw [hb] at HB
 obtain ⟨g2, cap2, e2⟩ := bt.o.slots.form (by show 0 < p.slots.length; omega)
 have c2 : w.cell? ⟨wb, 2, none⟩ = some (V 2) := range_cell bt.r rfl
 rw [e2] at c2
 have C2 := hid (fun W (h : Below w.heap.size w W) => cupx h c2)
 have RI := hid (show w.rangeAt g2 (i * 7) (cf 6 s) from six_of (fun k v hv => by
  have hk : k < 7 := by have := (List.getElem?_eq_some_iff.1 hv).1; rw [cf_len] at this; exact this
  have := BT.out.slotsAt e2 hi hk
  rw [hs] at this
  rw [this, ← hv, cf_at 7 _ k hk]))
 have hsl : (p.slots.length : Int) ≤ 1000 := by have := hp.slots; omega
 have hi2 : (i : Int) < (p.slots.length : Int) := by omega
 have hj2 : (j : Int) < (p.slots.length : Int) := by omega
 have E2 := hid e2
 have n0 : (s 0 == 1) = false := by simpa using h0
 have BW := hid (fun W : World => Cpu.bitwise_any 6 (.inl rfl) a r (by omega) (by omega) W)
 have F1 := hid (fun W : World => show Calls Tryz.prog 104 #[.int .i64 r, .int .i64 7] W fun e w' => e = .returned (.bool false) ∧ W = w' from (Isa.far_any r 7 W).mono fun e w' ⟨h1, h2⟩ => ⟨by rw [h1, show decide ((r : Int) < 0 ∨ 7 < (r : Int)) = false from decide_eq_false (by omega)], h2⟩)
 have F2 := hid (fun W : World => show Calls Tryz.prog 104 #[.int .i64 g, .int .i64 65535] W fun e w' => e = .returned (.bool false) ∧ W = w' from (Isa.far_any g 65535 W).mono fun e w' ⟨h1, h2⟩ => ⟨by rw [h1, show decide ((g : Int) < 0 ∨ 65535 < (g : Int)) = false from decide_eq_false (by omega)], h2⟩)
 have B1 := hid (bal (Below.refl w.heap.size w) (.cells #[.int .i64 0, .int .i64 0, .int .i64 0, .int .i64 0, .int .i64 0, .int .i64 0] 115))
 have HTK := hid (there_new w #[.int .i64 0, .int .i64 0, .int .i64 0, .int .i64 0, .int .i64 0, .int .i64 0] 115 w.heap.size 6 rfl (by decide))
 have KX := hid (show Kp (fun k => k = w.heap.size) (w.alloc (.cells #[.int .i64 0, .int .i64 0, .int .i64 0, .int .i64 0, .int .i64 0, .int .i64 0] 115)) ((w.alloc (.cells #[.int .i64 0, .int .i64 0, .int .i64 0, .int .i64 0, .int .i64 0, .int .i64 0] 115)).setCells w.heap.size 0 (cf 6 s)) from Kp.setCells (T := fun k => k = w.heap.size) (.inl rfl) _ _ _ (Kp.refl _ _))
 have B2 := hid (KX.out.below B1.out B1.out.size (fun k hk e => by omega))
 have R2 := hid (World.rangeAt_setCells_same _ w.heap.size 0 (cf 6 s) (by rw [cf_len]; exact HTK.out))
 have T2 := hid (World.there_setCells HTK.out w.heap.size 0 (cf 6 s))
 have HG := hid hgk
 have H4 := hid h4
 clear hb hs h0 hgk bt e2 h4 hsk
 go_enter Tryz.func72, Tryz.ntmps72
 go_wp2_with fail
 refine HB.out.mono ?_
 rintro q w1 ⟨rfl, rfl⟩
 go_upto_region 5 with (first | ((with_reducible (show wpList _ _ _ (⟨_, Op.load 115 _, _, _, _, _⟩ :: _) _ _)); refine wp_ldK rfl _ rfl g2 (i * 7) rfl (cf 6 s) (cf_len _ _) RI.out ?_) | ((with_reducible (show wpList _ _ _ (⟨_, Op.store 115 _ _, _, _, _, _⟩ :: _) _ _)); refine wp_stK rfl _ _ rfl w.heap.size 0 rfl (cf 6 s) rfl (cf_len _ _) (cf_one _ _) HTK.out ?_))
 clear KX HTK B1 RI c2 HB
 generalize World.setCells _ _ _ _ = W2 at B2 R2 T2 ⊢
 generalize hkb : w.heap.size = kb at R2 T2 ⊢
 have HKB := hid hkb
 clear hkb
 have A4 := hid (rfl : ((Bw.bw 6 a r : Nat) : Int) = ((Bw.bw 6 a r : Nat) : Int))
 obtain ⟨a4, ea4⟩ : ∃ a4 : Int, ((Bw.bw 6 a r : Nat) : Int) = a4 := ⟨_, rfl⟩
 clear A4
 have A4 := hid ea4
 rw [ea4] at BW
 clear ea4
 have r0 := range_at R2.out (cf_at 6 _ 0 (by omega))
 have r4 := range_at R2.out (cf_at 6 _ 4 (by omega))
 have r5 := range_at R2.out (cf_at 6 _ 5 (by omega))
 rw [Nat.zero_add] at r0 r4 r5
 rw [H4.out] at r4
 have f4 := (T2.out 4 (by omega)).2
 have f5 := (T2.out 5 (by omega)).2
 rw [Nat.zero_add] at f4 f5
 rcases HG.out with hg0 | ⟨gp, h78, h5⟩
 (focus
  have gz : decide ((0 : Int) < (g : Int)) = false := decide_eq_false (by omega)
  have gzn : decide (0 < g) = false := decide_eq_false (by omega)
  have R4 := hid (show (W2.setCell ⟨kb, 4, none⟩ (.int .i64 a4)).rangeAt kb 0 (cf 6 (kpK s a4 g)) from by rw [hg0]; exact range_put R2.out (k := 4) (by omega) a4)
  have B4 := hid (bset B2.out (b := kb) (o := 4) (Nat.le_of_eq HKB.out) (.int .i64 a4))
  clear hg0
  go_wp2_with fail
  refine (F1.out _).mono ?_
  rintro q w2 ⟨rfl, rfl⟩
  go_wp2_with fail
  refine (F2.out _).mono ?_
  rintro q w2 ⟨rfl, rfl⟩
  go_wp2_with fail
  refine (BW.out _).mono ?_
  rintro q w2 ⟨rfl, rfl⟩
  go_upto_region 14 with fail
  clear gz gzn r0 r4 r5 f4 f5 R2 T2 B2 n0
  generalize W2.setCell ⟨kb, 4, none⟩ (.int .i64 a4) = W4 at R4 B4 ⊢)
 rotate_left
 rw [h5] at r5
 clear h5
 rcases h78 with h7 | h7
 (focus
  rw [h7] at r0
  have gz : decide ((0 : Int) < (g : Int)) = true := decide_eq_true (by omega)
  have gzn : decide (0 < g) = true := decide_eq_true gp
  have R4 := hid (show ((W2.setCell ⟨kb, 5, none⟩ (.int .i64 g)).setCell ⟨kb, 4, none⟩ (.int .i64 a4)).rangeAt kb 0 (cf 6 (kpK s a4 g)) from by
   rw [show cf 6 (kpK s a4 g) = cf 6 (upd (upd s 5 g) 4 a4) from cf_congr (fun k hk => by
    unfold kpK upd
    by_cases e4 : k = 4
    ·rw [if_pos e4, if_pos e4]
    ·rw [if_neg e4, if_neg e4]
     by_cases e5 : k = 5
     ·rw [if_pos e5, if_pos e5, if_neg (by omega)]
     ·rw [if_neg e5, if_neg e5])]
   exact range_put (range_put R2.out (k := 5) (by omega) g) (k := 4) (by omega) a4)
  have B4 := hid (bset (bset B2.out (b := kb) (o := 5) (Nat.le_of_eq HKB.out) (.int .i64 g)) (b := kb) (o := 4) (Nat.le_of_eq HKB.out) (.int .i64 a4))
  clear n0 gp
  go_wp2_with fail
  refine (F1.out _).mono ?_
  rintro q w2 ⟨rfl, rfl⟩
  go_wp2_with fail
  refine (F2.out _).mono ?_
  rintro q w2 ⟨rfl, rfl⟩
  go_wp2_with fail
  refine (BW.out _).mono ?_
  rintro q w2 ⟨rfl, rfl⟩
  go_upto_region 14 with fail
  clear gz gzn r0 r4 r5 f4 f5 R2 T2 B2
  generalize World.setCell _ _ _ = W4 at R4 B4 ⊢)
 rotate_left
 (focus
  rw [h7] at r0
  have gz : decide ((0 : Int) < (g : Int)) = true := decide_eq_true (by omega)
  have gzn : decide (0 < g) = true := decide_eq_true gp
  have R4 := hid (show ((W2.setCell ⟨kb, 5, none⟩ (.int .i64 g)).setCell ⟨kb, 4, none⟩ (.int .i64 a4)).rangeAt kb 0 (cf 6 (kpK s a4 g)) from by
   rw [show cf 6 (kpK s a4 g) = cf 6 (upd (upd s 5 g) 4 a4) from cf_congr (fun k hk => by
    unfold kpK upd
    by_cases e4 : k = 4
    ·rw [if_pos e4, if_pos e4]
    ·rw [if_neg e4, if_neg e4]
     by_cases e5 : k = 5
     ·rw [if_pos e5, if_pos e5, if_neg (by omega)]
     ·rw [if_neg e5, if_neg e5])]
   exact range_put (range_put R2.out (k := 5) (by omega) g) (k := 4) (by omega) a4)
  have B4 := hid (bset (bset B2.out (b := kb) (o := 5) (Nat.le_of_eq HKB.out) (.int .i64 g)) (b := kb) (o := 4) (Nat.le_of_eq HKB.out) (.int .i64 a4))
  clear n0 gp
  go_wp2_with fail
  refine (F1.out _).mono ?_
  rintro q w2 ⟨rfl, rfl⟩
  go_wp2_with fail
  refine (F2.out _).mono ?_
  rintro q w2 ⟨rfl, rfl⟩
  go_wp2_with fail
  refine (BW.out _).mono ?_
  rintro q w2 ⟨rfl, rfl⟩
  go_upto_region 14 with fail
  clear gz gzn r0 r4 r5 f4 f5 R2 T2 B2
  generalize World.setCell _ _ _ = W4 at R4 B4 ⊢)
 rotate_left
 rotate_left
 all_goals
  have hj3 : (j : Int) < (p.slots.length : Int) := hj2
  clear hj2 hi2 BW F1 F2 HG H4
  have BD : Hid (Below W4.heap.size W4 W4.drew) := hid (below_drew W4 1)
  have B5 := hid (btr B4.out BD.out)
  have BT5 := hid (BT.out.below B5.out)
  have I2 := BT5.out.o.slots
  rw [E2.out] at I2
  have TH := hid (I2.there (j * 7) 7 (by show j * 7 + 7 ≤ p.slots.length * 7; omega))
  have K2 := hid (BT5.out.slotsRow E2.out hj (kpS s a4 g i))
  rw [show cf 7 (kpS s a4 g i) = [.int .i64 (kpK s a4 g 0), .int .i64 (kpK s a4 g 1), .int .i64 (kpK s a4 g 2), .int .i64 (kpK s a4 g 3), .int .i64 (kpK s a4 g 4), .int .i64 (kpK s a4 g 5), .int .i64 i] from rfl] at K2
  rw [show cf 6 (kpK s a4 g) = [.int .i64 (kpK s a4 g 0), .int .i64 (kpK s a4 g 1), .int .i64 (kpK s a4 g 2), .int .i64 (kpK s a4 g 3), .int .i64 (kpK s a4 g 4), .int .i64 (kpK s a4 g 5)] from rfl] at R4
  generalize kpK s a4 g = f at R4 K2
  have RK := hid (fun W (h : Below W4.heap.size W4 W) => range_below R4.out h)
  have BK := hid (fun W (h : Below W4.heap.size W4 W) => C2.out W (btr B4.out h))
  clear I2
  refine Rf.wp_region_H (R := fun W => Below W4.heap.size W4 W) [9] [0, 1, 2, 3, 4, 5, 6, 7] 2 (by kernel_rfl) BD.out (by kernel_rfl) (by kernel_rfl) (by kernel_rfl) (fun _ => ?_)
  iterate 5 (refine Rf.rd_st rfl (by rfl) (fun _ _ _ _ h => h) ?_; apply Exists.intro; refine ⟨fun W h => ?_, ?_⟩; (focus (have h1 := BK.out _ h; clear h; go_simp; try rfl)); simp only [jj])
  refine Rf.rd_y rfl (.agg #[.int .i64 (f 0), .int .i64 (f 1), .int .i64 (f 2), .int .i64 (f 3), .int .i64 (f 4), .int .i64 (f 5)]) (yieldsIf_load_mid (by rfl) _ _ rfl _ _ rfl ([.int .i64 (f 0), .int .i64 (f 1), .int .i64 (f 2), .int .i64 (f 3), .int .i64 (f 4), .int .i64 (f 5)]) _ (fun _ h => RK.out _ h) Tryz.underlying115 rfl (by rw [info6k]; rfl)) (fun _ _ _ h => h) ?_
  simp only [jj]
  iterate 2 (refine Rf.rd_st rfl (by rfl) (fun _ _ _ _ h => h) ?_; apply Exists.intro; refine ⟨fun W h => ?_, ?_⟩; (focus (clear h; go_simp; try rfl)); simp only [jj])
  refine Rf.rd_nil ?_
  refine Rf.wpAnyF_groupS (R := fun W => Below W4.heap.size W4 W) (by kernel_rfl) _ BD.out [8] 1 _ _ (by kernel_rfl) ?_
  repeat (refine Rf.rd_st rfl (by rfl) (fun _ _ _ _ h => h) ?_; apply Exists.intro; refine ⟨fun W h => ?_, ?_⟩; (focus (clear h; go_simp; try rfl)); simp only [jj])
  refine Rf.rd_nil ?_
  clear RK BK BD
  generalize W4.drew = w5 at *
  refine Rf.wpAnyF_ready (rs := [9]) (by kernel_rfl) (by simp) (Rf.AllReadyF.cons rfl (fun K hK => ?_) Rf.AllReadyF.nil)
  refine wnt (by rfl) ?_
  simp only [List.getElem_toArray, List.getElem_cons_succ, List.getElem_cons_zero]
  refine wp_store_mid 117 _ _ rfl g2 (j * 7) #[.int .i64 (f 0), .int .i64 (f 1), .int .i64 (f 2), .int .i64 (f 3), .int .i64 (f 4), .int .i64 (f 5), .int .i64 i] rfl rfl TH.out info7s (by simp [Value.oneCell']) ?_
  refine hK.out _ _ trivial (Rf.notClean (by kernel_rfl)) (fun _ _ => ?_)
  clear hK K
  try simp only [jj]
  refine Rf.wpAnyF_done (by kernel_rfl) ?_ _
  have OUT := hid (show BoxT (w5.setCells g2 (j * 7) [.int .i64 (f 0), .int .i64 (f 1), .int .i64 (f 2), .int .i64 (f 3), .int .i64 (f 4), .int .i64 (f 5), .int .i64 i]) wb tag V { p with slots := p.slots.set j (kpS s a4 g i) } ∧ Kt tag tag w (w5.setCells g2 (j * 7) [.int .i64 (f 0), .int .i64 (f 1), .int .i64 (f 2), .int .i64 (f 3), .int .i64 (f 4), .int .i64 (f 5), .int .i64 i]) from ⟨K2.out.1, (Kt.below B5.out).trans K2.out.2⟩)
  clear K2 TH BT5
  generalize w5.setCells g2 (j * 7) [.int .i64 (f 0), .int .i64 (f 1), .int .i64 (f 2), .int .i64 (f 3), .int .i64 (f 4), .int .i64 (f 5), .int .i64 i] = W9 at OUT ⊢
  go_wp2_with fail
  go_ret
  exact ⟨rfl, by rw [A4.out]; exact OUT.out.1, OUT.out.2⟩
end Go.Proofs.YtakmaeohhclngaaGreatDoor.Wd
