/- Lines of a text: keyholdref.frameMay; walked. · Lines of a text: keyholdref.enterLine, where nothing is wrong (a table; a page); walked. · The rest of GSl: what few laws reach. · The rest of GSlMore: what few laws reach. · One slot of a world of one's own, written. · Is something in a slot, can a slot have something: plain.Full, tree.free, tree.between; keyholdref.has, open, both; walked. (Written by mk_tc.py.) · A key made from another one: tree.lesser, walked. (Written by mk_ls.py.) -/
import Derived.BigGuard
import Derived.BigQuiet
import Derived.Test.YtakmaeohhclngaaGreatDoorRaj
import Derived.Test.YtakmaeohhclngaaGreatDoorRaf
import Derived.Test.YtakmaeohhclngaaGreatDoorRam
import Derived.Test.YtakmaeohhclngaaGreatDoorRak
import Derived.Test.YtakmaeohhclngaaGreatDoorRau
namespace Go.Proofs.YtakmaeohhclngaaGreatDoor.Wd
open Go.RowKit Go.Proofs.YtakmaeohhclngaaGreatDoor.Mem Go.Proofs.YtakmaeohhclngaaGreatDoor.Bw Go.Proofs.YtakmaeohhclngaaGreatDoor.Nums Go.Proofs.YtakmaeohhclngaaGreatDoor.Mmu
/-- Whether something is a frame, and of a kind. -/
def fmE (p : PW) (f k : Int) : Int := if f < 0 ∨ (p.kinds.length : Int) ≤ f then 2 else if p.kinds.getD f.toNat 0 = k then 0 else 3
set_option maxRecDepth 100000 in
theorem frameMay_ref (vb : Nat) (V : Nat → Value) (p : PW) (f k : Int) (w : World) (hv : ViewAt w vb V p) :
  Calls Tryz.prog 111 #[.pointer (some ⟨vb, 0, none⟩), .int .i64 f, .int .i64 k] w fun r w' => r = .returned (.int .i64 (fmE p f k)) ∧ w = w' := by
 have c1 : w.cell? ⟨vb, 1, none⟩ = some (V 1) := range_cell hv.r rfl
 obtain ⟨q1, b1, o1, k1, e1, hq1, hz1⟩ := hv.v.kinds
 have hl : (p.kinds.length : Int) ≤ 1000 := by have := hv.f.kinds; omega
 rw [e1] at c1
 have HE := hid (show fmE p f k = if f < 0 ∨ (p.kinds.length : Int) ≤ f then 2 else if p.kinds.getD f.toNat 0 = k then 0 else 3 from rfl)
 clear e1 hv
 by_cases h1 : f < 0
 ·have h2 : decide (f < 0) = true := decide_eq_true h1
  rw [if_pos (.inl h1)] at HE
  go_enter Tryz.func111, Tryz.ntmps111
  go_wp2_with fail
  go_ret
  exact ⟨by rw [HE.out]; rfl, rfl⟩
 have h2 : decide (f < 0) = false := decide_eq_false h1
 by_cases h3 : (p.kinds.length : Int) ≤ f
 ·have h4 : decide ((p.kinds.length : Int) ≤ f) = true := decide_eq_true h3
  rw [if_pos (.inr h3)] at HE
  go_enter Tryz.func111, Tryz.ntmps111
  go_wp2_with fail
  go_ret
  exact ⟨by rw [HE.out]; rfl, rfl⟩
 have h4 : decide ((p.kinds.length : Int) ≤ f) = false := decide_eq_false h3
 obtain ⟨n, rfl⟩ : ∃ n : Nat, f = n := ⟨f.toNat, by omega⟩
 have hn : n < p.kinds.length := by omega
 have hn2 : (n : Int) < (p.kinds.length : Int) := by omega
 rw [if_neg (by omega), Int.toNat_natCast, List.getD_eq_getElem?_getD, List.getElem?_eq_getElem hn] at HE
 obtain rfl := hq1 (by omega)
 have cz := hz1 n hn
 replace HE := hid (show fmE p n k = if p.kinds[n] = k then 0 else 3 from HE.out)
 generalize p.kinds[n] = z at cz HE
 clear h1 h3 hq1 hz1 h2 h4
 by_cases hz : z = k
 ·rw [if_pos hz] at HE
  have hz2 : (z == k) = true := by simpa using hz
  clear hz
  go_enter Tryz.func111, Tryz.ntmps111
  go_wp2_with fail
  go_ret
  exact ⟨by rw [HE.out]; rfl, rfl⟩
 ·rw [if_neg hz] at HE
  have hz2 : (z == k) = false := by simpa using hz
  clear hz
  go_enter Tryz.func111, Tryz.ntmps111
  go_wp2_with fail
  go_ret
  exact ⟨by rw [HE.out]; rfl, rfl⟩
end Go.Proofs.YtakmaeohhclngaaGreatDoor.Wd
namespace Go.Proofs.YtakmaeohhclngaaGreatDoor.Wd
open Go.RowKit Go.Proofs.YtakmaeohhclngaaGreatDoor.Mem Go.Proofs.YtakmaeohhclngaaGreatDoor.Bw Go.Proofs.YtakmaeohhclngaaGreatDoor.Nums Go.Proofs.YtakmaeohhclngaaGreatDoor.Mmu
theorem cupx {W0 W : World} (h : Below W0.heap.size W0 W) {a : Addr} {v : Value} (e : W0.cell? a = some v) : W.cell? a = some v := (h.cell (World.block_lt_of_cell? _ _ e)).trans e
set_option maxRecDepth 100000 in
set_option maxHeartbeats 8000000 in
/-- A table is entered. -/
theorem enterTable_ref (wb : Nat) (tag : Nat → Nat) (V : Nat → Value) (p : PW) (ga oa ca s g f wr : Nat) (w : World) (bt : BoxT w wb tag V p) (hp : p.Fits) (hl : ∀ l ∈ p.tlbs, l.length ≤ 100) (ha : IntsAt w ga oa [(s : Int), (g : Int), (f : Int), (wr : Int)]) (ht : tag ga = 0)
  (h0 : fmE p s 4 = 0) (hg : g ≤ 255) (hw : wr ≤ 1) (hf : f < p.kinds.length) (hr : p.ram.length = p.kinds.length * 16) (hk : p.kinds.getD f 0 = 3) (hz : p.ram.getD (s * 16 + g / 16) 0 = 0) :
  Calls Tryz.prog 73 #[.pointer (some ⟨wb, 0, none⟩), .slice (some ⟨ga, oa, none⟩) 4 ca] w fun r w' => r = .returned (.int .i64 0) ∧ BoxT w' wb tag V { p with ram := p.ram.set (s * 16 + g / 16) (32768 + (f : Int)) } ∧ Kt tag tag w w' := by
 have HV := hid (bt.view hp hl)
 have BT := hid bt
 have hs : s < p.kinds.length := by
  unfold fmE at h0
  by_cases h : (s : Int) < 0 ∨ (p.kinds.length : Int) ≤ (s : Int)
  ·rw [if_pos h] at h0; cases h0
  ·omega
 have a0 := ha 0 (by simp)
 have a1 := ha 1 (by simp)
 have a2 := ha 2 (by simp)
 have a3 := ha 3 (by simp)
 rw [Nat.add_zero] at a0
 simp only [List.getElem_cons_zero, List.getElem_cons_succ] at a0 a1 a2 a3
 have c0 : w.cell? ⟨wb, 0, none⟩ = some (V 0) := range_cell bt.r rfl
 have c1 : w.cell? ⟨wb, 1, none⟩ = some (V 1) := range_cell bt.r rfl
 obtain ⟨q1, b1, o1, k1, e1, hq1, hz1⟩ := HV.out.v.kinds
 have hk2 := hp.kinds
 have hr2 := hp.ram
 have hkl : (p.kinds.length : Int) ≤ 1000 := by omega
 have hrl : (p.ram.length : Int) ≤ 1000 := by omega
 obtain rfl := hq1 (by omega)
 have ck := hz1 f hf
 rw [show p.kinds[f] = 3 by rw [List.getD_eq_getElem?_getD, List.getElem?_eq_getElem hf] at hk; exact hk] at ck
 obtain ⟨g0, cap0, e0⟩ : ∃ g0 cap0, V 0 = .slice (some ⟨g0, 0, none⟩) p.ram.length cap0 := bt.o.ram.form (by show 0 < p.ram.length; omega)
 have hd : s * 16 + g / 16 < p.ram.length := by omega
 rw [e0] at c0
 rw [e1] at c1
 have cr : w.cell? ⟨g0, s * 16 + g / 16, none⟩ = some (.int .i64 0) := by
  obtain ⟨q, b, o, k, e, hq, hz0⟩ := HV.out.v.ram
  rw [e0] at e
  cases e
  have := hq (by omega)
  cases this
  have := hz0 _ hd
  rw [Nat.zero_add] at this
  rw [this, show p.ram[s * 16 + g / 16] = 0 by rw [List.getD_eq_getElem?_getD, List.getElem?_eq_getElem hd] at hz; exact hz]
 have KC := hid (fun W (h : Below w.heap.size w W) => (⟨cupx h a0, cupx h a1, cupx h a2, cupx h a3, cupx h c0, cupx h c1, cupx h ck, cupx h cr⟩ : _ ∧ _ ∧ _ ∧ _ ∧ _ ∧ _ ∧ _ ∧ _))
 have HM := hid (frameMay_ref wb V p s 4 w HV.out)
 rw [h0] at HM
 have HF1 := hid (fun nq => show Calls Tryz.prog 104 #[.int .i64 g, .int .i64 255] (w.drewN nq) fun e w' => e = .returned (.bool false) ∧ w' = w.drewN nq from (Isa.far_any g 255 (w.drewN nq)).mono fun e w' ⟨h1, h2⟩ => ⟨by rw [h1, show decide ((g : Int) < 0 ∨ 255 < (g : Int)) = false from decide_eq_false (by omega)], h2.symm⟩)
 have HF2 := hid (fun nq => show Calls Tryz.prog 104 #[.int .i64 wr, .int .i64 1] (w.drewN nq) fun e w' => e = .returned (.bool false) ∧ w' = w.drewN nq from (Isa.far_any wr 1 (w.drewN nq)).mono fun e w' ⟨h1, h2⟩ => ⟨by rw [h1, show decide ((wr : Int) < 0 ∨ 1 < (wr : Int)) = false from decide_eq_false (by omega)], h2.symm⟩)
 have f1 : decide ((f : Int) < 0) = false := decide_eq_false (by omega)
 have f2 : decide ((p.kinds.length : Int) ≤ (f : Int)) = false := decide_eq_false (by omega)
 clear ha h0 hk hz hz1 hq1 e1 bt ck cr
 have HT := hid ht
 have HE0 := hid e0
 have HRL := hid hr
 have HD := hid hd
 clear ht e0 hr hd hk2 hr2 hl hp
 go_enter Tryz.func73, Tryz.ntmps73
 go_wp2_with fail
 refine HM.out.mono ?_
 rintro r w1 ⟨rfl, rfl⟩
 go_upto_region 4 with fail
 refine wp_region_quiet_lit (by kernel_rfl) (by kernel_rfl) ?_
 repeat (first | go_big_quiet_skip | (go_big_quiet_want; go_big_quiet_op; first | go_big_quiet_on | go_big_quiet_call (first | ((with_reducible (show Calls _ 104 #[.int .i64 (g : Int), _] _ _)); refine Calls.quiet_of_same (HF1.out _)) | ((with_reducible (show Calls _ 104 #[.int .i64 (wr : Int), _] _ _)); refine Calls.quiet_of_same (HF2.out _)))))
 refine wpQuiet_nil ?_
 intro _ hw'
 obtain ⟨nq, hw''⟩ := hw'
 subst hw''
 have B1 := hid (below_drewN (Below.refl w.heap.size w) nq)
 obtain ⟨x0, x1, x2, x3, y0, y1, y2, y3⟩ := KC.out _ B1.out
 clear a0 a1 a2 a3 c0 c1
 have f3 : decide (p.kinds.length ≤ f) = false := decide_eq_false (by omega)
 generalize w.drewN nq = w1 at *
 have hqq : (g : Int).tdiv 16 = ((g / 16 : Nat) : Int) := by rw [Int.tdiv_eq_ediv_of_nonneg (by omega)]; omega
 go_upto_region 6 with fail
 refine wp_region_quiet_lit (by kernel_rfl) (by kernel_rfl) ?_
 repeat (first | go_big_quiet_skip | (go_big_quiet_want; go_big_quiet_op; first | go_big_quiet_on | go_big_quiet_call (fail)))
 refine wpQuiet_nil ?_
 intro _ hw'
 obtain ⟨nq, hw''⟩ := hw'
 subst hw''
 rw [show (s : Int) * 16 + (g : Int) / 16 = ((s * 16 + g / 16 : Nat) : Int) by omega]
 generalize hde : s * 16 + g / 16 = d at *
 have HDE := hid hde
 clear hde
 have hd2 : (d : Int) < (p.ram.length : Int) := by have := HD.out; omega
 have hf2 : (f : Int) < (p.kinds.length : Int) := by omega
 clear hqq x0 x1 x2 x3 y0 y1 y2 y3
 have B2 := hid (below_drewN B1.out nq)
 obtain ⟨x0, x1, x2, x3, y0, y1, y2, y3⟩ := KC.out _ B2.out
 generalize w1.drewN nq = w2 at *
 go_upto_region 7 with fail
 refine wp_region_quiet_lit (by kernel_rfl) (by kernel_rfl) ?_
 repeat (first | go_big_quiet_skip | (go_big_quiet_want; go_big_quiet_op; first | go_big_quiet_on | go_big_quiet_call (fail)))
 refine wpQuiet_nil ?_
 intro _ hw'
 obtain ⟨nq, hw''⟩ := hw'
 subst hw''
 clear x0 x1 x2 x3 y0 y1 y2 y3
 have B3 := hid (below_drewN B2.out nq)
 obtain ⟨x0, x1, x2, x3, y0, y1, y2, y3⟩ := KC.out _ B3.out
 generalize w2.drewN nq = w3 at *
 clear x0 x1 x3 y1 y2
 go_upto_region 10 with fail
 have BD : Hid (Below w3.heap.size w3 w3.drew) := hid (below_drew w3 1)
 have BT4 := hid (BT.out.below (btr B3.out BD.out))
 have FZ := hid (show w3.drew.frozen? ⟨g0, d, none⟩ = false from by
  have h2 := BT4.out.o.ram
  rw [HE0.out] at h2
  exact h2.frozen d)
 refine Rf.wp_region_H (R := fun W => W.cell? ⟨wb, 0, none⟩ = some (.slice (some ⟨g0, 0, none⟩) p.ram.length cap0) ∧ W.cell? ⟨ga, oa + 2, none⟩ = some (.int .i64 f)) [10] [0, 1, 2, 3, 4, 5, 6, 7, 8, 9] 1 (by kernel_rfl) ⟨cupx BD.out y0, cupx BD.out x2⟩ (by kernel_rfl) (by kernel_rfl) (by kernel_rfl) (fun _ => ?_)
 repeat (refine Rf.rd_st rfl (by rfl) (fun _ _ _ _ h => h) ?_; apply Exists.intro; refine ⟨fun W h => ?_, ?_⟩; (focus (obtain ⟨h1, h2⟩ := h; go_simp; try rfl)); simp only [jj])
 refine Rf.rd_nil ?_
 refine Rf.wpAnyF_ready (rs := [10]) (by kernel_rfl) (by simp) (Rf.AllReadyF.cons rfl (fun K hK => ?_) Rf.AllReadyF.nil)
 have y4 := cupx BD.out y3
 have fz := FZ.out
 go_simp
 refine hK.out _ _ trivial (Rf.notClean (by kernel_rfl)) (fun _ _ => ?_)
 clear hK K
 try simp only [jj]
 refine Rf.wpAnyF_done (by kernel_rfl) ?_ _
 rw [show IntKind.i64.wrap (32768 + (f : Int)) = 32768 + (f : Int) from wraps_i64 _ (by omega) (by omega)]
 have RC := hid ((BT.out.below B3.out).ramCell HE0.out d (32768 + (f : Int)))
 have BE := hid (show Below (w3.setCell ⟨g0, d, none⟩ (.int .i64 (32768 + (f : Int)))).heap.size (w3.setCell ⟨g0, d, none⟩ (.int .i64 (32768 + (f : Int)))) (w3.setCell ⟨g0, d, none⟩ (.int .i64 (32768 + (f : Int)))).drew from below_drew _ 1)
 have OUT := hid (show BoxT (w3.setCell ⟨g0, d, none⟩ (.int .i64 (32768 + (f : Int)))).drew wb tag V { p with ram := p.ram.set d (32768 + (f : Int)) } ∧ Kt tag tag w (w3.setCell ⟨g0, d, none⟩ (.int .i64 (32768 + (f : Int)))).drew from ⟨RC.out.1.below BE.out, ((Kt.below B3.out).trans RC.out.2).trans (Kt.below BE.out)⟩)
 generalize (w3.setCell ⟨g0, d, none⟩ (.int .i64 (32768 + (f : Int)))).drew = W9 at OUT ⊢
 clear RC BE FZ fz y4 y3 y0 x2 BT4
 go_wp2_with fail
 go_ret
 exact ⟨rfl, by rw [HDE.out]; exact OUT.out.1, OUT.out.2⟩
set_option maxRecDepth 100000 in
set_option maxHeartbeats 8000000 in
/-- A page is entered. -/
theorem enterPage_ref (wb : Nat) (tag : Nat → Nat) (V : Nat → Value) (p : PW) (ga oa ca s g f wr ev : Nat) (w : World) (bt : BoxT w wb tag V p) (hp : p.Fits) (hl : ∀ l ∈ p.tlbs, l.length ≤ 100) (ha : IntsAt w ga oa [(s : Int), (g : Int), (f : Int), (wr : Int)]) (ht : tag ga = 0)
  (h0 : fmE p s 4 = 0) (hg : g ≤ 255) (hw : wr ≤ 1) (hf : f < p.kinds.length) (hr : p.ram.length = p.kinds.length * 16) (hk : p.kinds.getD f 0 = 2) (hz : p.ram.getD (s * 16 + g / 16) 0 = ev) (hev : 0 < ev) (hev2 : ev ≤ 65535) (hpl : ev % 1024 * 16 + g % 16 < p.ram.length) (hpz : p.ram.getD (ev % 1024 * 16 + g % 16) 0 = 0) :
  Calls Tryz.prog 73 #[.pointer (some ⟨wb, 0, none⟩), .slice (some ⟨ga, oa, none⟩) 4 ca] w fun r w' => r = .returned (.int .i64 0) ∧ BoxT w' wb tag V { p with ram := p.ram.set (ev % 1024 * 16 + g % 16) (32768 + (wr : Int) * 16384 + (f : Int)) } ∧ Kt tag tag w w' := by
 have HV := hid (bt.view hp hl)
 have BT := hid bt
 have hs : s < p.kinds.length := by
  unfold fmE at h0
  by_cases h : (s : Int) < 0 ∨ (p.kinds.length : Int) ≤ (s : Int)
  ·rw [if_pos h] at h0; cases h0
  ·omega
 have a0 := ha 0 (by simp)
 have a1 := ha 1 (by simp)
 have a2 := ha 2 (by simp)
 have a3 := ha 3 (by simp)
 rw [Nat.add_zero] at a0
 simp only [List.getElem_cons_zero, List.getElem_cons_succ] at a0 a1 a2 a3
 have c0 : w.cell? ⟨wb, 0, none⟩ = some (V 0) := range_cell bt.r rfl
 have c1 : w.cell? ⟨wb, 1, none⟩ = some (V 1) := range_cell bt.r rfl
 obtain ⟨q1, b1, o1, k1, e1, hq1, hz1⟩ := HV.out.v.kinds
 have hk2 := hp.kinds
 have hr2 := hp.ram
 have hkl : (p.kinds.length : Int) ≤ 1000 := by omega
 have hrl : (p.ram.length : Int) ≤ 1000 := by omega
 obtain rfl := hq1 (by omega)
 have ck := hz1 f hf
 rw [show p.kinds[f] = 2 by rw [List.getD_eq_getElem?_getD, List.getElem?_eq_getElem hf] at hk; exact hk] at ck
 obtain ⟨g0, cap0, e0⟩ : ∃ g0 cap0, V 0 = .slice (some ⟨g0, 0, none⟩) p.ram.length cap0 := bt.o.ram.form (by show 0 < p.ram.length; omega)
 have hd : s * 16 + g / 16 < p.ram.length := by omega
 rw [e0] at c0
 rw [e1] at c1
 obtain ⟨qr, br, orr, kr, er, hqr, hzr⟩ := HV.out.v.ram
 rw [e0] at er
 cases er
 have hbo := hqr (by omega)
 cases hbo
 have cr : w.cell? ⟨g0, s * 16 + g / 16, none⟩ = some (.int .i64 ev) := by
  have := hzr _ hd
  rw [Nat.zero_add] at this
  rw [this, show p.ram[s * 16 + g / 16] = (ev : Int) by rw [List.getD_eq_getElem?_getD, List.getElem?_eq_getElem hd] at hz; exact hz]
 have cp : w.cell? ⟨g0, ev % 1024 * 16 + g % 16, none⟩ = some (.int .i64 0) := by
  have := hzr _ hpl
  rw [Nat.zero_add] at this
  rw [this, show p.ram[ev % 1024 * 16 + g % 16] = 0 by rw [List.getD_eq_getElem?_getD, List.getElem?_eq_getElem hpl] at hpz; exact hpz]
 have KC := hid (fun W (h : Below w.heap.size w W) => (⟨cupx h a0, cupx h a1, cupx h a2, cupx h a3, cupx h c0, cupx h c1, cupx h ck, cupx h cr, cupx h cp⟩ : _ ∧ _ ∧ _ ∧ _ ∧ _ ∧ _ ∧ _ ∧ _ ∧ _))
 have HM := hid (frameMay_ref wb V p s 4 w HV.out)
 rw [h0] at HM
 have HF1 := hid (fun nq => show Calls Tryz.prog 104 #[.int .i64 g, .int .i64 255] (w.drewN nq) fun e w' => e = .returned (.bool false) ∧ w' = w.drewN nq from (Isa.far_any g 255 (w.drewN nq)).mono fun e w' ⟨h1, h2⟩ => ⟨by rw [h1, show decide ((g : Int) < 0 ∨ 255 < (g : Int)) = false from decide_eq_false (by omega)], h2.symm⟩)
 have HF2 := hid (fun nq => show Calls Tryz.prog 104 #[.int .i64 wr, .int .i64 1] (w.drewN nq) fun e w' => e = .returned (.bool false) ∧ w' = w.drewN nq from (Isa.far_any wr 1 (w.drewN nq)).mono fun e w' ⟨h1, h2⟩ => ⟨by rw [h1, show decide ((wr : Int) < 0 ∨ 1 < (wr : Int)) = false from decide_eq_false (by omega)], h2.symm⟩)
 have f1 : decide ((f : Int) < 0) = false := decide_eq_false (by omega)
 have f2 : decide ((p.kinds.length : Int) ≤ (f : Int)) = false := decide_eq_false (by omega)
 clear ha h0 hk hz hz1 hq1 e1 bt ck cr cp hqr hzr hpz
 have HT := hid ht
 have HE0 := hid e0
 have HRL := hid hr
 have HD := hid hd
 have HPL := hid hpl
 have hev3 : ((ev : Int) == 0) = false := by simp; omega
 have hev4 : (ev : Int) ≤ 65535 := by omega
 clear hpl hev2
 clear ht e0 hr hd hk2 hr2 hl hp
 go_enter Tryz.func73, Tryz.ntmps73
 go_wp2_with fail
 refine HM.out.mono ?_
 rintro r w1 ⟨rfl, rfl⟩
 go_upto_region 4 with fail
 refine wp_region_quiet_lit (by kernel_rfl) (by kernel_rfl) ?_
 repeat (first | go_big_quiet_skip | (go_big_quiet_want; go_big_quiet_op; first | go_big_quiet_on | go_big_quiet_call (first | ((with_reducible (show Calls _ 104 #[.int .i64 (g : Int), _] _ _)); refine Calls.quiet_of_same (HF1.out _)) | ((with_reducible (show Calls _ 104 #[.int .i64 (wr : Int), _] _ _)); refine Calls.quiet_of_same (HF2.out _)))))
 refine wpQuiet_nil ?_
 intro _ hw'
 obtain ⟨nq, hw''⟩ := hw'
 subst hw''
 have B1 := hid (below_drewN (Below.refl w.heap.size w) nq)
 obtain ⟨x0, x1, x2, x3, y0, y1, y2, y3, y5⟩ := KC.out _ B1.out
 clear a0 a1 a2 a3 c0 c1
 have f3 : decide (p.kinds.length ≤ f) = false := decide_eq_false (by omega)
 generalize w.drewN nq = w1 at *
 have hqq : (g : Int).tdiv 16 = ((g / 16 : Nat) : Int) := by rw [Int.tdiv_eq_ediv_of_nonneg (by omega)]; omega
 go_upto_region 6 with fail
 refine wp_region_quiet_lit (by kernel_rfl) (by kernel_rfl) ?_
 repeat (first | go_big_quiet_skip | (go_big_quiet_want; go_big_quiet_op; first | go_big_quiet_on | go_big_quiet_call (fail)))
 refine wpQuiet_nil ?_
 intro _ hw'
 obtain ⟨nq, hw''⟩ := hw'
 subst hw''
 rw [show (s : Int) * 16 + (g : Int) / 16 = ((s * 16 + g / 16 : Nat) : Int) by omega]
 generalize hde : s * 16 + g / 16 = d at *
 have HDE := hid hde
 clear hde
 have hd2 : (d : Int) < (p.ram.length : Int) := by have := HD.out; omega
 have hf2 : (f : Int) < (p.kinds.length : Int) := by omega
 clear hqq x0 x1 x2 x3 y0 y1 y2 y3 y5
 have B2 := hid (below_drewN B1.out nq)
 obtain ⟨x0, x1, x2, x3, y0, y1, y2, y3, y5⟩ := KC.out _ B2.out
 generalize w1.drewN nq = w2 at *
 go_upto_region 7 with fail
 refine wp_region_quiet_lit (by kernel_rfl) (by kernel_rfl) ?_
 repeat (first | go_big_quiet_skip | (go_big_quiet_want; go_big_quiet_op; first | go_big_quiet_on | go_big_quiet_call (fail)))
 refine wpQuiet_nil ?_
 intro _ hw'
 obtain ⟨nq, hw''⟩ := hw'
 subst hw''
 clear x0 x1 x2 x3 y0 y1 y2 y3 y5
 have B3 := hid (below_drewN B2.out nq)
 obtain ⟨x0, x1, x2, x3, y0, y1, y2, y3, y5⟩ := KC.out _ B3.out
 generalize w2.drewN nq = w3 at *
 go_upto_region 12 with fail
 refine wp_region_quiet_lit (by kernel_rfl) (by kernel_rfl) ?_
 repeat (first | go_big_quiet_skip | (go_big_quiet_want; go_big_quiet_op; first | go_big_quiet_on | go_big_quiet_call (fail)))
 refine wpQuiet_nil ?_
 intro _ hw'
 obtain ⟨nq, hw''⟩ := hw'
 subst hw''
 clear x0 x1 x2 x3 y0 y1 y2 y3 y5
 have B4 := hid (below_drewN B3.out nq)
 obtain ⟨x0, x1, x2, x3, y0, y1, y2, y3, y5⟩ := KC.out _ B4.out
 generalize w3.drewN nq = w4 at *
 go_upto_region 16 with fail
 refine wp_region_quiet_lit (by kernel_rfl) (by kernel_rfl) ?_
 repeat (first | go_big_quiet_skip | (go_big_quiet_want; go_big_quiet_op; first | go_big_quiet_on | go_big_quiet_call (fail)))
 refine wpQuiet_nil ?_
 intro _ hw'
 obtain ⟨nq, hw''⟩ := hw'
 subst hw''
 rw [show (ev : Int) % 1024 * 16 + (g : Int) % 16 = ((ev % 1024 * 16 + g % 16 : Nat) : Int) by omega]
 generalize hpe : ev % 1024 * 16 + g % 16 = pg at *
 have HPE := hid hpe
 clear hpe
 have hp2 : (pg : Int) < (p.ram.length : Int) := by have := HPL.out; omega
 clear x0 x1 x2 x3 y0 y1 y2 y3 y5
 have B5 := hid (below_drewN B4.out nq)
 obtain ⟨x0, x1, x2, x3, y0, y1, y2, y3, y5⟩ := KC.out _ B5.out
 generalize w4.drewN nq = w5 at *
 clear x0 x1 y1 y2 y3
 go_upto_region 19 with fail
 have BD : Hid (Below w5.heap.size w5 w5.drew) := hid (below_drew w5 1)
 have BT4 := hid (BT.out.below (btr B5.out BD.out))
 have FZ := hid (show w5.drew.frozen? ⟨g0, pg, none⟩ = false from by
  have h2 := BT4.out.o.ram
  rw [HE0.out] at h2
  exact h2.frozen pg)
 refine Rf.wp_region_H (R := fun W => W.cell? ⟨wb, 0, none⟩ = some (.slice (some ⟨g0, 0, none⟩) p.ram.length cap0) ∧ W.cell? ⟨ga, oa + 3, none⟩ = some (.int .i64 wr) ∧ W.cell? ⟨ga, oa + 2, none⟩ = some (.int .i64 f)) [15] [0, 1, 2, 3, 4, 5, 6, 7, 8, 9, 10, 11, 12, 13, 14] 1 (by kernel_rfl) ⟨cupx BD.out y0, cupx BD.out x3, cupx BD.out x2⟩ (by kernel_rfl) (by kernel_rfl) (by kernel_rfl) (fun _ => ?_)
 repeat (refine Rf.rd_st rfl (by rfl) (fun _ _ _ _ h => h) ?_; apply Exists.intro; refine ⟨fun W h => ?_, ?_⟩; (focus (obtain ⟨h1, h2, h3⟩ := h; go_simp; try rfl)); simp only [jj])
 refine Rf.rd_nil ?_
 refine Rf.wpAnyF_ready (rs := [15]) (by kernel_rfl) (by simp) (Rf.AllReadyF.cons rfl (fun K hK => ?_) Rf.AllReadyF.nil)
 have y4 := cupx BD.out y5
 have fz := FZ.out
 go_simp
 refine hK.out _ _ trivial (Rf.notClean (by kernel_rfl)) (fun _ _ => ?_)
 clear hK K
 try simp only [jj]
 refine Rf.wpAnyF_done (by kernel_rfl) ?_ _
 try simp only [show IntKind.i64.wrap ((wr : Int) * 16384) = (wr : Int) * 16384 from wraps_i64 _ (by omega) (by omega), show IntKind.i64.wrap (32768 + (wr : Int) * 16384) = 32768 + (wr : Int) * 16384 from wraps_i64 _ (by omega) (by omega), show IntKind.i64.wrap (32768 + (wr : Int) * 16384 + (f : Int)) = 32768 + (wr : Int) * 16384 + (f : Int) from wraps_i64 _ (by omega) (by omega)]
 have RC := hid ((BT.out.below B5.out).ramCell HE0.out pg (32768 + (wr : Int) * 16384 + (f : Int)))
 have BE := hid (show Below (w5.setCell ⟨g0, pg, none⟩ (.int .i64 (32768 + (wr : Int) * 16384 + (f : Int)))).heap.size (w5.setCell ⟨g0, pg, none⟩ (.int .i64 (32768 + (wr : Int) * 16384 + (f : Int)))) (w5.setCell ⟨g0, pg, none⟩ (.int .i64 (32768 + (wr : Int) * 16384 + (f : Int)))).drew from below_drew _ 1)
 have OUT := hid (show BoxT (w5.setCell ⟨g0, pg, none⟩ (.int .i64 (32768 + (wr : Int) * 16384 + (f : Int)))).drew wb tag V { p with ram := p.ram.set pg (32768 + (wr : Int) * 16384 + (f : Int)) } ∧ Kt tag tag w (w5.setCell ⟨g0, pg, none⟩ (.int .i64 (32768 + (wr : Int) * 16384 + (f : Int)))).drew from ⟨RC.out.1.below BE.out, ((Kt.below B5.out).trans RC.out.2).trans (Kt.below BE.out)⟩)
 generalize (w5.setCell ⟨g0, pg, none⟩ (.int .i64 (32768 + (wr : Int) * 16384 + (f : Int)))).drew = W9 at OUT ⊢
 clear RC BE FZ fz y4 y5 y0 x2 x3 BT4
 go_wp2_with fail
 go_ret
 exact ⟨rfl, by rw [HPE.out]; exact OUT.out.1, OUT.out.2⟩
end Go.Proofs.YtakmaeohhclngaaGreatDoor.Wd
namespace Go.Proofs.YtakmaeohhclngaaGreatDoor.Wd
open Go.RowKit Go.Proofs.YtakmaeohhclngaaGreatDoor.Mem Go.Proofs.YtakmaeohhclngaaGreatDoor.Bw Go.Proofs.YtakmaeohhclngaaGreatDoor.Nums Go.Proofs.YtakmaeohhclngaaGreatDoor.Mmu
theorem snd_op {p : PW} (h : Snd p) {k : Nat} (hk : k < p.slots.length) (h0 : p.slots[k] 0 ≠ 0) : opB p p.slots[k] = true := by
 have h1 : bsB p (p.kinds.getD (k / 16) 0) p.slots[k] = false := h.b3 k hk
 generalize p.slots[k] = s at h0 h1 ⊢
 unfold bsB at h1
 rw [show zkB s = false from decide_eq_false fun hz => h0 hz.1, if_neg (by decide)] at h1
 simp only [Bool.not_eq_false', Bool.and_eq_true] at h1
 exact h1.1.1.2
theorem snd_kb {p : PW} (h : Snd p) : ∀ s ∈ p.slots, KB s := kb_of (g := fun k => p.kinds.getD (k / 16) 0) h.b3
/-- The key at an address, and the error. -/
def nkey : Nat → Int := fun _ => 0
end Go.Proofs.YtakmaeohhclngaaGreatDoor.Wd
namespace Go.Proofs.YtakmaeohhclngaaGreatDoor.Wd
open Go.RowKit Go.Proofs.YtakmaeohhclngaaGreatDoor.Mem Go.Proofs.YtakmaeohhclngaaGreatDoor.Bw Go.Proofs.YtakmaeohhclngaaGreatDoor.Nums Go.Proofs.YtakmaeohhclngaaGreatDoor.Mmu
theorem snd_key {p : PW} (h : Snd p) {k : Nat} (hk : k < p.slots.length) (h0 : p.slots[k] 0 ≠ 0) : 0 ≤ p.slots[k] 1 ∧ 1 ≤ p.slots[k] 2 ∧ p.slots[k] 1 + p.slots[k] 2 ≤ (p.kinds.length : Int) ∧ 0 ≤ p.slots[k] 4 ∧ p.slots[k] 4 ≤ 7 := by
 have ho := snd_op h hk h0
 generalize p.slots[k] = s at h0 ho ⊢
 unfold opB at ho
 simp only [Bool.and_eq_true, beq_iff_eq, decide_eq_true_eq] at ho
 obtain ⟨b0, b1, l0, l1, r0, r1⟩ := key_bounds ho.1.1 h0
 exact ⟨b0, l0, ho.1.2, r0, r1⟩
end Go.Proofs.YtakmaeohhclngaaGreatDoor.Wd
namespace Go.Proofs.YtakmaeohhclngaaGreatDoor.Wd
open Go.RowKit Go.Proofs.YtakmaeohhclngaaGreatDoor.Mem Go.Proofs.YtakmaeohhclngaaGreatDoor.Bw Go.Proofs.YtakmaeohhclngaaGreatDoor.Nums Go.Proofs.YtakmaeohhclngaaGreatDoor.Mmu
def hasE (p : PW) (n : Int) : Int := if slotB p n then (if (p.slots.getD n.toNat nkey) 0 = 0 then 6 else 0) else 2
set_option maxRecDepth 100000 in
set_option maxHeartbeats 600000 in
theorem has_ref (vb : Nat) (V : Nat → Value) (p : PW) (n : Int) (w : World) (hv : ViewAt w vb V p) :
  Calls Tryz.prog 108 #[.pointer (some ⟨vb, 0, none⟩), .int .i64 n] w fun r w' => r = .returned (.int .i64 (hasE p n)) ∧ w = w' := by
 have c2 : w.cell? ⟨vb, 2, none⟩ = some (V 2) := range_cell hv.r rfl
 have c1 : w.cell? ⟨vb, 1, none⟩ = some (V 1) := range_cell hv.r rfl
 obtain ⟨q2, b2, off2, cap2, e2, hq2, hz2⟩ := hv.v.slots
 obtain ⟨q1, b1, off1, cap1, e1, hq1, hz1⟩ := hv.v.kinds
 have hl2 : (p.slots.length : Int) ≤ 1000 := by have := hv.f.slots; omega
 have hl1 : (p.kinds.length : Int) ≤ 1000 := by have := hv.f.kinds; omega
 cases hs : slotB p n with
 | false =>
  have HN := hid (show hasE p n = 2 by unfold hasE; rw [hs]; rfl)
  have HSB := hid hs
  have hn := of_decide_eq_false hs
  clear hs HSB hz2 hq2 hz1 hq1 hv
  by_cases h0 : n < 0
  ·clear hn
   go_enter Tryz.func108, Tryz.ntmps108
   go_wp2_with fail
   go_ret
   exact ⟨by rw [HN.out]; rfl, rfl⟩
  ·have h1 : (p.slots.length : Int) ≤ n := by omega
   clear hn
   go_enter Tryz.func108, Tryz.ntmps108
   go_wp2_with fail
   go_ret
   exact ⟨by rw [HN.out]; rfl, rfl⟩
 | true =>
  obtain ⟨j, rfl, hj⟩ := slotB_in hs
  have HSB := hid hs
  have hj2 : (j : Int) < (p.slots.length : Int) := by omega
  obtain rfl := hq2 (by omega)
  have x0 := range_at0 (hz2 j hj) (cf_at 7 _ 0 (by omega))
  have HA := hid (show hasE p j = if p.slots[j] 0 = 0 then 6 else 0 by unfold hasE; rw [hs, if_pos rfl, Int.toNat_natCast, List.getD_eq_getElem?_getD, List.getElem?_eq_getElem hj]; rfl)
  generalize p.slots[j] 0 = y at x0 HA
  clear hs hz2 hq2 hz1 hq1 hv
  have n0 : ¬ ((j : Int) < 0) := by omega
  have n1 : ¬ ((p.slots.length : Int) ≤ (j : Int)) := by omega
  by_cases h0 : y = 0
  ·subst h0
   have HN := hid (show hasE p j = 6 by rw [HA.out]; rfl)
   go_enter Tryz.func108, Tryz.ntmps108
   go_wp2_with fail
   go_ret
   exact ⟨by rw [HN.out]; rfl, rfl⟩
  ·have HN := hid (show hasE p j = 0 by rw [HA.out, if_neg h0])
   have h0b : (y == 0) = false := by simpa using h0
   clear h0
   go_enter Tryz.func108, Tryz.ntmps108
   go_wp2_with fail
   go_ret
   exact ⟨by rw [HN.out]; rfl, rfl⟩
end Go.Proofs.YtakmaeohhclngaaGreatDoor.Wd
