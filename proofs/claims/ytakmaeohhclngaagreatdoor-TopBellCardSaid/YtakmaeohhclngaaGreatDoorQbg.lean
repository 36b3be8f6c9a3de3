/- Instructions are put into a world's words: keyholdref.CodeOf, code; walked. · The world of 'one', plain, step by step (what computing its lines comes to). -/
import Derived.Test.YtakmaeohhclngaaGreatDoorQbe
import Derived.Test.YtakmaeohhclngaaGreatDoorQbf
namespace Go.Proofs.YtakmaeohhclngaaGreatDoor.Wd
open Go.RowKit Go.Proofs.YtakmaeohhclngaaGreatDoor.Mem Go.Proofs.YtakmaeohhclngaaGreatDoor.Bw Go.Proofs.YtakmaeohhclngaaGreatDoor.Nums Go.Proofs.YtakmaeohhclngaaGreatDoor.Mmu Go.Proofs.YtakmaeohhclngaaGreatDoor.Hex Go.Proofs.YtakmaeohhclngaaGreatDoor.Mad
/-- The two words of an instruction. -/
def q0 (q : Int × Int × Int × Int) : Int := q.1 * 256 + q.2.1 * 16 + q.2.2.1
def q1 (q : Int × Int × Int × Int) : Int := q.2.2.2
theorem q_range {q : Int × Int × Int × Int} (h : GoodQ q) : (0 ≤ q0 q ∧ q0 q ≤ 65535) ∧ 0 ≤ q1 q ∧ q1 q ≤ 65535 := by
 obtain ⟨h1, h2, h3, h4⟩ := h
 unfold q0 q1
 omega
set_option maxHeartbeats 1000000 in
theorem codeOf_good (q : Int × Int × Int × Int) (w : World) (h : GoodQ q) :
  Calls Tryz.prog 47 #[.agg #[.int .i64 q.1, .int .i64 q.2.1, .int .i64 q.2.2.1, .int .i64 q.2.2.2]] w fun e w' => e = .returned (.agg #[.int .i64 (q0 q), .int .i64 (q1 q)]) ∧ Below w.heap.size w w' := by
 obtain ⟨o, a, b, i⟩ := q
 obtain ⟨⟨o0, o1⟩, ⟨a0, a1⟩, ⟨b0, b1⟩, i0, i1⟩ := h
 simp only at o0 o1 a0 a1 b0 b1 i0 i1 ⊢
 have hi : ¬ i < 0 := by omega
 have e1 : IntKind.i64.wrap (o * 256) = o * 256 := wraps_i64 _ (by omega) (by omega)
 have e2 : IntKind.i64.wrap (a * 16) = a * 16 := wraps_i64 _ (by omega) (by omega)
 have e3 : IntKind.i64.wrap (o * 256 + a * 16) = o * 256 + a * 16 := wraps_i64 _ (by omega) (by omega)
 have e4 : IntKind.i64.wrap (o * 256 + a * 16 + b) = o * 256 + a * 16 + b := wraps_i64 _ (by omega) (by omega)
 go_enter Tryz.func47, Tryz.ntmps47
 go_wp2
 exact bodyPost_ret (v := .agg #[.int .i64 (o * 256 + a * 16 + b), .int .i64 i]) (by simp [results, Tryz.results47, go_sem]) rfl ⟨rfl, bal (bal (Below.refl _ _) _) _⟩
/-- So many instructions from a place on. -/
def cdN (ram : List Int) (a : Nat) (zs : List (Int × Int × Int × Int)) : Nat → List Int
 | 0 => ram
 | k + 1 => ((cdN ram a zs k).set (a + 2 * k) (q0 (zs.getD k (0, 0, 0, 0)))).set (a + 2 * k + 1) (q1 (zs.getD k (0, 0, 0, 0)))
theorem cdN_len (ram : List Int) (a : Nat) (zs : List (Int × Int × Int × Int)) : ∀ k, (cdN ram a zs k).length = ram.length
 | 0 => rfl
 | k + 1 => by rw [cdN, List.length_set, List.length_set, cdN_len ram a zs k]
set_option maxRecDepth 100000 in
set_option maxHeartbeats 16000000 in
theorem code_ref (wb : Nat) (tag : Nat → Nat) (V : Nat → Value) (p : PW) (f lb lc : Nat) (zs : List (Int × Int × Int × Int)) (w : World) (bt0 : BoxT w wb tag V p) (hp : p.Fits) (hI : InsAt w lb 0 zs) (hlb : tag lb = 0) (hz : zs.length ≤ 16) (hg : ∀ q ∈ zs, GoodQ q) (hf : f * 16 + 2 * zs.length ≤ p.ram.length) (HP0 : 0 < p.ram.length) :
  Calls Tryz.prog 16 #[.pointer (some ⟨wb, 0, none⟩), .int .i64 f, .slice (some ⟨lb, 0, none⟩) zs.length lc] w fun r w' => r = .returned (.tuple #[]) ∧ ∃ tag', BoxT w' wb tag' V { p with ram := cdN p.ram (f * 16) zs zs.length } ∧ Kt tag tag' w w' := by
 obtain ⟨bt, kr⟩ := retagC bt0
 have TN := hid (fun x (h : w.heap.size ≤ x) => tagC_ge (tag := tag) h)
 have LT := hid (show ∀ k, k < w.heap.size → tagC tag w.heap.size k = tag k from fun k h => tagC_lt h)
 have KR := hid kr
 have BT := hid bt
 have HLB := hid hlb
 clear bt0 bt kr hlb
 generalize tagC tag w.heap.size = tg at *
 have hr2 := hp.ram
 have hrl : (p.ram.length : Int) ≤ 1000 := by omega
 have hz2 : (zs.length : Int) ≤ 16 := by omega
 have HI := hid hI
 have HG := hid hg
 have HF := hid hf
 obtain ⟨a, ea⟩ : ∃ a, f * 16 = a := ⟨_, rfl⟩
 have EA := hid ea
 rw [ea]
 have ha2 : a + 2 * zs.length ≤ p.ram.length := by omega
 have fa : (f : Int) * 16 = (a : Int) := by omega
 have FA := hid fa
 obtain ⟨g0, cap0, e0⟩ : ∃ g0 cap0, V 0 = .slice (some ⟨g0, 0, none⟩) p.ram.length cap0 := BT.out.o.ram.form (show 0 < p.ram.length from HP0)
 have E0 := hid e0
 have R0 := hid (fun W q (h : BoxT W wb tg V q) => show W.cell? ⟨wb, 0, none⟩ = some (.slice (some ⟨g0, 0, none⟩) p.ram.length cap0) from by have := range_cell h.r (k := 0) rfl; rw [e0] at this; exact this)
 have hfa : (f : Int) * 16 ≤ 1000 := by omega
 clear hI hg hf ea fa e0
 go_enter Tryz.func16, Tryz.ntmps16
 go_wp2_with fail
 go_loopw [6] (fun i wr => ∃ k : Nat, k ≤ zs.length ∧ i = .int .i64 (k : Int) ∧ Hid (BoxT wr wb tg V { p with ram := cdN p.ram a zs k }) ∧ Hid (Kt tg tg w wr)) (fun i _ => zs.length - (intOf i).toNat)
 case atStart => exact ⟨0, by omega, rfl, BT, hid (Kt.refl _ _)⟩
 case round =>
  obtain ⟨k, hk, rfl, BX0, KT0⟩ := hrel
  by_cases hlt : k < zs.length
  rotate_left
  ·obtain rfl : k = zs.length := by omega
   have hge : ¬ ((zs.length : Int) < (zs.length : Int)) := by omega
   go_wp2_with fail
   exact bodyPost_end (results_none rfl _ _ _) rfl ⟨rfl, tg, BX0.out, KR.out.trans KT0.out⟩
  have hlt2 : (k : Int) < (zs.length : Int) := by omega
  have TL := hid (show tg lb = 0 from by rw [LT.out lb (World.block_lt_of_cell? _ _ (HI.out k hlt).1)]; exact HLB.out)
  have x0 := KT0.out.cell (HI.out k hlt).1 TL.out
  have x1 := KT0.out.cell (HI.out k hlt).2.1 TL.out
  have x2 := KT0.out.cell (HI.out k hlt).2.2.1 TL.out
  have x3 := KT0.out.cell (HI.out k hlt).2.2.2 TL.out
  rw [Nat.zero_add] at x0 x1 x2 x3
  have GQ := hid (HG.out zs[k] (List.getElem_mem hlt))
  have QD := hid (show zs.getD k (0, 0, 0, 0) = zs[k] by rw [List.getD_eq_getElem?_getD, List.getElem?_eq_getElem hlt]; rfl)
  generalize zs[k] = q at *
  go_wp2_with fail
  refine (codeOf_good q wr GQ.out).mono ?_
  rintro r w2 ⟨rfl, hb⟩
  have BX1 := hid (BX0.out.below hb)
  have KT1 := hid (KT0.out.trans (Kt.below (tag := tg) hb))
  have GE := hid (show w.heap.size ≤ w2.heap.size from KT1.out.k.size)
  clear hb x0 x1 x2 x3 BX0 KT0
  have NB := hid (show (w2.alloc (.cells #[.int .i64 (q0 q), .int .i64 (q1 q)] 86)).cell? ⟨w2.heap.size, 0, none⟩ = some (.int .i64 (q0 q)) ∧ (w2.alloc (.cells #[.int .i64 (q0 q), .int .i64 (q1 q)] 86)).cell? ⟨w2.heap.size, 1, none⟩ = some (.int .i64 (q1 q)) from ⟨by rw [cells_new]; rfl, by rw [cells_new]; rfl⟩)
  have BA := hid (show Below w2.heap.size w2 (w2.alloc (.cells #[.int .i64 (q0 q), .int .i64 (q1 q)] 86)) from bal (Below.refl _ _) _)
  have TB := hid (TN.out w2.heap.size GE.out)
  have BX2 := hid (BX1.out.below BA.out)
  have KT2 := hid (KT1.out.trans (Kt.below (tag := tg) BA.out))
  have ln2 : (cdN p.ram a zs k).length = p.ram.length := cdN_len _ _ _ _
  have LN2 := hid ln2
  clear BX1 KT1 BA ln2
  go_upto_region 4 with fail
  generalize w2.alloc _ = w3 at NB BX2 KT2 ⊢
  generalize w2.heap.size = nb at NB TB ⊢
  have BD : Hid (Below w3.heap.size w3 w3.drew) := hid (below_drew w3 1)
  have BI := hid (BX2.out.below BD.out)
  have KI := hid (KT2.out.trans (Kt.below (tag := tg) BD.out))
  have NI := hid (show w3.drew.cell? ⟨nb, 0, none⟩ = some (.int .i64 (q0 q)) ∧ w3.drew.cell? ⟨nb, 1, none⟩ = some (.int .i64 (q1 q)) from ⟨cupx BD.out NB.out.1, cupx BD.out NB.out.2⟩)
  obtain ⟨d, ed⟩ : ∃ d, a + 2 * k = d := ⟨_, rfl⟩
  have hd : (d : Int) < (p.ram.length : Int) := by omega
  have di : (f : Int) * 16 + 2 * (k : Int) = (d : Int) := by have := FA.out; omega
  have DI := hid di
  have ED := hid ed
  have TP := hid (BI.out.ramCell (g := g0) (cap := cap0) (by rw [show ({ p with ram := (cdN p.ram a zs k) } : PW).ram.length = p.ram.length from LN2.out]; exact E0.out) d (q0 q))
  have I2 := BI.out.o.ram
  rw [E0.out, show ({ p with ram := (cdN p.ram a zs k) } : PW).ram.length = p.ram.length from LN2.out] at I2
  have HU := hid (Option.isSome_iff_exists.1 (I2.there d 1 (by omega) 0 (by omega)).1)
  have FZ := hid (I2.frozen d)
  clear I2 di ed
  skip
  refine Rf.wp_region_H (R := fun W => W.cell? ⟨wb, 0, none⟩ = some (.slice (some ⟨g0, 0, none⟩) p.ram.length cap0) ∧ W.cell? ⟨nb, 0, none⟩ = some (.int .i64 (q0 q)) ∧ W.cell? ⟨nb, 1, none⟩ = some (.int .i64 (q1 q))) [12] [0, 1, 2, 3, 4, 5, 6, 7, 8, 9, 10] 2 (by kernel_rfl) ⟨R0.out _ _ BI.out, NI.out⟩ (by kernel_rfl) (by kernel_rfl) (by kernel_rfl) (fun _ => ?_)
  repeat (refine Rf.rd_st rfl (by rfl) (fun _ _ _ _ h => h) ?_; apply Exists.intro; refine ⟨fun W h => ?_, ?_⟩; (focus (obtain ⟨h1, h2, h3⟩ := h; go_simp; try rfl)); simp only [jj])
  refine Rf.rd_nil ?_
  try simp only [show IntKind.i64.wrap ((f : Int) * 16) = (f : Int) * 16 from wraps_i64 _ (by omega) (by omega), show IntKind.i64.wrap (2 * (k : Int)) = 2 * (k : Int) from wraps_i64 _ (by omega) (by omega), show IntKind.i64.wrap ((f : Int) * 16 + 2 * (k : Int)) = (f : Int) * 16 + 2 * (k : Int) from wraps_i64 _ (by omega) (by omega)]
  rw [DI.out]
  refine Rf.wpAnyF_groupS (R := fun W => W.cell? ⟨wb, 0, none⟩ = some (.slice (some ⟨g0, 0, none⟩) p.ram.length cap0) ∧ W.cell? ⟨nb, 0, none⟩ = some (.int .i64 (q0 q)) ∧ W.cell? ⟨nb, 1, none⟩ = some (.int .i64 (q1 q))) (by kernel_rfl) _ ⟨R0.out _ _ BI.out, NI.out⟩ [11] 1 _ _ (by kernel_rfl) ?_
  repeat (refine Rf.rd_st rfl (by rfl) (fun _ _ _ _ h => h) ?_; apply Exists.intro; refine ⟨fun W h => ?_, ?_⟩; (focus (clear h; go_simp; try rfl)); simp only [jj])
  refine Rf.rd_nil ?_
  obtain ⟨u, hu⟩ := HU.out
  rw [Nat.add_zero] at hu
  have fz := FZ.out
  have BY := hid TP.out.1
  have KY := hid (KI.out.trans TP.out.2)
  have NY := hid (show (w3.drew.setCell ⟨g0, d, none⟩ (.int .i64 (q0 q))).cell? ⟨nb, 0, none⟩ = some (.int .i64 (q0 q)) ∧ (w3.drew.setCell ⟨g0, d, none⟩ (.int .i64 (q0 q))).cell? ⟨nb, 1, none⟩ = some (.int .i64 (q1 q)) from ⟨TP.out.2.cell NI.out.1 TB.out, TP.out.2.cell NI.out.2 TB.out⟩)
  have LY := hid (show ((cdN p.ram a zs k).set d (q0 q)).length = p.ram.length by rw [List.length_set]; exact LN2.out)
  clear TP BI KI NI BX2 KT2 LN2 BD NB HU FZ
  generalize w3.drew = v5 at *
  refine Rf.wpAnyF_ready (rs := [12]) (by kernel_rfl) (by simp) (Rf.AllReadyF.cons rfl (fun K hK => ?_) Rf.AllReadyF.nil)
  refine wnt (by rfl) ?_
  go_simp
  refine hK.out _ _ trivial (Rf.notClean (by kernel_rfl)) (fun _ _ => ?_)
  clear hK K hu fz u
  try simp only [jj]
  refine Rf.wpAnyF_done (by kernel_rfl) ?_ _
  generalize v5.setCell ⟨g0, d, none⟩ _ = y3 at BY KY NY ⊢
  have BX3 := BY
  have KT3 := KY
  have LN3 := LY
  have NB := NY
  have ED3 := ED
  clear BY KY LY NY ED hd
  generalize d = d3 at *
  clear DI
  have BD : Hid (Below y3.heap.size y3 y3.drew) := hid (below_drew y3 1)
  have BI := hid (BX3.out.below BD.out)
  have KI := hid (KT3.out.trans (Kt.below (tag := tg) BD.out))
  have NI := hid (show y3.drew.cell? ⟨nb, 0, none⟩ = some (.int .i64 (q0 q)) ∧ y3.drew.cell? ⟨nb, 1, none⟩ = some (.int .i64 (q1 q)) from ⟨cupx BD.out NB.out.1, cupx BD.out NB.out.2⟩)
  obtain ⟨d, ed⟩ : ∃ d, a + 2 * k + 1 = d := ⟨_, rfl⟩
  have hd : (d : Int) < (p.ram.length : Int) := by omega
  have di : (f : Int) * 16 + 2 * (k : Int) + 1 = (d : Int) := by have := FA.out; omega
  have DI := hid di
  have ED := hid ed
  have TP := hid (BI.out.ramCell (g := g0) (cap := cap0) (by rw [show ({ p with ram := ((cdN p.ram a zs k).set d3 (q0 q)) } : PW).ram.length = p.ram.length from LN3.out]; exact E0.out) d (q1 q))
  have I2 := BI.out.o.ram
  rw [E0.out, show ({ p with ram := ((cdN p.ram a zs k).set d3 (q0 q)) } : PW).ram.length = p.ram.length from LN3.out] at I2
  have HU := hid (Option.isSome_iff_exists.1 (I2.there d 1 (by omega) 0 (by omega)).1)
  have FZ := hid (I2.frozen d)
  clear I2 di ed
  go_upto_region 5 with fail
  refine Rf.wp_region_H (R := fun W => W.cell? ⟨wb, 0, none⟩ = some (.slice (some ⟨g0, 0, none⟩) p.ram.length cap0) ∧ W.cell? ⟨nb, 0, none⟩ = some (.int .i64 (q0 q)) ∧ W.cell? ⟨nb, 1, none⟩ = some (.int .i64 (q1 q))) [13] [0, 1, 2, 3, 4, 5, 6, 7, 8, 9, 10, 11] 2 (by kernel_rfl) ⟨R0.out _ _ BI.out, NI.out⟩ (by kernel_rfl) (by kernel_rfl) (by kernel_rfl) (fun _ => ?_)
  repeat (refine Rf.rd_st rfl (by rfl) (fun _ _ _ _ h => h) ?_; apply Exists.intro; refine ⟨fun W h => ?_, ?_⟩; (focus (obtain ⟨h1, h2, h3⟩ := h; go_simp; try rfl)); simp only [jj])
  refine Rf.rd_nil ?_
  try simp only [show IntKind.i64.wrap ((f : Int) * 16) = (f : Int) * 16 from wraps_i64 _ (by omega) (by omega), show IntKind.i64.wrap (2 * (k : Int)) = 2 * (k : Int) from wraps_i64 _ (by omega) (by omega), show IntKind.i64.wrap ((f : Int) * 16 + 2 * (k : Int)) = (f : Int) * 16 + 2 * (k : Int) from wraps_i64 _ (by omega) (by omega), show IntKind.i64.wrap ((f : Int) * 16 + 2 * (k : Int) + 1) = (f : Int) * 16 + 2 * (k : Int) + 1 from wraps_i64 _ (by omega) (by omega)]
  rw [DI.out]
  refine Rf.wpAnyF_groupS (R := fun W => W.cell? ⟨wb, 0, none⟩ = some (.slice (some ⟨g0, 0, none⟩) p.ram.length cap0) ∧ W.cell? ⟨nb, 0, none⟩ = some (.int .i64 (q0 q)) ∧ W.cell? ⟨nb, 1, none⟩ = some (.int .i64 (q1 q))) (by kernel_rfl) _ ⟨R0.out _ _ BI.out, NI.out⟩ [12] 1 _ _ (by kernel_rfl) ?_
  repeat (refine Rf.rd_st rfl (by rfl) (fun _ _ _ _ h => h) ?_; apply Exists.intro; refine ⟨fun W h => ?_, ?_⟩; (focus (clear h; go_simp; try rfl)); simp only [jj])
  refine Rf.rd_nil ?_
  obtain ⟨u, hu⟩ := HU.out
  rw [Nat.add_zero] at hu
  have fz := FZ.out
  have BY := hid TP.out.1
  have KY := hid (KI.out.trans TP.out.2)
  have NY := hid (show (y3.drew.setCell ⟨g0, d, none⟩ (.int .i64 (q1 q))).cell? ⟨nb, 0, none⟩ = some (.int .i64 (q0 q)) ∧ (y3.drew.setCell ⟨g0, d, none⟩ (.int .i64 (q1 q))).cell? ⟨nb, 1, none⟩ = some (.int .i64 (q1 q)) from ⟨TP.out.2.cell NI.out.1 TB.out, TP.out.2.cell NI.out.2 TB.out⟩)
  have LY := hid (show (((cdN p.ram a zs k).set d3 (q0 q)).set d (q1 q)).length = p.ram.length by rw [List.length_set]; exact LN3.out)
  clear TP BI KI NI BX3 KT3 LN3 BD NB HU FZ
  generalize y3.drew = v5 at *
  refine Rf.wpAnyF_ready (rs := [13]) (by kernel_rfl) (by simp) (Rf.AllReadyF.cons rfl (fun K hK => ?_) Rf.AllReadyF.nil)
  refine wnt (by rfl) ?_
  go_simp
  refine hK.out _ _ trivial (Rf.notClean (by kernel_rfl)) (fun _ _ => ?_)
  clear hK K hu fz u
  try simp only [jj]
  refine Rf.wpAnyF_done (by kernel_rfl) ?_ _
  generalize v5.setCell ⟨g0, d, none⟩ _ = y4 at BY KY NY ⊢
  have BX4 := BY
  have KT4 := KY
  have LN4 := LY
  have NB := NY
  have ED4 := ED
  clear BY KY LY NY ED hd
  generalize d = d4 at *
  clear DI
  go_wp2_with fail
  have FIN := hid (show cdN p.ram a zs (k + 1) = ((cdN p.ram a zs k).set d3 (q0 q)).set d4 (q1 q) from by rw [cdN, QD.out, ED4.out, ED3.out])
  exact ⟨⟨k + 1, by omega, by go_num, hid (by rw [FIN.out]; exact BX4.out), KT4⟩, by simp [intOf]; omega⟩
end Go.Proofs.YtakmaeohhclngaaGreatDoor.Wd
namespace Go.Proofs.YtakmaeohhclngaaGreatDoor.Wd
def oneQ1 : PW := wlP 24 2 [0]
def oneQ2 : PW := { oneQ1 with slots := oneQ1.slots.set 1 (clk 1 20) }
def oneQ3 : PW := mkP oneQ2 1 (2 + ((3 : Nat) : Int)) 1 2
def oneQ4 : PW := mkP oneQ3 1 (2 + ((2 : Nat) : Int)) 1 3
def oneQ5 : PW := mkP oneQ4 1 (2 + ((1 : Nat) : Int)) 1 4
def oneQ6 : PW := mkP oneQ5 1 (2 + ((0 : Nat) : Int)) 4 5
def oneQ7 : PW := mkP oneQ6 1 (2 + ((4 : Nat) : Int)) 2 9
def oneQ8 : PW := mkP oneQ7 1 (2 + ((5 : Nat) : Int)) 1 11
def oneQ9 : PW := mkP oneQ8 1 (2 + ((6 : Nat) : Int)) 1 12
def oneQ10 : PW := { oneQ9 with slots := oneQ9.slots.set 16 (kpS (oneQ9.slots.getD 11 nkey) (Bw.bw 6 ((oneQ9.slots.getD 11 nkey) 4).toNat 7 : Nat) 5 11) }
def oneQ11 : PW := { oneQ10 with slots := oneQ10.slots.set 17 (kpS (oneQ10.slots.getD 12 nkey) (Bw.bw 6 ((oneQ10.slots.getD 12 nkey) 4).toNat 7 : Nat) 2 12) }
def oneQ12 : PW := { oneQ11 with slots := oneQ11.slots.set 18 (kpS (oneQ11.slots.getD 10 nkey) (Bw.bw 6 ((oneQ11.slots.getD 10 nkey) 4).toNat 7 : Nat) 0 10) }
def oneQ13 : PW := { oneQ12 with slots := oneQ12.slots.set 19 (kpS (oneQ12.slots.getD 7 nkey) (Bw.bw 6 ((oneQ12.slots.getD 7 nkey) 4).toNat 3 : Nat) 0 7) }
def oneQ14 : PW := { oneQ13 with slots := oneQ13.slots.set 20 (kpS (oneQ13.slots.getD 3 nkey) (Bw.bw 6 ((oneQ13.slots.getD 3 nkey) 4).toNat 7 : Nat) 0 3) }
def oneQ15 : PW := { oneQ14 with slots := oneQ14.slots.set 21 (kpS (oneQ14.slots.getD 4 nkey) (Bw.bw 6 ((oneQ14.slots.getD 4 nkey) 4).toNat 7 : Nat) 0 4) }
def oneQ16 : PW := { oneQ15 with slots := oneQ15.slots.set 22 (kpS (oneQ15.slots.getD 2 nkey) (Bw.bw 6 ((oneQ15.slots.getD 2 nkey) 4).toNat 7 : Nat) 0 2) }
def oneQ17 : PW := { oneQ16 with slots := oneQ16.slots.set 23 (kpS (oneQ16.slots.getD 9 nkey) (Bw.bw 6 ((oneQ16.slots.getD 9 nkey) 4).toNat 6 : Nat) 0 9) }
def oneQ18 : PW := { oneQ17 with ram := oneQ17.ram.set (2 * 16 + 0 / 16) (32768 + ((3 : Nat) : Int)) }
def oneQ19 : PW := { oneQ18 with ram := oneQ18.ram.set ((oneQ18.ram.getD (2 * 16 + 0 / 16) 0).toNat % 1024 * 16 + 0 % 16) (32768 + ((0 : Nat) : Int) * 16384 + ((4 : Nat) : Int)) }
def oneQ20 : PW := { oneQ19 with ram := oneQ19.ram.set ((oneQ19.ram.getD (2 * 16 + 1 / 16) 0).toNat % 1024 * 16 + 1 % 16) (32768 + ((0 : Nat) : Int) * 16384 + ((5 : Nat) : Int)) }
def oneQ21 : PW := { oneQ20 with ram := oneQ20.ram.set ((oneQ20.ram.getD (2 * 16 + 2 / 16) 0).toNat % 1024 * 16 + 2 % 16) (32768 + ((1 : Nat) : Int) * 16384 + ((6 : Nat) : Int)) }
def oneQ22 : PW := eqP oneQ21 8 (fun k => [0, 0, 2, (-1), 0, 1, 0].getD k 0)
def oneQ23 : PW := eqP oneQ22 9 (fun k => [0, 1, 2, 10, 1, 2, 0].getD k 0)
/-- The whole. -/
def oneQ : PW := oneQ23
theorem oneP_eq : oneP = oneQ := by kernel_rfl
end Go.Proofs.YtakmaeohhclngaaGreatDoor.Wd
