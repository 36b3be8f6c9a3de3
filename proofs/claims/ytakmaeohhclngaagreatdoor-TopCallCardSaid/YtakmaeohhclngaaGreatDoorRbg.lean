/- Instructions are put into a world's words: keyholdref.CodeOf, code; walked. · The world of 'one', plain, step by step (what computing its lines comes to). · The rest of GLv: what few laws reach. -/
import Derived.Test.YtakmaeohhclngaaGreatDoorRbf
import Derived.Test.YtakmaeohhclngaaGreatDoorRaz
namespace Go.Proofs.YtakmaeohhclngaaGreatDoor.Wd
open Go.RowKit Go.Proofs.YtakmaeohhclngaaGreatDoor.Mem Go.Proofs.YtakmaeohhclngaaGreatDoor.Bw Go.Proofs.YtakmaeohhclngaaGreatDoor.Nums Go.Proofs.YtakmaeohhclngaaGreatDoor.Mmu Go.Proofs.YtakmaeohhclngaaGreatDoor.Hex Go.Proofs.YtakmaeohhclngaaGreatDoor.Mad
/-- The two words of an instruction. -/
def q0 (q : Int × Int × Int × Int) : Int := q.1 * 256 + q.2.1 * 16 + q.2.2.1
def q1 (q : Int × Int × Int × Int) : Int := q.2.2.2
theorem q_range {q : Int × Int × Int × Int} (h : GoodQ q) : (0 ≤ q0 q ∧ q0 q ≤ 65535) ∧ 0 ≤ q1 q ∧ q1 q ≤ 65535 := by
 obtain ⟨h1, h2, h3, h4⟩ := h
 unfold q0 q1
 omega
set_option maxHeartbeats 1000000 in
theorem codeOf_good (q : Int × Int × Int × Int) (w : World) (h : GoodQ q) :
  Calls Tryz.prog 47 #[.agg #[.int .i64 q.1, .int .i64 q.2.1, .int .i64 q.2.2.1, .int .i64 q.2.2.2]] w fun e w' => e = .returned (.agg #[.int .i64 (q0 q), .int .i64 (q1 q)]) ∧ Below w.heap.size w w' := by
 obtain ⟨o, a, b, i⟩ := q
 obtain ⟨⟨o0, o1⟩, ⟨a0, a1⟩, ⟨b0, b1⟩, i0, i1⟩ := h
 simp only at o0 o1 a0 a1 b0 b1 i0 i1 ⊢
 have hi : ¬ i < 0 := by omega
 have e1 : IntKind.i64.wrap (o * 256) = o * 256 := wraps_i64 _ (by omega) (by omega)
 have e2 : IntKind.i64.wrap (a * 16) = a * 16 := wraps_i64 _ (by omega) (by omega)
 have e3 : IntKind.i64.wrap (o * 256 + a * 16) = o * 256 + a * 16 := wraps_i64 _ (by omega) (by omega)
 have e4 : IntKind.i64.wrap (o * 256 + a * 16 + b) = o * 256 + a * 16 + b := wraps_i64 _ (by omega) (by omega)
 go_enter Tryz.func47, Tryz.ntmps47
 go_wp2
 exact bodyPost_ret (v := .agg #[.int .i64 (o * 256 + a * 16 + b), .int .i64 i]) (by simp [results, Tryz.results47, go_sem]) rfl ⟨rfl, bal (bal (Below.refl _ _) _) _⟩
/-- So many instructions from a place on. -/
def cdN (ram : List Int) (a : Nat) (zs : List (Int × Int × Int × Int)) : Nat → List Int
 | 0 => ram
 | k + 1 => ((cdN ram a zs k).set (a + 2 * k) (q0 (zs.getD k (0, 0, 0, 0)))).set (a + 2 * k + 1) (q1 (zs.getD k (0, 0, 0, 0)))
theorem cdN_len (ram : List Int) (a : Nat) (zs : List (Int × Int × Int × Int)) : ∀ k, (cdN ram a zs k).length = ram.length
 | 0 => rfl
 | k + 1 => by rw [cdN, List.length_set, List.length_set, cdN_len ram a zs k]
set_option maxRecDepth 100000 in
set_option maxHeartbeats 16000000 in
theorem code_ref (wb : Nat) (tag : Nat → Nat) (V : Nat → Value) (p : PW) (f lb lc : Nat) (zs : List (Int × Int × Int × Int)) (w : World) (bt0 : BoxT w wb tag V p) (hp : p.Fits) (hI : InsAt w lb 0 zs) (hlb : tag lb = 0) (hz : zs.length ≤ 16) (hg : ∀ q ∈ zs, GoodQ q) (hf : f * 16 + 2 * zs.length ≤ p.ram.length) (HP0 : 0 < p.ram.length) :
  Calls Tryz.prog 16 #[.pointer (some ⟨wb, 0, none⟩), .int .i64 f, .slice (some ⟨lb, 0, none⟩) zs.length lc] w fun r w' => r = .returned (.tuple #[]) ∧ ∃ tag', BoxT w' wb tag' V { p with ram := cdN p.ram (f * 16) zs zs.length } ∧ Kt tag tag' w w' := by
 obtain ⟨bt, kr⟩ := retagC bt0
 have TN := hid (fun x (h : w.heap.size ≤ x) => tagC_ge (tag := tag) h)
 have LT := hid (show ∀ k, k < w.heap.size → tagC tag w.heap.size k = tag k from fun k h => tagC_lt h)
 have KR := hid kr
 have BT := hid bt
 have HLB := hid hlb
 clear bt0 bt kr hlb
 generalize tagC tag w.heap.size = tg at *
 have hr2 := hp.ram
 have hrl : (p.ram.length : Int) ≤ 1000 := by omega
 have hz2 : (zs.length : Int) ≤ 16 := by omega
 have HI := hid hI
 have HG := hid hg
 have HF := hid hf
 obtain ⟨a, ea⟩ : ∃ a, f * 16 = a := ⟨_, rfl⟩
 have EA := hid ea
 rw [ea]
 have ha2 : a + 2 * zs.length ≤ p.ram.length := by omega
 have fa : (f : Int) * 16 = (a : Int) := by omega
 have FA := hid fa
 obtain ⟨g0, cap0, e0⟩ : ∃ g0 cap0, V 0 = .slice (some ⟨g0, 0, none⟩) p.ram.length cap0 := BT.out.o.ram.form (show 0 < p.ram.length from HP0)
 have E0 := hid e0
 have R0 := hid (fun W q (h : BoxT W wb tg V q) => show W.cell? ⟨wb, 0, none⟩ = some (.slice (some ⟨g0, 0, none⟩) p.ram.length cap0) from by have := range_cell h.r (k := 0) rfl; rw [e0] at this; exact this)
 have hfa : (f : Int) * 16 ≤ 1000 := by omega
 clear hI hg hf ea fa e0
 go_enter Tryz.func16, Tryz.ntmps16
 go_wp2_with fail
 go_loopw [6] (fun i wr => ∃ k : Nat, k ≤ zs.length ∧ i = .int .i64 (k : Int) ∧ Hid (BoxT wr wb tg V { p with ram := cdN p.ram a zs k }) ∧ Hid (Kt tg tg w wr)) (fun i _ => zs.length - (intOf i).toNat)
 case atStart => exact ⟨0, by omega, rfl, BT, hid (Kt.refl _ _)⟩
 case round =>
  obtain ⟨k, hk, rfl, BX0, KT0⟩ := hrel
  by_cases hlt : k < zs.length
  rotate_left
  ·obtain rfl : k = zs.length := by omega
   have hge : ¬ ((zs.length : Int) < (zs.length : Int)) := by omega
   go_wp2_with fail
   exact bodyPost_end (results_none rfl _ _ _) rfl ⟨rfl, tg, BX0.out, KR.out.trans KT0.out⟩
  have hlt2 : (k : Int) < (zs.length : Int) := by omega
  have TL := hid (show tg lb = 0 from by rw [LT.out lb (World.block_lt_of_cell? _ _ (HI.out k hlt).1)]; exact HLB.out)
  have x0 := KT0.out.cell (HI.out k hlt).1 TL.out
  have x1 := KT0.out.cell (HI.out k hlt).2.1 TL.out
  have x2 := KT0.out.cell (HI.out k hlt).2.2.1 TL.out
  have x3 := KT0.out.cell (HI.out k hlt).2.2.2 TL.out
  rw [Nat.zero_add] at x0 x1 x2 x3
  have GQ := hid (HG.out zs[k] (List.getElem_mem hlt))
  have QD := hid (show zs.getD k (0, 0, 0, 0) = zs[k] by rw [List.getD_eq_getElem?_getD, List.getElem?_eq_getElem hlt]; rfl)
  generalize zs[k] = q at *
  go_wp2_with fail
  refine (codeOf_good q wr GQ.out).mono ?_
  rintro r w2 ⟨rfl, hb⟩
  have BX1 := hid (BX0.out.below hb)
  have KT1 := hid (KT0.out.trans (Kt.below (tag := tg) hb))
  have GE := hid (show w.heap.size ≤ w2.heap.size from KT1.out.k.size)
  clear hb x0 x1 x2 x3 BX0 KT0
  have NB := hid (show (w2.alloc (.cells #[.int .i64 (q0 q), .int .i64 (q1 q)] 86)).cell? ⟨w2.heap.size, 0, none⟩ = some (.int .i64 (q0 q)) ∧ (w2.alloc (.cells #[.int .i64 (q0 q), .int .i64 (q1 q)] 86)).cell? ⟨w2.heap.size, 1, none⟩ = some (.int .i64 (q1 q)) from ⟨by rw [cells_new]; rfl, by rw [cells_new]; rfl⟩)
  have BA := hid (show Below w2.heap.size w2 (w2.alloc (.cells #[.int .i64 (q0 q), .int .i64 (q1 q)] 86)) from bal (Below.refl _ _) _)
  have TB := hid (TN.out w2.heap.size GE.out)
  have BX2 := hid (BX1.out.below BA.out)
  have KT2 := hid (KT1.out.trans (Kt.below (tag := tg) BA.out))
  have ln2 : (cdN p.ram a zs k).length = p.ram.length := cdN_len _ _ _ _
  have LN2 := hid ln2
  clear BX1 KT1 BA ln2
  go_upto_region 4 with fail
  generalize w2.alloc _ = w3 at NB BX2 KT2 ⊢
  generalize w2.heap.size = nb at NB TB ⊢
  have BD : Hid (Below w3.heap.size w3 w3.drew) := hid (below_drew w3 1)
  have BI := hid (BX2.out.below BD.out)
  have KI := hid (KT2.out.trans (Kt.below (tag := tg) BD.out))
  have NI := hid (show w3.drew.cell? ⟨nb, 0, none⟩ = some (.int .i64 (q0 q)) ∧ w3.drew.cell? ⟨nb, 1, none⟩ = some (.int .i64 (q1 q)) from ⟨cupx BD.out NB.out.1, cupx BD.out NB.out.2⟩)
  obtain ⟨d, ed⟩ : ∃ d, a + 2 * k = d := ⟨_, rfl⟩
  have hd : (d : Int) < (p.ram.length : Int) := by omega
  have di : (f : Int) * 16 + 2 * (k : Int) = (d : Int) := by have := FA.out; omega
  have DI := hid di
  have ED := hid ed
  have TP := hid (BI.out.ramCell (g := g0) (cap := cap0) (by rw [show ({ p with ram := (cdN p.ram a zs k) } : PW).ram.length = p.ram.length from LN2.out]; exact E0.out) d (q0 q))
  have I2 := BI.out.o.ram
  rw [E0.out, show ({ p with ram := (cdN p.ram a zs k) } : PW).ram.length = p.ram.length from LN2.out] at I2
  have HU := hid (Option.isSome_iff_exists.1 (I2.there d 1 (by omega) 0 (by omega)).1)
  have FZ := hid (I2.frozen d)
  clear I2 di ed
  skip
  refine Rf.wp_region_H (R := fun W => W.cell? ⟨wb, 0, none⟩ = some (.slice (some ⟨g0, 0, none⟩) p.ram.length cap0) ∧ W.cell? ⟨nb, 0, none⟩ = some (.int .i64 (q0 q)) ∧ W.cell? ⟨nb, 1, none⟩ = some (.int .i64 (q1 q))) [12] [0, 1, 2, 3, 4, 5, 6, 7, 8, 9, 10] 2 (by kernel_rfl) ⟨R0.out _ _ BI.out, NI.out⟩ (by kernel_rfl) (by kernel_rfl) (by kernel_rfl) (fun _ => ?_)
  repeat (refine Rf.rd_st rfl (by rfl) (fun _ _ _ _ h => h) ?_; apply Exists.intro; refine ⟨fun W h => ?_, ?_⟩; (focus (obtain ⟨h1, h2, h3⟩ := h; go_simp; try rfl)); simp only [jj])
  refine Rf.rd_nil ?_
  try simp only [show IntKind.i64.wrap ((f : Int) * 16) = (f : Int) * 16 from wraps_i64 _ (by omega) (by omega), show IntKind.i64.wrap (2 * (k : Int)) = 2 * (k : Int) from wraps_i64 _ (by omega) (by omega), show IntKind.i64.wrap ((f : Int) * 16 + 2 * (k : Int)) = (f : Int) * 16 + 2 * (k : Int) from wraps_i64 _ (by omega) (by omega)]
  rw [DI.out]
  refine Rf.wpAnyF_groupS (R := fun W => W.cell? ⟨wb, 0, none⟩ = some (.slice (some ⟨g0, 0, none⟩) p.ram.length cap0) ∧ W.cell? ⟨nb, 0, none⟩ = some (.int .i64 (q0 q)) ∧ W.cell? ⟨nb, 1, none⟩ = some (.int .i64 (q1 q))) (by kernel_rfl) _ ⟨R0.out _ _ BI.out, NI.out⟩ [11] 1 _ _ (by kernel_rfl) ?_
  repeat (refine Rf.rd_st rfl (by rfl) (fun _ _ _ _ h => h) ?_; apply Exists.intro; refine ⟨fun W h => ?_, ?_⟩; (focus (clear h; go_simp; try rfl)); simp only [jj])
  refine Rf.rd_nil ?_
  obtain ⟨u, hu⟩ := HU.out
  rw [Nat.add_zero] at hu
  have fz := FZ.out
  have BY := hid TP.out.1
  have KY := hid (KI.out.trans TP.out.2)
  have NY := hid (show (w3.drew.setCell ⟨g0, d, none⟩ (.int .i64 (q0 q))).cell? ⟨nb, 0, none⟩ = some (.int .i64 (q0 q)) ∧ (w3.drew.setCell ⟨g0, d, none⟩ (.int .i64 (q0 q))).cell? ⟨nb, 1, none⟩ = some (.int .i64 (q1 q)) from ⟨TP.out.2.cell NI.out.1 TB.out, TP.out.2.cell NI.out.2 TB.out⟩)
  have LY := hid (show ((cdN p.ram a zs k).set d (q0 q)).length = p.ram.length by rw [List.length_set]; exact LN2.out)
  clear TP BI KI NI BX2 KT2 LN2 BD NB HU FZ
  generalize w3.drew = v5 at *
  refine Rf.wpAnyF_ready (rs := [12]) (by kernel_rfl) (by simp) (Rf.AllReadyF.cons rfl (fun K hK => ?_) Rf.AllReadyF.nil)
  refine wnt (by rfl) ?_
  go_simp
  refine hK.out _ _ trivial (Rf.notClean (by kernel_rfl)) (fun _ _ => ?_)
  clear hK K hu fz u
  try simp only [jj]
  refine Rf.wpAnyF_done (by kernel_rfl) ?_ _
  generalize v5.setCell ⟨g0, d, none⟩ _ = y3 at BY KY NY ⊢
  have BX3 := BY
  have KT3 := KY
  have LN3 := LY
  have NB := NY
  have ED3 := ED
  clear BY KY LY NY ED hd
  generalize d = d3 at *
  clear DI
  have BD : Hid (Below y3.heap.size y3 y3.drew) := hid (below_drew y3 1)
  have BI := hid (BX3.out.below BD.out)
  have KI := hid (KT3.out.trans (Kt.below (tag := tg) BD.out))
  have NI := hid (show y3.drew.cell? ⟨nb, 0, none⟩ = some (.int .i64 (q0 q)) ∧ y3.drew.cell? ⟨nb, 1, none⟩ = some (.int .i64 (q1 q)) from ⟨cupx BD.out NB.out.1, cupx BD.out NB.out.2⟩)
  obtain ⟨d, ed⟩ : ∃ d, a + 2 * k + 1 = d := ⟨_, rfl⟩
  have hd : (d : Int) < (p.ram.length : Int) := by omega
  have di : (f : Int) * 16 + 2 * (k : Int) + 1 = (d : Int) := by have := FA.out; omega
  have DI := hid di
  have ED := hid ed
  have TP := hid (BI.out.ramCell (g := g0) (cap := cap0) (by rw [show ({ p with ram := ((cdN p.ram a zs k).set d3 (q0 q)) } : PW).ram.length = p.ram.length from LN3.out]; exact E0.out) d (q1 q))
  have I2 := BI.out.o.ram
  rw [E0.out, show ({ p with ram := ((cdN p.ram a zs k).set d3 (q0 q)) } : PW).ram.length = p.ram.length from LN3.out] at I2
  have HU := hid (Option.isSome_iff_exists.1 (I2.there d 1 (by omega) 0 (by omega)).1)
  have FZ := hid (I2.frozen d)
  clear I2 di ed
  go_upto_region 5 with fail
  refine Rf.wp_region_H (R := fun W => W.cell? ⟨wb, 0, none⟩ = some (.slice (some ⟨g0, 0, none⟩) p.ram.length cap0) ∧ W.cell? ⟨nb, 0, none⟩ = some (.int .i64 (q0 q)) ∧ W.cell? ⟨nb, 1, none⟩ = some (.int .i64 (q1 q))) [13] [0, 1, 2, 3, 4, 5, 6, 7, 8, 9, 10, 11] 2 (by kernel_rfl) ⟨R0.out _ _ BI.out, NI.out⟩ (by kernel_rfl) (by kernel_rfl) (by kernel_rfl) (fun _ => ?_)
  repeat (refine Rf.rd_st rfl (by rfl) (fun _ _ _ _ h => h) ?_; apply Exists.intro; refine ⟨fun W h => ?_, ?_⟩; (focus (obtain ⟨h1, h2, h3⟩ := h; go_simp; try rfl)); simp only [jj])
  refine Rf.rd_nil ?_
  try simp only [show IntKind.i64.wrap ((f : Int) * 16) = (f : Int) * 16 from wraps_i64 _ (by omega) (by omega), show IntKind.i64.wrap (2 * (k : Int)) = 2 * (k : Int) from wraps_i64 _ (by omega) (by omega), show IntKind.i64.wrap ((f : Int) * 16 + 2 * (k : Int)) = (f : Int) * 16 + 2 * (k : Int) from wraps_i64 _ (by omega) (by omega), show IntKind.i64.wrap ((f : Int) * 16 + 2 * (k : Int) + 1) = (f : Int) * 16 + 2 * (k : Int) + 1 from wraps_i64 _ (by omega) (by omega)]
  rw [DI.out]
  refine Rf.wpAnyF_groupS (R := fun W => W.cell? ⟨wb, 0, none⟩ = some (.slice (some ⟨g0, 0, none⟩) p.ram.length cap0) ∧ W.cell? ⟨nb, 0, none⟩ = some (.int .i64 (q0 q)) ∧ W.cell? ⟨nb, 1, none⟩ = some (.int .i64 (q1 q))) (by kernel_rfl) _ ⟨R0.out _ _ BI.out, NI.out⟩ [12] 1 _ _ (by kernel_rfl) ?_
  repeat (refine Rf.rd_st rfl (by rfl) (fun _ _ _ _ h => h) ?_; apply Exists.intro; refine ⟨fun W h => ?_, ?_⟩; (focus (clear h; go_simp; try rfl)); simp only [jj])
  refine Rf.rd_nil ?_
  obtain ⟨u, hu⟩ := HU.out
  rw [Nat.add_zero] at hu
  have fz := FZ.out
  have BY := hid TP.out.1
  have KY := hid (KI.out.trans TP.out.2)
  have NY := hid (show (y3.drew.setCell ⟨g0, d, none⟩ (.int .i64 (q1 q))).cell? ⟨nb, 0, none⟩ = some (.int .i64 (q0 q)) ∧ (y3.drew.setCell ⟨g0, d, none⟩ (.int .i64 (q1 q))).cell? ⟨nb, 1, none⟩ = some (.int .i64 (q1 q)) from ⟨TP.out.2.cell NI.out.1 TB.out, TP.out.2.cell NI.out.2 TB.out⟩)
  have LY := hid (show (((cdN p.ram a zs k).set d3 (q0 q)).set d (q1 q)).length = p.ram.length by rw [List.length_set]; exact LN3.out)
  clear TP BI KI NI BX3 KT3 LN3 BD NB HU FZ
  generalize y3.drew = v5 at *
  refine Rf.wpAnyF_ready (rs := [13]) (by kernel_rfl) (by simp) (Rf.AllReadyF.cons rfl (fun K hK => ?_) Rf.AllReadyF.nil)
  refine wnt (by rfl) ?_
  go_simp
  refine hK.out _ _ trivial (Rf.notClean (by kernel_rfl)) (fun _ _ => ?_)
  clear hK K hu fz u
  try simp only [jj]
  refine Rf.wpAnyF_done (by kernel_rfl) ?_ _
  generalize v5.setCell ⟨g0, d, none⟩ _ = y4 at BY KY NY ⊢
  have BX4 := BY
  have KT4 := KY
  have LN4 := LY
  have NB := NY
  have ED4 := ED
  clear BY KY LY NY ED hd
  generalize d = d4 at *
  clear DI
  go_wp2_with fail
  have FIN := hid (show cdN p.ram a zs (k + 1) = ((cdN p.ram a zs k).set d3 (q0 q)).set d4 (q1 q) from by rw [cdN, QD.out, ED4.out, ED3.out])
  exact ⟨⟨k + 1, by omega, by go_num, hid (by rw [FIN.out]; exact BX4.out), KT4⟩, by simp [intOf]; omega⟩
end Go.Proofs.YtakmaeohhclngaaGreatDoor.Wd
namespace Go.Proofs.YtakmaeohhclngaaGreatDoor.Wd
def oneQ1 : PW := wlP 24 2 [0]
def oneQ2 : PW := { oneQ1 with slots := oneQ1.slots.set 1 (clk 1 20) }
def oneQ3 : PW := mkP oneQ2 1 (2 + ((3 : Nat) : Int)) 1 2
def oneQ4 : PW := mkP oneQ3 1 (2 + ((2 : Nat) : Int)) 1 3
def oneQ5 : PW := mkP oneQ4 1 (2 + ((1 : Nat) : Int)) 1 4
def oneQ6 : PW := mkP oneQ5 1 (2 + ((0 : Nat) : Int)) 4 5
def oneQ7 : PW := mkP oneQ6 1 (2 + ((4 : Nat) : Int)) 2 9
def oneQ8 : PW := mkP oneQ7 1 (2 + ((5 : Nat) : Int)) 1 11
def oneQ9 : PW := mkP oneQ8 1 (2 + ((6 : Nat) : Int)) 1 12
def oneQ10 : PW := { oneQ9 with slots := oneQ9.slots.set 16 (kpS (oneQ9.slots.getD 11 nkey) (Bw.bw 6 ((oneQ9.slots.getD 11 nkey) 4).toNat 7 : Nat) 5 11) }
def oneQ11 : PW := { oneQ10 with slots := oneQ10.slots.set 17 (kpS (oneQ10.slots.getD 12 nkey) (Bw.bw 6 ((oneQ10.slots.getD 12 nkey) 4).toNat 7 : Nat) 2 12) }
def oneQ12 : PW := { oneQ11 with slots := oneQ11.slots.set 18 (kpS (oneQ11.slots.getD 10 nkey) (Bw.bw 6 ((oneQ11.slots.getD 10 nkey) 4).toNat 7 : Nat) 0 10) }
def oneQ13 : PW := { oneQ12 with slots := oneQ12.slots.set 19 (kpS (oneQ12.slots.getD 7 nkey) (Bw.bw 6 ((oneQ12.slots.getD 7 nkey) 4).toNat 3 : Nat) 0 7) }
def oneQ14 : PW := { oneQ13 with slots := oneQ13.slots.set 20 (kpS (oneQ13.slots.getD 3 nkey) (Bw.bw 6 ((oneQ13.slots.getD 3 nkey) 4).toNat 7 : Nat) 0 3) }
def oneQ15 : PW := { oneQ14 with slots := oneQ14.slots.set 21 (kpS (oneQ14.slots.getD 4 nkey) (Bw.bw 6 ((oneQ14.slots.getD 4 nkey) 4).toNat 7 : Nat) 0 4) }
def oneQ16 : PW := { oneQ15 with slots := oneQ15.slots.set 22 (kpS (oneQ15.slots.getD 2 nkey) (Bw.bw 6 ((oneQ15.slots.getD 2 nkey) 4).toNat 7 : Nat) 0 2) }
def oneQ17 : PW := { oneQ16 with slots := oneQ16.slots.set 23 (kpS (oneQ16.slots.getD 9 nkey) (Bw.bw 6 ((oneQ16.slots.getD 9 nkey) 4).toNat 6 : Nat) 0 9) }
def oneQ18 : PW := { oneQ17 with ram := oneQ17.ram.set (2 * 16 + 0 / 16) (32768 + ((3 : Nat) : Int)) }
def oneQ19 : PW := { oneQ18 with ram := oneQ18.ram.set ((oneQ18.ram.getD (2 * 16 + 0 / 16) 0).toNat % 1024 * 16 + 0 % 16) (32768 + ((0 : Nat) : Int) * 16384 + ((4 : Nat) : Int)) }
def oneQ20 : PW := { oneQ19 with ram := oneQ19.ram.set ((oneQ19.ram.getD (2 * 16 + 1 / 16) 0).toNat % 1024 * 16 + 1 % 16) (32768 + ((0 : Nat) : Int) * 16384 + ((5 : Nat) : Int)) }
def oneQ21 : PW := { oneQ20 with ram := oneQ20.ram.set ((oneQ20.ram.getD (2 * 16 + 2 / 16) 0).toNat % 1024 * 16 + 2 % 16) (32768 + ((1 : Nat) : Int) * 16384 + ((6 : Nat) : Int)) }
def oneQ22 : PW := eqP oneQ21 8 (fun k => [0, 0, 2, (-1), 0, 1, 0].getD k 0)
def oneQ23 : PW := eqP oneQ22 9 (fun k => [0, 1, 2, 10, 1, 2, 0].getD k 0)
/-- The whole. -/
def oneQ : PW := oneQ23
theorem oneP_eq : oneP = oneQ := by kernel_rfl
end Go.Proofs.YtakmaeohhclngaaGreatDoor.Wd
namespace Go.Proofs.YtakmaeohhclngaaGreatDoor.Wd
open Go.RowKit Go.Proofs.YtakmaeohhclngaaGreatDoor.Mem Go.Proofs.YtakmaeohhclngaaGreatDoor.Bw Go.Proofs.YtakmaeohhclngaaGreatDoor.Nums Go.Proofs.YtakmaeohhclngaaGreatDoor.Mmu
section
variable {α : Type} {p : α → Bool} {l m : List α} {i j : Nat}
end
section
variable {α : Type} (f : α → α) (k : Nat) (l : List α)
end
/-- 'append' of one number onto a row of one's own. -/
theorem InT.push {w : World} {tag : Nat → Nat} {t : Nat} {u : Value} {zs : List Int} (h : InT w tag t 3 1 u (zs.length, ints zs)) (hl : zs.length ≤ 1000) {b : Nat} {x : Int} (hb : w.cell? ⟨b, 0, none⟩ = some (.int .i64 x)) (c : Nat) (ty : TypeId) :
  ∃ q cap w', (Builtin.append_ #[22, 22] ty #[u, .slice (some ⟨b, 0, none⟩) 1 c]).run Tryz.prog w = .ok (.slice q (zs.length + 1) cap) w' ∧ InT w' (tagN tag w.heap.size t) t 3 1 (.slice q (zs.length + 1) cap) ((zs ++ [x]).length, ints (zs ++ [x])) ∧ Kp (fun k => tag k = t) w w' := by
 obtain ⟨i, hi, hz, hs, hy⟩ := info_get infoI
 obtain ⟨v', w', hr, h2, h3, _, h5⟩ := run_append_own_at (P := Tryz.prog) w 0 22 ty 3 i (.int .i64 0) 1 8 Tryz.underlying22 hi hz hs hy rfl (by decide) u zs.length (ints zs) h.1 ⟨b, 0, none⟩ 1 c [.int .i64 x] rfl (fun j v hj => by
  match j, hj with
  | 0, hj => cases hj; exact hb
  | j + 1, hj => simp at hj) (int1 x) (by unfold maxLen; omega) (by omega) (Nat.zero_le _)
 obtain ⟨q, cap, rfl⟩ := own_form h2
 have e : ints zs ++ [Value.int .i64 x] = ints (zs ++ [x]) := by unfold ints; simp
 refine ⟨q, cap, w', hr, ⟨by rw [← e, List.length_append]; exact h2, fun k hk => ?_⟩, ⟨h3.os, h3.tape, h3.output, h3.size, fun k hk hn => h3.block k hk (fun e => hn (h.2 k e.symm))⟩⟩
 rcases h5 with h5 | h5
 ·rw [h5] at hk
  rw [tagN_lt (h.1.lt k hk).2]
  exact h.2 k hk
 ·rw [h5] at hk
  cases hk
  unfold tagN
  rw [if_neg (Nat.lt_irrefl _)]
/-- A task may run, behind all others of its core and priority (n). -/
def wkP (p : PW) (t n : Nat) : PW := { (lvP p t).task t 9 1 with ready := (lvs t p.ready).set n ((lvs t p.ready).getD n [] ++ [(t : Int)]) }
set_option maxRecDepth 100000 in
set_option maxHeartbeats 4000000 in
theorem wake_any (wb : Nat) (tag : Nat → Nat) (V : Nat → Value) (p : PW) (t n : Nat) (W : World) (bt : BoxT W wb tag V p) (hp : p.Fits) (ht : t < p.tasks.length) (hn : n < p.ready.length) (h18 : 0 ≤ p.tasks.getD t bl 18 ∧ p.tasks.getD t bl 18 ≤ 1000) (h10 : 0 ≤ p.tasks.getD t bl 10 ∧ p.tasks.getD t bl 10 ≤ 1000) (hcp : p.tasks.getD t bl 18 * 4 + p.tasks.getD t bl 10 = (n : Int)) :
  Calls Tryz.prog 30 #[.pointer (some ⟨wb, 0, none⟩), .int .i64 t] W fun r W' => r = .returned (.tuple #[]) ∧ ∃ tag', BoxT W' wb tag' V (wkP p t n) ∧ Kt tag tag' W W' := by
 have HLV := hid (leaveW_any wb tag V p t W bt hp ht)
 have HN1 := hid (hp.next)
 have hl7 : (p.ready.length : Int) ≤ 1000 := by have := hp.ready; omega
 have hl3 : (p.tasks.length : Int) ≤ 1000 := by have := hp.tasks; omega
 have ht2 : (t : Int) < (p.tasks.length : Int) := by omega
 have hn2 : (n : Int) < (p.ready.length : Int) := by omega
 have LT : (lvP p t).tasks.length = p.tasks.length := PW.task_len p t 14 (-1)
 have G18 := hid (show (((lvP p t).task t 9 1).tasks.getD t bl) 18 = p.tasks.getD t bl 18 by rw [task_getD _ t 9 18 1 (by rw [LT]; exact ht)]; exact task_getD p t 14 18 (-1) ht)
 have G10 := hid (show (((lvP p t).task t 9 1).tasks.getD t bl) 10 = p.tasks.getD t bl 10 by rw [task_getD _ t 9 10 1 (by rw [LT]; exact ht)]; exact task_getD p t 14 10 (-1) ht)
 generalize p.tasks.getD t bl 18 = cc at G18 h18 hcp
 generalize p.tasks.getD t bl 10 = pp at G10 h10 hcp
 obtain ⟨ha1, ha2⟩ := h18
 obtain ⟨hb1, hb2⟩ := h10
 have HLT := hid LT
 have HTT := hid ht
 clear bt hp LT
 go_enter Tryz.func30, Tryz.ntmps30
 go_wp2_with fail
 refine HLV.out.mono ?_
 rintro r w1 ⟨rfl, h1, h2⟩
 obtain ⟨g3, cap3, e3⟩ := h1.o.tasks.form (by rw [HLT.out]; omega)
 have c3 : w1.cell? ⟨wb, 3, none⟩ = some (.slice (some ⟨g3, 0, none⟩) p.tasks.length cap3) := by rw [range_cell h1.r (k := 3) rfl, e3, HLT.out]
 have x9 := h1.taskAt e3 (i := t) (by rw [HLT.out]; exact ht) (show 9 < 20 by omega)
 have f9 := h1.tasksFr e3 (t * 20 + 9)
 obtain ⟨b2, k2⟩ := h1.task e3 (i := t) (by rw [HLT.out]; exact ht) (show 9 < 20 by omega) 1
 have e4 : V 3 = .slice (some ⟨g3, 0, none⟩) ((lvP p t).task t 9 1).tasks.length cap3 := by rw [PW.task_len]; exact e3
 have y18 := b2.taskAt e4 (i := t) (by rw [PW.task_len, HLT.out]; exact ht) (show 18 < 20 by omega)
 have y10 := b2.taskAt e4 (i := t) (by rw [PW.task_len, HLT.out]; exact ht) (show 10 < 20 by omega)
 rw [G18.out] at y18
 rw [G10.out] at y10
 have B2 := hid b2
 have K2 := hid (h2.trans k2)
 clear h1 h2 b2 k2 e3 e4 HLV
 go_upto_region 3 with fail
 generalize World.setCell _ _ _ = W2 at *
 clear x9 f9 c3
 go_quiet (fail)
 have BS := hid (below_drewN (Below.refl W2.heap.size W2) nq)
 generalize World.drewN _ _ = W3 at BS ⊢
 have B3 := hid (B2.out.below BS.out)
 have K3 := hid (K2.out.trans (.below BS.out))
 clear y18 y10 B2 K2 BS
 go_wp2_with fail
 have HNS2 := hid (lvs_len (t : Int) p.ready)
 have HNL := hid (show n < (lvs (t : Int) p.ready).length by rw [HNS2.out]; exact hn)
 have HNL2 := hid hn
 have HZZ := hid (show ((lvs (t : Int) p.ready).getD n []).length ≤ 1000 by
  rw [List.getD_eq_getElem?_getD, List.getElem?_eq_getElem HNL.out, Option.getD_some]
  unfold lvs
  rw [List.getElem_map]
  exact Nat.le_trans (List.length_filter_le _ _) (HN1.out _ (List.getElem_mem hn)))
 obtain ⟨gL, eL⟩ := B3.out.o.ready.form
 have hLR := B3.out.o.ready
 rw [eL] at hLR
 obtain ⟨u, cu, hu⟩ := hLR.at (j := n) HNL.out
 obtain ⟨zs, hzs⟩ : ∃ zs, (lvs (t : Int) p.ready).getD n [] = zs := ⟨_, rfl⟩
 have hu2 : InT W3 tag (13 + 3 * n) 3 1 u (zs.length, ints zs) := by
  have h1 := hu
  unfold ci at h1
  rw [show PW.ready _ = lvs (t : Int) p.ready from rfl, hzs] at h1
  exact h1
 have HZL := hid (show zs.length ≤ 1000 from by rw [← hzs]; exact HZZ.out)
 have HZS := hid hzs
 have HU := hid hu2
 have HLR := hid hLR
 have EL := hid (show V 7 = .slice (some ⟨gL, 0, none⟩) p.ready.length p.ready.length by rw [eL]; exact congrArg (fun m => Value.slice (some ⟨gL, 0, none⟩) m m) HNS2.out)
 have FRZ := hid (fun X (h : Below W3.heap.size W3 X) => show X.frozen? ⟨gL, n, none⟩ = false from (hLR.kp (T := fun _ => False) (.of_below h) (fun _ _ => rfl) (fun _ _ e => e)).fr n)
 have KS := hid (fun X (h : Below W3.heap.size W3 X) => show X.cell? ⟨wb, 7, none⟩ = some (.slice (some ⟨gL, 0, none⟩) p.ready.length p.ready.length) by rw [range_cell (B3.out.below h).r (k := 7) rfl, EL.out])
 have KR := hid (fun X (h : Below W3.heap.size W3 X) => show X.cell? ⟨gL, n, none⟩ = some u from (h.cell (World.block_lt_of_cell? _ _ cu)).trans cu)
 have BD : Hid (Below W3.heap.size W3 W3.drew) := hid (below_drew W3 1)
 clear hu hu2 hzs hLR eL cu
 refine wp_region_F (S := fun X => X.cell? ⟨wb, 7, none⟩ = some (.slice (some ⟨gL, 0, none⟩) p.ready.length p.ready.length)) (R := fun X => X.cell? ⟨gL, n, none⟩ = some u) [16] (by kernel_rfl) (KS.out _ BD.out) (KR.out _ BD.out) (fun hS0 hR0 => ?_)
 have hS := hid hS0
 have hR := hid hR0
 clear hS0 hR0
 refine wpAnyF_take (i := 0) (v := .pointer (some ⟨wb, 0, none⟩)) rfl (by kernel_rfl) (by kernel_rfl) (by kernel_rfl) (by kernel_rfl) (fun _ _ _ h => h) (Or.inl ⟨by rfl, fun W h => by clear h; go_simp⟩) hS.out (fun _ => hR.out) ?_
 simp only [jj]
 refine wpAnyF_take (i := 1) (v := .pointer (some ⟨wb, 0, none⟩)) rfl (by kernel_rfl) (by kernel_rfl) (by kernel_rfl) (by kernel_rfl) (fun _ _ _ h => h) (Or.inl ⟨by rfl, fun W h => by clear h; go_simp⟩) hS.out (fun _ => hR.out) ?_
 simp only [jj]
 refine wpAnyF_take (i := 2) (v := .pointer (some ⟨wb, 7, none⟩)) rfl (by kernel_rfl) (by kernel_rfl) (by kernel_rfl) (by kernel_rfl) (fun _ _ _ h => h) (Or.inl ⟨by rfl, fun W h => by clear h; go_simp⟩) hS.out (fun _ => hR.out) ?_
 simp only [jj]
 refine wpAnyF_take (i := 3) (v := .slice (some ⟨gL, 0, none⟩) p.ready.length p.ready.length) rfl (by kernel_rfl) (by kernel_rfl) (by kernel_rfl) (by kernel_rfl) (fun _ _ _ h => h) (Or.inl ⟨by rfl, fun W h => by have h3 := h; clear h; go_simp⟩) hS.out (fun _ => hR.out) ?_
 simp only [jj]
 refine wpAnyF_take (i := 4) (v := .int .i64 n) rfl (by kernel_rfl) (by kernel_rfl) (by kernel_rfl) (by kernel_rfl) (fun _ _ _ h => h) (Or.inl ⟨by rfl, fun W h => by clear h; go_simp⟩) hS.out (fun _ => hR.out) ?_
 simp only [jj]
 refine wpAnyF_take (i := 5) (v := .pointer (some ⟨wb, 0, none⟩)) rfl (by kernel_rfl) (by kernel_rfl) (by kernel_rfl) (by kernel_rfl) (fun _ _ _ h => h) (Or.inl ⟨by rfl, fun W h => by clear h; go_simp⟩) hS.out (fun _ => hR.out) ?_
 simp only [jj]
 refine wpAnyF_take (i := 6) (v := .pointer (some ⟨wb, 0, none⟩)) rfl (by kernel_rfl) (by kernel_rfl) (by kernel_rfl) (by kernel_rfl) (fun _ _ _ h => h) (Or.inl ⟨by rfl, fun W h => by clear h; go_simp⟩) hS.out (fun _ => hR.out) ?_
 simp only [jj]
 refine wpAnyF_take (i := 7) (v := .pointer (some ⟨wb, 7, none⟩)) rfl (by kernel_rfl) (by kernel_rfl) (by kernel_rfl) (by kernel_rfl) (fun _ _ _ h => h) (Or.inl ⟨by rfl, fun W h => by clear h; go_simp⟩) hS.out (fun _ => hR.out) ?_
 simp only [jj]
 refine wpAnyF_take (i := 8) (v := .slice (some ⟨gL, 0, none⟩) p.ready.length p.ready.length) rfl (by kernel_rfl) (by kernel_rfl) (by kernel_rfl) (by kernel_rfl) (fun _ _ _ h => h) (Or.inl ⟨by rfl, fun W h => by have h3 := h; clear h; go_simp⟩) hS.out (fun _ => hR.out) ?_
 simp only [jj]
 refine wpAnyF_take (i := 9) (v := .int .i64 n) rfl (by kernel_rfl) (by kernel_rfl) (by kernel_rfl) (by kernel_rfl) (fun _ _ _ h => h) (Or.inl ⟨by rfl, fun W h => by clear h; go_simp⟩) hS.out (fun _ => hR.out) ?_
 simp only [jj]
 refine wpAnyF_take (i := 10) (v := .pointer (some ⟨gL, n, none⟩)) rfl (by kernel_rfl) (by kernel_rfl) (by kernel_rfl) (by kernel_rfl) (fun _ _ _ h => h) (Or.inl ⟨by rfl, fun W h => by clear h; go_simp⟩) hS.out (fun _ => hR.out) ?_
 simp only [jj]
 refine wpAnyF_takeR (i := 11) (v := u) rfl (by kernel_rfl) (by kernel_rfl) (by kernel_rfl) (by kernel_rfl) (by kernel_rfl) (by kernel_rfl) (fun _ _ _ h => h) (Or.inl ⟨by rfl, fun W h => by have h3 := h.2; clear h; go_simp⟩) hS.out (fun _ => hR.out) ?_
 simp only [jj]
 refine wpAnyF_take (i := 12) (v := .int .i64 t) rfl (by kernel_rfl) (by kernel_rfl) (by kernel_rfl) (by kernel_rfl) (fun _ _ _ h => h) (Or.inl ⟨by rfl, fun W h => by clear h; go_simp⟩) hS.out (fun _ => hR.out) ?_
 simp only [jj]
 have BN := hid (show Below W3.heap.size W3 (W3.alloc (.cells #[.int .i64 t] 3)).drew from (bal (Below.refl _ W3) (.cells #[.int .i64 t] 3)).drew)
 have CN := hid (show (W3.alloc (.cells #[.int .i64 t] 3)).drew.cell? ⟨W3.heap.size, 0, none⟩ = some (.int .i64 t) from cells_new W3 #[.int .i64 t] 3 0)
 refine wpAnyF_ready (rs := [13]) (by kernel_rfl) (by simp) (AllReadyF.cons rfl (fun K hK => ?_) AllReadyF.nil)
 go_simp
 refine hK.out _ _ (KS.out _ BN.out) (fun _ => KR.out _ BN.out) (fun _ _ => ?_)
 clear hK K
 try simp only [Act.put, jD, jE, jF]
 generalize World.drew (World.alloc _ _) = W4 at *
 have hS1 := hid (KS.out _ BN.out)
 have hR1 := hid (KR.out _ BN.out)
 obtain ⟨q, cap, w5, hrun, hin, hkp⟩ := InT.push (HU.out.kp (T := fun _ => False) (.of_below BN.out) (fun _ _ => rfl) (fun _ _ e => e)) HZL.out CN.out 1 22
 have HRUN := hid hrun
 have HIN := hid hin
 have HKP := hid hkp
 have B4 := hid (B3.out.below BN.out)
 have K4 := hid (K3.out.trans (.below BN.out))
 have cwb : w5.cell? ⟨wb, 7, none⟩ = some (.slice (some ⟨gL, 0, none⟩) p.ready.length p.ready.length) := (hkp.cell (p := ⟨wb, 7, none⟩) B4.out.lt (by show ¬ tag wb = _; rw [B4.out.g]; omega)).trans hS1.out
 have hgL : tag gL = 9 ∧ gL < W4.heap.size := (HLR.out.kp (T := fun _ => False) (.of_below BN.out) (fun _ _ => rfl) (fun _ _ e => e)).tag0
 have cgl : w5.cell? ⟨gL, n, none⟩ = some u := (hkp.cell (p := ⟨gL, n, none⟩) hgL.2 (by show ¬ tag gL = _; rw [hgL.1]; omega)).trans hR1.out
 have fgl : w5.frozen? ⟨gL, n, none⟩ = false := (hkp.frozen (p := ⟨gL, n, none⟩) hgL.2 (by show ¬ tag gL = _; rw [hgL.1]; omega)).trans (FRZ.out _ BN.out)
 have S5 := hid cwb
 have R5 := hid cgl
 clear hrun hin hkp hS hR
 refine wpAnyF_ready (rs := [14]) (by kernel_rfl) (by simp) (AllReadyF.cons rfl (fun K hK => ?_) AllReadyF.nil)
 refine wp_app1 _ _ 22 rfl u (.slice (some ⟨W3.heap.size, 0, none⟩) 1 1) (.slice q (zs.length + 1) cap) rfl rfl HRUN.out ?_
 refine hK.out _ _ S5.out (fun _ => R5.out) (fun _ _ => ?_)
 clear hK K
 simp only [jj]
 refine wpAnyF_take (i := 15) (v := .pointer (some ⟨gL, n, none⟩)) rfl (by kernel_rfl) (by kernel_rfl) (by kernel_rfl) (by kernel_rfl) (fun _ _ _ h => h) (Or.inl ⟨by rfl, fun W h => by clear h; go_simp⟩) S5.out (fun _ => R5.out) ?_
 simp only [jj]
 obtain ⟨hp1, hp2⟩ := (HLR.out.kp (T := fun _ => False) (.of_below BN.out) (fun _ _ => rfl) (fun _ _ e => e)).put (tag' := tagN tag W4.heap.size (13 + 3 * n)) (j := n) HNL.out (fun j => by omega) HKP.out (fun k hk => tagN_lt hk) HIN.out
 have B5 := hid (B4.out.ready hp2 (fun k hk => tagN_lt hk) (x := (lvs (t : Int) p.ready).set n ((lvs (t : Int) p.ready).getD n [] ++ [(t : Int)])) (by
  rw [List.length_set, HNS2.out, EL.out, ci_set _ _ (by rw [HNS2.out]; exact HNL2.out), HZS.out]
  rw [show PW.ready _ = lvs (t : Int) p.ready from rfl, HNS2.out] at hp1
  exact hp1))
 have K5 := hid (K4.out.trans (Kt.of (tag' := tagN tag W4.heap.size (13 + 3 * n)) hp2 (fun k e => by rcases e with e | ⟨j, e⟩ <;> omega) (fun k hk => tagN_lt hk)))
 have S6 := hid (show (w5.setCell ⟨gL, n, none⟩ (.slice q (zs.length + 1) cap)).cell? ⟨wb, 7, none⟩ = some (.slice (some ⟨gL, 0, none⟩) p.ready.length p.ready.length) by rw [range_cell B5.out.r (k := 7) rfl, EL.out])
 clear hp1 hp2
 refine wpAnyF_ready (rs := [16]) (by kernel_rfl) (by simp) (AllReadyF.cons rfl (fun K hK => ?_) AllReadyF.nil)
 go_simp
 refine hK.out _ _ S6.out (notClean (by kernel_rfl)) (fun _ _ => ?_)
 clear hK K
 try simp only [Act.put]
 refine wpAnyF_done (by kernel_rfl) ?_ _
 generalize World.setCell _ _ _ = W6 at *
 clear KS KR BD BN CN FRZ HLR HU hS1 hR1 S5 R5 S6 HRUN HIN HKP B4 K4 cwb cgl fgl
 go_wp2_with fail
 exact bodyPost_end (results_none rfl _ _ _) rfl ⟨rfl, _, by unfold wkP; exact B5.out, K5.out⟩
end Go.Proofs.YtakmaeohhclngaaGreatDoor.Wd
