/- deed.twin, walked. (Written by mk_twin.py.) · append onto an empty slice of one's own, nil or not; keyholdref.copyAll, walked. (Written by mk_copy0.py.) · What holds while a world is copied, list by list. (Written by mk_copy.py.) · keyholdref.Copy, walked. (Written by mk_copy.py.) -/
import Derived.Deep.RegionHeld3
import Derived.Laws.AppendOwnNone
import Derived.Test.YtkocmkaeaagbaaaGreatDoorQam
import Derived.Test.YtkocmkaeaagbaaaGreatDoorQad
namespace Go.Proofs.YtkocmkaeaagbaaaGreatDoor.Wd
open Go.RowKit Go.Proofs.YtkocmkaeaagbaaaGreatDoor.Mem Go.Proofs.YtkocmkaeaagbaaaGreatDoor.Bw Go.Proofs.YtkocmkaeaagbaaaGreatDoor.Nums Go.Proofs.YtkocmkaeaagbaaaGreatDoor.Mmu
theorem ownl_form {w : World} {lo hi O I s n : Nat} {v : Value} {cc : Nat → Nat × List Value} (h : OwnL w lo hi O I s n v cc) : ∃ q, v = .slice q n n := by
 obtain ⟨g, us, m, h1, _⟩ := h
 exact ⟨_, h1⟩
theorem there_belowO {w w' : World} {b o n : Nat} (h : w.there b o n) (hb : Below w.heap.size w w') : w'.there b o n := fun j hj => by
 obtain ⟨h1, h2⟩ := h j hj
 obtain ⟨u, hu⟩ := Option.isSome_iff_exists.1 h1
 have hl := World.block_lt_of_cell? _ _ hu
 exact ⟨by rw [hb.cell hl]; exact h1, by rw [hb.frozen hl]; exact h2⟩
def vv (l : List Value) (k : Nat) : Value := l.getD k undef
/-- Blocks between the lists. -/
def ll (l : List Nat) (k : Nat) : Nat := l.getD k 0
set_option maxRecDepth 100000 in
set_option maxHeartbeats 8000000 in
theorem twin_any (V : Nat → Value) (p : PW) (w : World) (hv : WorldV w V p) (hp : p.Fits) :
  Calls Tryz.prog 195 #[.agg (arr11 V)] w fun r w' => ∃ V' L, r = .returned (.agg (arr11 V')) ∧ WorldO w' L V' p ∧ w.heap.size ≤ L 0 ∧ L 10 ≤ w'.heap.size ∧ Below w.heap.size w w' := by
 have RG := hid (boxed w V 28)
 have B0 := hid (bal (bal (Below.refl w.heap.size w) (.cells (arr11 V) 28)) (.cells #[.slice none 0 0, .slice none 0 0, .slice none 0 0, .slice none 0 0, .slice none 0 0, .slice none 0 0, .slice none 0 0, .slice none 0 0, .slice none 0 0, .slice none 0 0, .int .i64 0] 28))
 have RG0 := hid (range_below RG.out (bal (Below.refl _ (w.alloc (.cells (arr11 V) 28))) (.cells #[.slice none 0 0, .slice none 0 0, .slice none 0 0, .slice none 0 0, .slice none 0 0, .slice none 0 0, .slice none 0 0, .slice none 0 0, .slice none 0 0, .slice none 0 0, .int .i64 0] 28)))
 have T0 := hid (there_new (w.alloc (.cells (arr11 V) 28)) #[.slice none 0 0, .slice none 0 0, .slice none 0 0, .slice none 0 0, .slice none 0 0, .slice none 0 0, .slice none 0 0, .slice none 0 0, .slice none 0 0, .slice none 0 0, .int .i64 0] 28 (w.heap.size + 1) 11 (by simp) (by decide))
 have S0 := hid (show ((w.alloc (.cells (arr11 V) 28)).alloc (.cells #[.slice none 0 0, .slice none 0 0, .slice none 0 0, .slice none 0 0, .slice none 0 0, .slice none 0 0, .slice none 0 0, .slice none 0 0, .slice none 0 0, .slice none 0 0, .int .i64 0] 28)).heap.size = w.heap.size + 2 by simp)
 have HP := hid hp
 have HV := hid hv
 have etm := hv.time
 clear hv hp RG
 go_enter Tryz.func195, Tryz.ntmps195
 go_wp2_with fail
 generalize World.alloc _ _ = W0 at *
 have BD : Hid (Below W0.heap.size W0 W0.drew) := hid (below_drew W0 1)
 have KS := hid (fun W (hb : Below W0.heap.size W0 W) => range_below RG0.out hb)
 have HVW := hid (fun W (hb : Below W0.heap.size W0 W) => HV.out.below (btr B0.out hb))
 clear RG0 HV
 refine wp_region_held_drew (S := fun W => W.rangeAt w.heap.size 0 (arr11 V).toList) (by kernel_rfl) (KS.out _ BD.out) (fun hH0 => ?_)
 have hH0 := hid hH0
 refine tk 0 (.pointer (some ⟨w.heap.size, 0, none⟩)) rfl hH0.out ?_
 simp only [jj]
 refine tg 1 (V 0) rfl (Or.inl ⟨by rfl, fun W h => by have h3 : W.cell? ⟨w.heap.size, 0, none⟩ = some (V 0) := range_cell h rfl; clear h; go_simp⟩) hH0.out ?_
 simp only [jj]
 refine tk 3 (.pointer (some ⟨w.heap.size, 1, none⟩)) rfl hH0.out ?_
 simp only [jj]
 refine tg 4 (V 1) rfl (Or.inl ⟨by rfl, fun W h => by have h3 : W.cell? ⟨w.heap.size, 1, none⟩ = some (V 1) := range_cell h rfl; clear h; go_simp⟩) hH0.out ?_
 simp only [jj]
 refine tk 6 (.pointer (some ⟨w.heap.size, 2, none⟩)) rfl hH0.out ?_
 simp only [jj]
 refine tg 7 (V 2) rfl (Or.inl ⟨by rfl, fun W h => by have h3 : W.cell? ⟨w.heap.size, 2, none⟩ = some (V 2) := range_cell h rfl; clear h; go_simp⟩) hH0.out ?_
 simp only [jj]
 refine tk 9 (.pointer (some ⟨w.heap.size, 3, none⟩)) rfl hH0.out ?_
 simp only [jj]
 refine tg 10 (V 3) rfl (Or.inl ⟨by rfl, fun W h => by have h3 : W.cell? ⟨w.heap.size, 3, none⟩ = some (V 3) := range_cell h rfl; clear h; go_simp⟩) hH0.out ?_
 simp only [jj]
 refine tk 12 (.pointer (some ⟨w.heap.size, 4, none⟩)) rfl hH0.out ?_
 simp only [jj]
 refine tg 13 (V 4) rfl (Or.inl ⟨by rfl, fun W h => by have h3 : W.cell? ⟨w.heap.size, 4, none⟩ = some (V 4) := range_cell h rfl; clear h; go_simp⟩) hH0.out ?_
 simp only [jj]
 refine tk 15 (.pointer (some ⟨w.heap.size, 5, none⟩)) rfl hH0.out ?_
 simp only [jj]
 refine tg 16 (V 5) rfl (Or.inl ⟨by rfl, fun W h => by have h3 : W.cell? ⟨w.heap.size, 5, none⟩ = some (V 5) := range_cell h rfl; clear h; go_simp⟩) hH0.out ?_
 simp only [jj]
 refine tk 18 (.pointer (some ⟨w.heap.size, 6, none⟩)) rfl hH0.out ?_
 simp only [jj]
 refine tg 19 (V 6) rfl (Or.inl ⟨by rfl, fun W h => by have h3 : W.cell? ⟨w.heap.size, 6, none⟩ = some (V 6) := range_cell h rfl; clear h; go_simp⟩) hH0.out ?_
 simp only [jj]
 refine tk 21 (.pointer (some ⟨w.heap.size, 7, none⟩)) rfl hH0.out ?_
 simp only [jj]
 refine tg 22 (V 7) rfl (Or.inl ⟨by rfl, fun W h => by have h3 : W.cell? ⟨w.heap.size, 7, none⟩ = some (V 7) := range_cell h rfl; clear h; go_simp⟩) hH0.out ?_
 simp only [jj]
 refine tk 24 (.pointer (some ⟨w.heap.size, 8, none⟩)) rfl hH0.out ?_
 simp only [jj]
 refine tg 25 (V 8) rfl (Or.inl ⟨by rfl, fun W h => by have h3 : W.cell? ⟨w.heap.size, 8, none⟩ = some (V 8) := range_cell h rfl; clear h; go_simp⟩) hH0.out ?_
 simp only [jj]
 refine tk 27 (.pointer (some ⟨w.heap.size, 9, none⟩)) rfl hH0.out ?_
 simp only [jj]
 refine tg 28 (V 9) rfl (Or.inl ⟨by rfl, fun W h => by have h3 : W.cell? ⟨w.heap.size, 9, none⟩ = some (V 9) := range_cell h rfl; clear h; go_simp⟩) hH0.out ?_
 simp only [jj]
 refine tk 30 (.pointer (some ⟨w.heap.size, 10, none⟩)) rfl hH0.out ?_
 simp only [jj]
 refine tg 31 (.int .i64 p.time) rfl (Or.inl ⟨by rfl, fun W h => by have h3 : W.cell? ⟨w.heap.size, 10, none⟩ = some (V 10) := range_cell h rfl; rw [etm] at h3; clear h; go_simp⟩) hH0.out ?_
 simp only [jj]
 refine wpAnyH_ready (rs := [2]) (by kernel_rfl) (by simp) (AllReadyH.cons rfl (fun K hK => ?_) AllReadyH.nil)
 go_simp
 refine (clone_ints (V 0) p.ram _ (HVW.out _ BD.out).ram HP.out.ram).mono ?_
 rintro r u1 ⟨v0, rfl, h0, hb⟩
 obtain ⟨qu0, cu0, rfl⟩ := own_form h0
 have A1 := hid (btr BD.out hb)
 have O0 := hid h0
 have N0 := hid hb
 clear hb h0
 go_wp2_with fail
 refine hK.out _ _ (KS.out _ A1.out) (fun hH0 => ?_)
 have hH1 := hid hH0
 clear hK K hH0
 try simp only [Act.put, jD, jE, jF]
 refine wpAnyH_ready (rs := [5]) (by kernel_rfl) (by simp) (AllReadyH.cons rfl (fun K hK => ?_) AllReadyH.nil)
 go_simp
 refine (clone_ints (V 1) p.kinds _ (HVW.out _ A1.out).kinds HP.out.kinds).mono ?_
 rintro r u2 ⟨v1, rfl, h1, hb⟩
 obtain ⟨qu1, cu1, rfl⟩ := own_form h1
 have A2 := hid (btr A1.out hb)
 have O1 := hid h1
 have N1 := hid hb
 clear hb h1
 go_wp2_with fail
 refine hK.out _ _ (KS.out _ A2.out) (fun hH0 => ?_)
 have hH2 := hid hH0
 clear hK K hH0
 try simp only [Act.put, jD, jE, jF]
 refine wpAnyH_ready (rs := [8]) (by kernel_rfl) (by simp) (AllReadyH.cons rfl (fun K hK => ?_) AllReadyH.nil)
 go_simp
 refine (clone_slots (V 2) p.slots _ (HVW.out _ A2.out).slots HP.out.slots).mono ?_
 rintro r u3 ⟨v2, rfl, h2, hb⟩
 obtain ⟨qu2, cu2, rfl⟩ := own_form h2
 have A3 := hid (btr A2.out hb)
 have O2 := hid h2
 have N2 := hid hb
 clear hb h2
 go_wp2_with fail
 refine hK.out _ _ (KS.out _ A3.out) (fun hH0 => ?_)
 have hH3 := hid hH0
 clear hK K hH0
 try simp only [Act.put, jD, jE, jF]
 refine wpAnyH_ready (rs := [11]) (by kernel_rfl) (by simp) (AllReadyH.cons rfl (fun K hK => ?_) AllReadyH.nil)
 go_simp
 refine (clone_tasks (V 3) p.tasks _ (HVW.out _ A3.out).tasks HP.out.tasks).mono ?_
 rintro r u4 ⟨v3, rfl, h3, hb⟩
 obtain ⟨qu3, cu3, rfl⟩ := own_form h3
 have A4 := hid (btr A3.out hb)
 have O3 := hid h3
 have N3 := hid hb
 clear hb h3
 go_wp2_with fail
 refine hK.out _ _ (KS.out _ A4.out) (fun hH0 => ?_)
 have hH4 := hid hH0
 clear hK K hH0
 try simp only [Act.put, jD, jE, jF]
 refine wpAnyH_ready (rs := [14]) (by kernel_rfl) (by simp) (AllReadyH.cons rfl (fun K hK => ?_) AllReadyH.nil)
 go_simp
 refine (twins_int (V 4) p.lines _ (HVW.out _ A4.out).lines HP.out.lines HP.out.line).mono ?_
 rintro r u5 ⟨v4, rfl, h4, hb⟩
 obtain ⟨qu4, rfl⟩ := ownl_form h4
 have A5 := hid (btr A4.out hb)
 have O4 := hid h4
 have N4 := hid hb
 clear hb h4
 go_wp2_with fail
 refine hK.out _ _ (KS.out _ A5.out) (fun hH0 => ?_)
 have hH5 := hid hH0
 clear hK K hH0
 try simp only [Act.put, jD, jE, jF]
 refine wpAnyH_ready (rs := [17]) (by kernel_rfl) (by simp) (AllReadyH.cons rfl (fun K hK => ?_) AllReadyH.nil)
 go_simp
 refine (clone_ints (V 5) p.bits _ (HVW.out _ A5.out).bits HP.out.bits).mono ?_
 rintro r u6 ⟨v5, rfl, h5, hb⟩
 obtain ⟨qu5, cu5, rfl⟩ := own_form h5
 have A6 := hid (btr A5.out hb)
 have O5 := hid h5
 have N5 := hid hb
 clear hb h5
 go_wp2_with fail
 refine hK.out _ _ (KS.out _ A6.out) (fun hH0 => ?_)
 have hH6 := hid hH0
 clear hK K hH0
 try simp only [Act.put, jD, jE, jF]
 refine wpAnyH_ready (rs := [20]) (by kernel_rfl) (by simp) (AllReadyH.cons rfl (fun K hK => ?_) AllReadyH.nil)
 go_simp
 refine (clone_ints (V 6) p.cores _ (HVW.out _ A6.out).cores HP.out.cores).mono ?_
 rintro r u7 ⟨v6, rfl, h6, hb⟩
 obtain ⟨qu6, cu6, rfl⟩ := own_form h6
 have A7 := hid (btr A6.out hb)
 have O6 := hid h6
 have N6 := hid hb
 clear hb h6
 go_wp2_with fail
 refine hK.out _ _ (KS.out _ A7.out) (fun hH0 => ?_)
 have hH7 := hid hH0
 clear hK K hH0
 try simp only [Act.put, jD, jE, jF]
 refine wpAnyH_ready (rs := [23]) (by kernel_rfl) (by simp) (AllReadyH.cons rfl (fun K hK => ?_) AllReadyH.nil)
 go_simp
 refine (twins_int (V 7) p.ready _ (HVW.out _ A7.out).ready HP.out.ready HP.out.next).mono ?_
 rintro r u8 ⟨v7, rfl, h7, hb⟩
 obtain ⟨qu7, rfl⟩ := ownl_form h7
 have A8 := hid (btr A7.out hb)
 have O7 := hid h7
 have N7 := hid hb
 clear hb h7
 go_wp2_with fail
 refine hK.out _ _ (KS.out _ A8.out) (fun hH0 => ?_)
 have hH8 := hid hH0
 clear hK K hH0
 try simp only [Act.put, jD, jE, jF]
 refine wpAnyH_ready (rs := [26]) (by kernel_rfl) (by simp) (AllReadyH.cons rfl (fun K hK => ?_) AllReadyH.nil)
 go_simp
 refine (twins_ent (V 8) p.tlbs _ (HVW.out _ A8.out).tlbs HP.out.tlbs).mono ?_
 rintro r u9 ⟨v8, rfl, h8, hb⟩
 obtain ⟨qu8, rfl⟩ := ownl_form h8
 have A9 := hid (btr A8.out hb)
 have O8 := hid h8
 have N8 := hid hb
 clear hb h8
 go_wp2_with fail
 refine hK.out _ _ (KS.out _ A9.out) (fun hH0 => ?_)
 have hH9 := hid hH0
 clear hK K hH0
 try simp only [Act.put, jD, jE, jF]
 refine wpAnyH_ready (rs := [29]) (by kernel_rfl) (by simp) (AllReadyH.cons rfl (fun K hK => ?_) AllReadyH.nil)
 go_simp
 refine (clone_ints (V 9) p.doms _ (HVW.out _ A9.out).doms HP.out.doms).mono ?_
 rintro r u10 ⟨v9, rfl, h9, hb⟩
 obtain ⟨qu9, cu9, rfl⟩ := own_form h9
 have A10 := hid (btr A9.out hb)
 have O9 := hid h9
 have N9 := hid hb
 clear hb h9
 go_wp2_with fail
 refine hK.out _ _ (KS.out _ A10.out) (fun hH0 => ?_)
 have hH10 := hid hH0
 clear hK K hH0
 try simp only [Act.put, jD, jE, jF]
 refine tk 32 (.agg #[.slice qu0 p.ram.length cu0, .slice qu1 p.kinds.length cu1, .slice qu2 p.slots.length cu2, .slice qu3 p.tasks.length cu3, .slice qu4 p.lines.length p.lines.length, .slice qu5 p.bits.length cu5, .slice qu6 p.cores.length cu6, .slice qu7 p.ready.length p.ready.length, .slice qu8 p.tlbs.length p.tlbs.length, .slice qu9 p.doms.length cu9, .int .i64 p.time]) rfl hH10.out ?_
 simp only [jj]
 have TH := hid (there_belowO T0.out A10.out)
 have RX := hid (World.rangeAt_setCells_same u10 (w.heap.size + 1) 0 [.slice qu0 p.ram.length cu0, .slice qu1 p.kinds.length cu1, .slice qu2 p.slots.length cu2, .slice qu3 p.tasks.length cu3, .slice qu4 p.lines.length p.lines.length, .slice qu5 p.bits.length cu5, .slice qu6 p.cores.length cu6, .slice qu7 p.ready.length p.ready.length, .slice qu8 p.tlbs.length p.tlbs.length, .slice qu9 p.doms.length cu9, .int .i64 p.time] TH.out)
 have BX := hid (below_setCells (btr B0.out A10.out) (show w.heap.size ≤ w.heap.size + 1 by omega) [.slice qu0 p.ram.length cu0, .slice qu1 p.kinds.length cu1, .slice qu2 p.slots.length cu2, .slice qu3 p.tasks.length cu3, .slice qu4 p.lines.length p.lines.length, .slice qu5 p.bits.length cu5, .slice qu6 p.cores.length cu6, .slice qu7 p.ready.length p.ready.length, .slice qu8 p.tlbs.length p.tlbs.length, .slice qu9 p.doms.length cu9, .int .i64 p.time] 0)
 refine wpAnyH_ready (rs := [33]) (by kernel_rfl) (by simp) (AllReadyH.cons rfl (fun K hK => ?_) AllReadyH.nil)
 refine wp_store_mid 28 _ _ rfl (w.heap.size + 1) 0 #[.slice qu0 p.ram.length cu0, .slice qu1 p.kinds.length cu1, .slice qu2 p.slots.length cu2, .slice qu3 p.tasks.length cu3, .slice qu4 p.lines.length p.lines.length, .slice qu5 p.bits.length cu5, .slice qu6 p.cores.length cu6, .slice qu7 p.ready.length p.ready.length, .slice qu8 p.tlbs.length p.tlbs.length, .slice qu9 p.doms.length cu9, .int .i64 p.time] rfl rfl TH.out infoW (by simp [Value.oneCell']) ?_
 refine hK.out _ _ (fun k v hk => by
  rw [World.cell?_setCells_out (w.heap.size + 1) [.slice qu0 p.ram.length cu0, .slice qu1 p.kinds.length cu1, .slice qu2 p.slots.length cu2, .slice qu3 p.tasks.length cu3, .slice qu4 p.lines.length p.lines.length, .slice qu5 p.bits.length cu5, .slice qu6 p.cores.length cu6, .slice qu7 p.ready.length p.ready.length, .slice qu8 p.tlbs.length p.tlbs.length, .slice qu9 p.doms.length cu9, .int .i64 p.time] 0 u10 ⟨w.heap.size, 0 + k, none⟩ (fun e _ => by simp at e)]
  exact KS.out _ A10.out k v hk) (fun hH11 => ?_)
 clear hK K hH11
 refine wpAnyH_done (by kernel_rfl) ?_ _
 clear hH0 hH1 hH2 hH3 hH4 hH5 hH6 hH7 hH8 hH9 hH10
 go_wp2_with fail
 refine bodyPost_ret (v := .agg (arr11 (vv [.slice qu0 p.ram.length cu0, .slice qu1 p.kinds.length cu1, .slice qu2 p.slots.length cu2, .slice qu3 p.tasks.length cu3, .slice qu4 p.lines.length p.lines.length, .slice qu5 p.bits.length cu5, .slice qu6 p.cores.length cu6, .slice qu7 p.ready.length p.ready.length, .slice qu8 p.tlbs.length p.tlbs.length, .slice qu9 p.doms.length cu9, .int .i64 p.time]))) (results_c1 rfl rfl (run_loadVar_mid _ (w.heap.size + 1) 0 28 [.slice qu0 p.ram.length cu0, .slice qu1 p.kinds.length cu1, .slice qu2 p.slots.length cu2, .slice qu3 p.tasks.length cu3, .slice qu4 p.lines.length p.lines.length, .slice qu5 p.bits.length cu5, .slice qu6 p.cores.length cu6, .slice qu7 p.ready.length p.ready.length, .slice qu8 p.tlbs.length p.tlbs.length, .slice qu9 p.doms.length cu9, .int .i64 p.time] _ RX.out Tryz.underlying28 rfl infoW)) rfl ⟨vv [.slice qu0 p.ram.length cu0, .slice qu1 p.kinds.length cu1, .slice qu2 p.slots.length cu2, .slice qu3 p.tasks.length cu3, .slice qu4 p.lines.length p.lines.length, .slice qu5 p.bits.length cu5, .slice qu6 p.cores.length cu6, .slice qu7 p.ready.length p.ready.length, .slice qu8 p.tlbs.length p.tlbs.length, .slice qu9 p.doms.length cu9, .int .i64 p.time], ll [W0.heap.size, u1.heap.size, u2.heap.size, u3.heap.size, u4.heap.size, u5.heap.size, u6.heap.size, u7.heap.size, u8.heap.size, u9.heap.size, u10.heap.size], rfl, ?_, ?_, ?_, BX.out⟩
 ·refine WorldO.sets ?_ (by show w.heap.size + 1 < W0.heap.size; rw [S0.out]; omega) [.slice qu0 p.ram.length cu0, .slice qu1 p.kinds.length cu1, .slice qu2 p.slots.length cu2, .slice qu3 p.tasks.length cu3, .slice qu4 p.lines.length p.lines.length, .slice qu5 p.bits.length cu5, .slice qu6 p.cores.length cu6, .slice qu7 p.ready.length p.ready.length, .slice qu8 p.tlbs.length p.tlbs.length, .slice qu9 p.doms.length cu9, .int .i64 p.time] 0
  have d0 : W0.drew.heap.size = W0.heap.size := rfl
  have w0 := InO.below (InO.below (InO.below (InO.below (InO.below (InO.below (InO.below (InO.below (InO.below ((show InO u1 _ _ _ _ _ (p.ram.length, ints p.ram) from ⟨O0.out, fun x hx => (O0.out.lt x hx).2⟩)) N1.out) N2.out) N3.out) N4.out) N5.out) N6.out) N7.out) N8.out) N9.out
  have w1 := InO.below (InO.below (InO.below (InO.below (InO.below (InO.below (InO.below (InO.below ((show InO u2 _ _ _ _ _ (p.kinds.length, ints p.kinds) from ⟨O1.out, fun x hx => (O1.out.lt x hx).2⟩)) N2.out) N3.out) N4.out) N5.out) N6.out) N7.out) N8.out) N9.out
  have w2 := InO.below (InO.below (InO.below (InO.below (InO.below (InO.below (InO.below ((show InO u3 _ _ _ _ _ (p.slots.length, rowsC 7 p.slots) from ⟨O2.out, fun x hx => (O2.out.lt x hx).2⟩)) N3.out) N4.out) N5.out) N6.out) N7.out) N8.out) N9.out
  have w3 := InO.below (InO.below (InO.below (InO.below (InO.below (InO.below ((show InO u4 _ _ _ _ _ (p.tasks.length, rowsC 20 p.tasks) from ⟨O3.out, fun x hx => (O3.out.lt x hx).2⟩)) N4.out) N5.out) N6.out) N7.out) N8.out) N9.out
  have w4 := OwnL.below (OwnL.below (OwnL.below (OwnL.below (OwnL.below (O4.out) N5.out) N6.out) N7.out) N8.out) N9.out
  have w5 := InO.below (InO.below (InO.below (InO.below ((show InO u6 _ _ _ _ _ (p.bits.length, ints p.bits) from ⟨O5.out, fun x hx => (O5.out.lt x hx).2⟩)) N6.out) N7.out) N8.out) N9.out
  have w6 := InO.below (InO.below (InO.below ((show InO u7 _ _ _ _ _ (p.cores.length, ints p.cores) from ⟨O6.out, fun x hx => (O6.out.lt x hx).2⟩)) N7.out) N8.out) N9.out
  have w7 := OwnL.below (OwnL.below (O7.out) N8.out) N9.out
  have w8 := OwnL.below (O8.out) N9.out
  have w9 := (show InO u10 _ _ _ _ _ (p.doms.length, ints p.doms) from ⟨O9.out, fun x hx => (O9.out.lt x hx).2⟩)
  exact ⟨fun j hj => by
   have s1 := N0.out.size
   have s2 := N1.out.size
   have s3 := N2.out.size
   have s4 := N3.out.size
   have s5 := N4.out.size
   have s6 := N5.out.size
   have s7 := N6.out.size
   have s8 := N7.out.size
   have s9 := N8.out.size
   have s10 := N9.out.size
   have hj2 : j = 0 ∨ j = 1 ∨ j = 2 ∨ j = 3 ∨ j = 4 ∨ j = 5 ∨ j = 6 ∨ j = 7 ∨ j = 8 ∨ j = 9 := by omega
   rcases hj2 with rfl | rfl | rfl | rfl | rfl | rfl | rfl | rfl | rfl | rfl
   ·exact s1
   ·exact s2
   ·exact s3
   ·exact s4
   ·exact s5
   ·exact s6
   ·exact s7
   ·exact s8
   ·exact s9
   ·exact s10, w0, w1, w2, w3, w4, w5, w6, w7, w8, w9, rfl⟩
 ·show w.heap.size ≤ W0.heap.size
  rw [S0.out]
  omega
 ·show u10.heap.size ≤ _
  exact Nat.le_of_eq (setCells_size _ _ _ _).symm
end Go.Proofs.YtkocmkaeaagbaaaGreatDoor.Wd
namespace Go.Proofs.YtkocmkaeaagbaaaGreatDoor.Wd
open Go.RowKit Go.Proofs.YtkocmkaeaagbaaaGreatDoor.Mem Go.Proofs.YtkocmkaeaagbaaaGreatDoor.Bw Go.Proofs.YtkocmkaeaagbaaaGreatDoor.Nums Go.Proofs.YtkocmkaeaagbaaaGreatDoor.Mmu
theorem own_belowN {w w' : World} {N B e size n : Nat} {v : Value} {xs : List Value} (h : w.ownsRow B e size v n xs) (hn : ∀ k, v.ownBlock = some k → k < N) (hb : Below N w w') : w'.ownsRow B e size v n xs := by
 refine ⟨h.1, ?_⟩
 rcases h.2 with h2 | ⟨g, cap, cur, rfl, h3, h4, h5⟩
 ·exact .inl h2
 ·exact .inr ⟨g, cap, cur, rfl, h3, by rw [hb.block g (hn g rfl)]; exact h4, h5⟩
theorem InO.belowN {w w' : World} {N lo hi I s : Nat} {u : Value} {c : Nat × List Value} (h : InO w lo hi I s u c) (hN : hi ≤ N) (hb : Below N w w') : InO w' lo hi I s u c := ⟨own_belowN h.1 (fun k hk => Nat.lt_of_lt_of_le (h.2 k hk) hN) hb, h.2⟩
theorem OwnL.belowN {w w' : World} {N lo hi O I s n : Nat} {v : Value} {cc : Nat → Nat × List Value} (h : OwnL w lo hi O I s n v cc) (hN : hi ≤ N) (hb : Below N w w') (hs : N ≤ w'.heap.size) : OwnL w' lo hi O I s n v cc := by
 obtain ⟨g, us, m, h1, h2, h3, h4, h5⟩ := h
 have up : ∀ d j, j + d = n → m j ≤ m n := fun d => by
  induction d with
  | zero => intro j hj; rw [show j = n by omega]; exact Nat.le_refl _
  | succ d ih => intro j hj; exact Nat.le_trans (h4 j (by omega)) (ih (j + 1) (by omega))
 have g1 : g < N := Nat.lt_of_lt_of_le (h5.lo n (Nat.le_refl _)) (Nat.le_trans h3 hN)
 refine ⟨g, us, m, h1, h2, h3, h4, ⟨h5.len, own_belowN h5.row (fun k hk => ?_) hb, h5.lo, Nat.le_trans h3 (Nat.le_trans hN hs), fun j hj => (h5.each j hj).belowN (Nat.le_trans (up (n - (j + 1)) (j + 1) (by rw [h5.len] at hj; omega)) (Nat.le_trans h3 hN)) hb⟩⟩
 have : g = k := by simpa [Value.ownBlock] using hk
 omega
/-- While the lists are copied one by one: where the world that is copied lies (at w's next block), and where the new one. -/
structure CS (w : World) (V : Nat → Value) (W : World) (xs : List Value) : Prop where
 bel : Below w.heap.size w W
 src : W.rangeAt w.heap.size 0 (arr11 V).toList
 out : W.rangeAt (w.heap.size + 2) 0 xs
 th : W.there (w.heap.size + 2) 0 11
 res : W.there (w.heap.size + 1) 0 11
 sz : w.heap.size + 3 ≤ W.heap.size
theorem CS.put {w W : World} {V : Nat → Value} {xs : List Value} (h : CS w V W xs) {j : Nat} (hj : j < xs.length) (v : Value) : CS w V (W.setCell ⟨w.heap.size + 2, j, none⟩ v) (xs.set j v) :=
 ⟨bset h.bel (by omega) v, range_far h.src (by omega) v, range_set h.out hj v, there_set h.th _ v, there_set h.res _ v, by simpa using h.sz⟩
theorem CS.cell {w W : World} {V : Nat → Value} {xs : List Value} (h : CS w V W xs) {j : Nat} {v : Value} (hj : (arr11 V).toList[j]? = some v) : W.cell? ⟨w.heap.size, j, none⟩ = some v := range_cell h.src hj
theorem there_N {N : Nat} {w w' : World} {b n : Nat} (h : w.there b 0 n) (hb : Below N w w') (hN : b < N) : w'.there b 0 n := fun j hj => by
 obtain ⟨h1, h2⟩ := h j hj
 exact ⟨by rw [hb.cell (p := ⟨b, 0 + j, none⟩) hN]; exact h1, by rw [hb.frozen (p := ⟨b, 0 + j, none⟩) hN]; exact h2⟩
/-- 'append' whose run is known, as one operation. -/
theorem wp_app1 {P : Program} {w w' : World} {o : Oper} {a : Act} {K : Act → World → Prop} {Q : Exit → Act → World → Prop} (s x : Operand) (t : TypeId)
  (ho : o.op = .call { callee := .builtin .append, args := #[s, x], argTypes := #[t, t] }) (v u v' : Value) (hs : a.eval s = v) (hx : a.eval x = u) (hr : (Builtin.append_ #[t, t] o.type #[v, u]).run P w = .ok v' w')
  (h : K (a.put o.dst v') w') : o.wp P a w K Q := by
 unfold Oper.wp
 simp [execOp, ho, resolve, invoke, builtin, hs, hx, hr, Result.andThen]
 exact h
theorem IntsIn.one {w : World} {v : Value} {zs : List Int} (h : IntsIn w v zs) : v.oneCell' = true := by obtain ⟨q, b, off, cap, rfl, _⟩ := h; rfl
theorem ListsIn.one {w : World} {v : Value} {zs : List (List Int)} (h : ListsIn w v zs) : v.oneCell' = true := by obtain ⟨q, b, off, cap, rfl, _⟩ := h; rfl
theorem TlbsIn.one {w : World} {v : Value} {zs : List (List Ent)} (h : TlbsIn w v zs) : v.oneCell' = true := by obtain ⟨q, b, off, cap, rfl, _⟩ := h; rfl
theorem RowsIn.one {n : Nat} {w : World} {v : Value} {zs : List (Nat → Int)} (h : RowsIn n w v zs) : v.oneCell' = true := by obtain ⟨q, b, off, cap, rfl, _⟩ := h; rfl
theorem there_sets {b n B : Nat} : ∀ (vs : List Value) (o : Nat) (w : World), w.there b 0 n → (w.setCells B o vs).there b 0 n
 | [], _, _, h => h
 | v :: r, o, w, h => by
  rw [World.setCells]
  exact there_sets r (o + 1) _ (there_set h ⟨B, o, none⟩ v)
theorem world_one {w : World} {V : Nat → Value} {p : PW} (h : WorldV w V p) : (arr11 V).all (·.oneCell') = true := Array.all_eq_true'.2 fun x hx => by
 simp only [List.mem_toArray, List.mem_cons, List.not_mem_nil, or_false] at hx
 rcases hx with rfl | rfl | rfl | rfl | rfl | rfl | rfl | rfl | rfl | rfl | rfl
 ·exact h.ram.one
 ·exact h.kinds.one
 ·exact h.slots.one
 ·exact h.tasks.one
 ·exact h.lines.one
 ·exact h.bits.one
 ·exact h.cores.one
 ·exact h.ready.one
 ·exact h.tlbs.one
 ·exact h.doms.one
 ·rw [h.time]; rfl
end Go.Proofs.YtkocmkaeaagbaaaGreatDoor.Wd
