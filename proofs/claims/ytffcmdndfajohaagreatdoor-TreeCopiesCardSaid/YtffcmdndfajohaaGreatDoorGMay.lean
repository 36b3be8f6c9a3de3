/- Whether a world is sound, by the other text: keyholdref.WorldMay and Sound; walked. (Written by mk_may.py.) · keyholdlaw.WorldSays, walked. (Written by mk_says.py.) -/
import Derived.Test.YtffcmdndfajohaaGreatDoorWdMayNo
import Derived.Test.YtffcmdndfajohaaGreatDoorWdMayYes
import Derived.Test.YtffcmdndfajohaaGreatDoorGLook
namespace Go.Proofs.YtffcmdndfajohaaGreatDoor.Wd
open Go.RowKit Go.Proofs.YtffcmdndfajohaaGreatDoor.Mem Go.Proofs.YtffcmdndfajohaaGreatDoor.Bw Go.Proofs.YtffcmdndfajohaaGreatDoor.Nums Go.Proofs.YtffcmdndfajohaaGreatDoor.Mmu

theorem worldMay_any (V : Nat → Value) (p : PW) (w : World) (hv : WorldV w V p) (hp : p.Fits) :
    Calls Tryz.prog 12 #[.agg (arr11 V)] w fun r w' => r = .returned (.agg #[.int .i64 (wmA p).1, .int .i64 (wmA p).2]) ∧ Below w.heap.size w w' := by
  cases h : (lfB p && within 0 1000000 p.time) with
  | false => exact worldMay_no V p w hv hp h
  | true =>
    have h2 := h
    rw [Bool.and_eq_true] at h2
    exact worldMay_yes V p w hv hp (lfB_in h2.1) h2.2 (by unfold wmA; rw [h]; rfl)
end Go.Proofs.YtffcmdndfajohaaGreatDoor.Wd
namespace Go.Proofs.YtffcmdndfajohaaGreatDoor.Wd
open Go.RowKit Go.Proofs.YtffcmdndfajohaaGreatDoor.Mem Go.Proofs.YtffcmdndfajohaaGreatDoor.Bw Go.Proofs.YtffcmdndfajohaaGreatDoor.Nums Go.Proofs.YtffcmdndfajohaaGreatDoor.Mmu

theorem EntsRaw.below {w w' : World} {v : Value} {l : List Ent} (h : EntsRaw w v l) (hb : Below w.heap.size w w') : EntsRaw w' v l := by
  obtain ⟨q, b, off, cap, h1, h2, h3, h4⟩ := h
  exact ⟨q, b, off, cap, h1, h2, h3.below hb, h4⟩
theorem ListsRaw.below {w w' : World} {v : Value} {ls : List (List Int)} (h : ListsRaw w v ls) (hb : Below w.heap.size w w') : ListsRaw w' v ls := by
  obtain ⟨q, b, off, cap, h1, h2, h3, h4⟩ := h
  refine ⟨q, b, off, cap, h1, h2, fun j hj => ?_, h4⟩
  obtain ⟨y, hy, hr, hm⟩ := h3 j hj
  exact ⟨y, (hb.cell (World.block_lt_of_cell? _ _ hy)).trans hy, hr.below hb, hm⟩
theorem TlbsRaw.below {w w' : World} {v : Value} {ls : List (List Ent)} (h : TlbsRaw w v ls) (hb : Below w.heap.size w w') : TlbsRaw w' v ls := by
  obtain ⟨q, b, off, cap, h1, h2, h3, h4⟩ := h
  refine ⟨q, b, off, cap, h1, h2, fun j hj => ?_, h4⟩
  obtain ⟨y, hy, hr, hm⟩ := h3 j hj
  exact ⟨y, (hb.cell (World.block_lt_of_cell? _ _ hy)).trans hy, hr.below hb, hm⟩
theorem WorldR.below {w w' : World} {v : Nat → Value} {p : PW} (h : WorldR w v p) (hb : Below w.heap.size w w') : WorldR w' v p :=
  ⟨⟨h.ram.1.below hb, h.ram.2⟩, ⟨h.kinds.1.below hb, h.kinds.2⟩, ⟨h.slots.1.below hb, h.slots.2⟩, ⟨h.tasks.1.below hb, h.tasks.2⟩, h.lines.below hb, ⟨h.bits.1.below hb, h.bits.2⟩, ⟨h.cores.1.below hb, h.cores.2⟩, h.ready.below hb, h.tlbs.below hb, ⟨h.doms.1.below hb, h.doms.2⟩, h.time⟩
theorem chk_tells {w : World} {x : Value} {r : Int × Int} (h : ChkV w x r) : Tells w x r.1 r.2 := by
  cases h with
  | fine => exact .inl ⟨rfl, rfl, rfl⟩
  | all e he => exact .inr (.inl ⟨rfl, rfl⟩)
  | «at» b he h0 h1 => exact .inr (.inr ⟨b, 0, rfl, h0, h1⟩)
set_option maxRecDepth 100000 in
set_option maxHeartbeats 4000000 in
theorem worldSays_any (V : Nat → Value) (p : PW) (w : World) (hv : WorldR w V p) (hg : ETok w) :
    Calls Tryz.prog 3 #[.agg (arr11 V)] w fun r w' => r = .returned (.bool true) ∧ Below w.heap.size w w' := by
  have RG := hid (boxed w V 28)
  have B0 := hid (bal (Below.refl w.heap.size w) (.cells (arr11 V) 28))
  by_cases hs : Small p
  · obtain ⟨hw, hp⟩ := small_world hv hs
    have HV := hid hv
    have HW := hid hw
    have HP := hid hp
    have HG0 := hid hg
    have HB := hid (huge_f hs)
    clear hv hg hw hp hs
    go_enter Tryz.func3, Tryz.ntmps3
    go_wp2_with fail
    generalize World.alloc _ _ = W0 at RG B0 ⊢
    have BD : Hid (Below W0.heap.size W0 W0.drew) := hid (below_drew W0 1)
    have KS := hid (fun W (hb : Below W0.heap.size W0 W) => range_below RG.out hb)
    have HH := hid (fun W (hb : Below W0.heap.size W0 W) => hugeWorld_any V p W (HV.out.below (btr B0.out hb)))
    have HC := hid (fun W (hb : Below W0.heap.size W0 W) => check_any V p W (HW.out.below (btr B0.out hb)) HP.out)
    have HM := hid (fun W (hb : Below W0.heap.size W0 W) => worldMay_any V p W (HW.out.below (btr B0.out hb)) HP.out)
    have HG := hid (fun W (hb : Below W0.heap.size W0 W) => HG0.out.below (btr B0.out hb))
    rw [HB.out] at HH
    clear HB HV HW HP HG0 RG
    refine wp_region_held_drew (S := fun W => W.rangeAt w.heap.size 0 (arr11 V).toList) (by kernel_rfl) (KS.out _ BD.out) (fun hH0 => ?_)
    have hH := hid hH0
    clear hH0
    refine wpAnyH_take (i := 0) (v := .agg (arr11 V)) rfl (by kernel_rfl) (by kernel_rfl) (by kernel_rfl) (fun _ _ _ h => h) (yieldsIf_load_mid (by rfl) _ _ rfl _ _ rfl ((arr11 V).toList) _ (fun _ h => h) Tryz.underlying28 rfl infoW) hH.out ?_
    simp only [Act.put, List.getElem_toArray, List.getElem_cons_zero, List.setIfInBounds_toArray, List.set_cons_zero, List.set_cons_succ]
    refine wpAnyH_ready (rs := [1]) (by kernel_rfl) (by simp) (AllReadyH.cons rfl (fun K hK => ?_) AllReadyH.nil)
    go_simp
    refine (HH.out _ BD.out).mono ?_
    rintro r w1 ⟨rfl, hb⟩
    have A1 := hid (btr BD.out hb)
    clear hb
    go_wp2_with fail
    refine hK.out _ _ (KS.out _ A1.out) (fun hH0 => ?_)
    have hH2 := hid hH0
    clear hK K hH0
    try simp only [Act.put, List.setIfInBounds_toArray, List.set_cons_zero, List.set_cons_succ]
    refine wpAnyH_take (i := 2) (v := .bool false) rfl (by kernel_rfl) (by kernel_rfl) (by kernel_rfl) (fun _ _ _ h => h) (Or.inl ⟨by rfl, fun W h => by clear h; go_simp⟩) hH2.out ?_
    simp only [Act.put, List.getElem_toArray, List.getElem_cons_succ, List.getElem_cons_zero, List.setIfInBounds_toArray, List.set_cons_zero, List.set_cons_succ]
    refine wpAnyH_take (i := 3) (v := .agg (arr11 V)) rfl (by kernel_rfl) (by kernel_rfl) (by kernel_rfl) (fun _ _ _ h => h) (yieldsIf_load_mid (by rfl) _ _ rfl _ _ rfl ((arr11 V).toList) _ (fun _ h => h) Tryz.underlying28 rfl infoW) hH2.out ?_
    simp only [Act.put, List.getElem_toArray, List.getElem_cons_succ, List.getElem_cons_zero, List.setIfInBounds_toArray, List.set_cons_zero, List.set_cons_succ]
    refine wpAnyH_take (i := 5) (v := .agg (arr11 V)) rfl (by kernel_rfl) (by kernel_rfl) (by kernel_rfl) (fun _ _ _ h => h) (yieldsIf_load_mid (by rfl) _ _ rfl _ _ rfl ((arr11 V).toList) _ (fun _ h => h) Tryz.underlying28 rfl infoW) hH2.out ?_
    simp only [Act.put, List.getElem_toArray, List.getElem_cons_succ, List.getElem_cons_zero, List.setIfInBounds_toArray, List.set_cons_zero, List.set_cons_succ]
    refine wpAnyH_ready (rs := [4]) (by kernel_rfl) (by simp) (AllReadyH.cons rfl (fun K hK => ?_) AllReadyH.nil)
    go_simp
    refine (HC.out _ A1.out).mono ?_
    rintro r w2 ⟨x, rfl, hc, hb⟩
    have A2 := hid (btr A1.out hb)
    have TT := hid (chk_tells hc)
    clear hb hc
    go_wp2_with fail
    refine hK.out _ _ (KS.out _ A2.out) (fun hH0 => ?_)
    have hH3 := hid hH0
    clear hK K hH0
    try simp only [Act.put, List.setIfInBounds_toArray, List.set_cons_zero, List.set_cons_succ]
    refine wpAnyH_ready (rs := [6]) (by kernel_rfl) (by simp) (AllReadyH.cons rfl (fun K hK => ?_) AllReadyH.nil)
    go_simp
    refine (HM.out _ A2.out).mono ?_
    rintro r w3 ⟨rfl, hb⟩
    have A3 := hid (btr A2.out hb)
    have TU := hid (TT.out.below hb)
    clear hb
    go_wp2_with fail
    refine hK.out _ _ (KS.out _ A3.out) (fun hH0 => ?_)
    have hH4 := hid hH0
    clear hK K hH0
    try simp only [Act.put, List.setIfInBounds_toArray, List.set_cons_zero, List.set_cons_succ]
    refine wpAnyH_ready (rs := [7]) (by kernel_rfl) (by simp) (AllReadyH.cons rfl (fun K hK => ?_) AllReadyH.nil)
    go_simp
    refine (is_yes x _ _ _ (HG.out _ A3.out) TU.out).mono ?_
    rintro r w4 ⟨rfl, hb⟩
    have A4 := hid (btr A3.out hb)
    clear hb
    go_wp2_with fail
    refine hK.out _ _ (KS.out _ A4.out) (fun hH0 => ?_)
    have hH5 := hid hH0
    clear hK K hH0
    try simp only [Act.put, List.setIfInBounds_toArray, List.set_cons_zero, List.set_cons_succ]
    refine wpAnyH_take (i := 8) (v := .bool true) rfl (by kernel_rfl) (by kernel_rfl) (by kernel_rfl) (fun _ _ _ h => h) (Or.inl ⟨by rfl, fun W h => by clear h; go_simp⟩) hH5.out ?_
    simp only [Act.put, List.getElem_toArray, List.getElem_cons_succ, List.getElem_cons_zero, List.setIfInBounds_toArray, List.set_cons_zero, List.set_cons_succ]
    refine wpAnyH_take (i := 9) (v := .bool true) rfl (by kernel_rfl) (by kernel_rfl) (by kernel_rfl) (fun _ _ _ h => h) (Or.inl ⟨by rfl, fun W h => by clear h; go_simp⟩) hH5.out ?_
    simp only [Act.put, List.getElem_toArray, List.getElem_cons_succ, List.getElem_cons_zero, List.setIfInBounds_toArray, List.set_cons_zero, List.set_cons_succ]
    refine wpAnyH_done (by kernel_rfl) ?_ _
    clear hH hH2 hH3 hH4 hH5
    go_wp2_with fail
    go_ret
    exact ⟨rfl, btr B0.out A4.out⟩
  · have HV := hid hv
    have HB := hid (huge_t hs)
    clear hv hg hs
    go_enter Tryz.func3, Tryz.ntmps3
    go_wp2_with fail
    generalize World.alloc _ _ = W0 at RG B0 ⊢
    have BD : Hid (Below W0.heap.size W0 W0.drew) := hid (below_drew W0 1)
    have KS := hid (fun W (hb : Below W0.heap.size W0 W) => range_below RG.out hb)
    have HH := hid (fun W (hb : Below W0.heap.size W0 W) => hugeWorld_any V p W (HV.out.below (btr B0.out hb)))
    rw [HB.out] at HH
    clear HB HV RG
    refine wp_region_held_drew (S := fun W => W.rangeAt w.heap.size 0 (arr11 V).toList) (by kernel_rfl) (KS.out _ BD.out) (fun hH0 => ?_)
    have hH := hid hH0
    clear hH0
    refine wpAnyH_take (i := 0) (v := .agg (arr11 V)) rfl (by kernel_rfl) (by kernel_rfl) (by kernel_rfl) (fun _ _ _ h => h) (yieldsIf_load_mid (by rfl) _ _ rfl _ _ rfl ((arr11 V).toList) _ (fun _ h => h) Tryz.underlying28 rfl infoW) hH.out ?_
    simp only [Act.put, List.getElem_toArray, List.getElem_cons_zero, List.setIfInBounds_toArray, List.set_cons_zero, List.set_cons_succ]
    refine wpAnyH_ready (rs := [1]) (by kernel_rfl) (by simp) (AllReadyH.cons rfl (fun K hK => ?_) AllReadyH.nil)
    go_simp
    refine (HH.out _ BD.out).mono ?_
    rintro r w1 ⟨rfl, hb⟩
    have A1 := hid (btr BD.out hb)
    clear hb
    go_wp2_with fail
    refine hK.out _ _ (KS.out _ A1.out) (fun hH0 => ?_)
    have hH2 := hid hH0
    clear hK K hH0
    try simp only [Act.put, List.setIfInBounds_toArray, List.set_cons_zero, List.set_cons_succ]
    refine wpAnyH_take (i := 2) (v := .bool true) rfl (by kernel_rfl) (by kernel_rfl) (by kernel_rfl) (fun _ _ _ h => h) (Or.inl ⟨by rfl, fun W h => by clear h; go_simp⟩) hH2.out ?_
    simp only [Act.put, List.getElem_toArray, List.getElem_cons_succ, List.getElem_cons_zero, List.setIfInBounds_toArray, List.set_cons_zero, List.set_cons_succ]
    refine wpAnyH_take (i := 3) (v := undef) rfl (by kernel_rfl) (by kernel_rfl) (by kernel_rfl) (fun _ _ _ h => h) (Or.inr ⟨by rfl, rfl⟩) hH2.out ?_
    simp only [Act.put, List.getElem_toArray, List.getElem_cons_succ, List.getElem_cons_zero, List.setIfInBounds_toArray, List.set_cons_zero, List.set_cons_succ]
    refine wpAnyH_take (i := 4) (v := undef) rfl (by kernel_rfl) (by kernel_rfl) (by kernel_rfl) (fun _ _ _ h => h) (Or.inr ⟨by rfl, rfl⟩) hH2.out ?_
    simp only [Act.put, List.getElem_toArray, List.getElem_cons_succ, List.getElem_cons_zero, List.setIfInBounds_toArray, List.set_cons_zero, List.set_cons_succ]
    refine wpAnyH_take (i := 5) (v := undef) rfl (by kernel_rfl) (by kernel_rfl) (by kernel_rfl) (fun _ _ _ h => h) (Or.inr ⟨by rfl, rfl⟩) hH2.out ?_
    simp only [Act.put, List.getElem_toArray, List.getElem_cons_succ, List.getElem_cons_zero, List.setIfInBounds_toArray, List.set_cons_zero, List.set_cons_succ]
    refine wpAnyH_take (i := 6) (v := undef) rfl (by kernel_rfl) (by kernel_rfl) (by kernel_rfl) (fun _ _ _ h => h) (Or.inr ⟨by rfl, rfl⟩) hH2.out ?_
    simp only [Act.put, List.getElem_toArray, List.getElem_cons_succ, List.getElem_cons_zero, List.setIfInBounds_toArray, List.set_cons_zero, List.set_cons_succ]
    refine wpAnyH_take (i := 7) (v := undef) rfl (by kernel_rfl) (by kernel_rfl) (by kernel_rfl) (fun _ _ _ h => h) (Or.inr ⟨by rfl, rfl⟩) hH2.out ?_
    simp only [Act.put, List.getElem_toArray, List.getElem_cons_succ, List.getElem_cons_zero, List.setIfInBounds_toArray, List.set_cons_zero, List.set_cons_succ]
    refine wpAnyH_take (i := 8) (v := .bool true) rfl (by kernel_rfl) (by kernel_rfl) (by kernel_rfl) (fun _ _ _ h => h) (Or.inl ⟨by rfl, fun W h => by clear h; go_simp⟩) hH2.out ?_
    simp only [Act.put, List.getElem_toArray, List.getElem_cons_succ, List.getElem_cons_zero, List.setIfInBounds_toArray, List.set_cons_zero, List.set_cons_succ]
    refine wpAnyH_take (i := 9) (v := .bool true) rfl (by kernel_rfl) (by kernel_rfl) (by kernel_rfl) (fun _ _ _ h => h) (Or.inl ⟨by rfl, fun W h => by clear h; go_simp⟩) hH2.out ?_
    simp only [Act.put, List.getElem_toArray, List.getElem_cons_succ, List.getElem_cons_zero, List.setIfInBounds_toArray, List.set_cons_zero, List.set_cons_succ]
    refine wpAnyH_done (by kernel_rfl) ?_ _
    clear hH hH2
    go_wp2_with fail
    go_ret
    exact ⟨rfl, btr B0.out A1.out⟩
end Go.Proofs.YtffcmdndfajohaaGreatDoor.Wd
