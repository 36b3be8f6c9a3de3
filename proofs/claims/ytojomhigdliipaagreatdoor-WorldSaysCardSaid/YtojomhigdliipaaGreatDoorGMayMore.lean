/- The rest of GMay: what few laws reach. -/
import Derived.Test.YtojomhigdliipaaGreatDoorGSl
namespace Go.Proofs.YtojomhigdliipaaGreatDoor.Wd
open Go.RowKit Go.Proofs.YtojomhigdliipaaGreatDoor.Mem Go.Proofs.YtojomhigdliipaaGreatDoor.Bw Go.Proofs.YtojomhigdliipaaGreatDoor.Nums Go.Proofs.YtojomhigdliipaaGreatDoor.Mmu
theorem chk_tells {w : World} {x : Value} {r : Int × Int} (h : ChkV w x r) : Tells w x r.1 r.2 := by
 rcases h with ⟨rfl, rfl⟩ | ⟨e, he, rfl, rfl⟩ | ⟨e, k, b, he, h0, h1, rfl, rfl⟩
 ·exact .inl ⟨rfl, rfl, rfl⟩
 ·exact .inr (.inl ⟨rfl, rfl⟩)
 ·exact .inr (.inr ⟨b, 0, rfl, h0, h1⟩)
set_option maxRecDepth 100000 in
set_option maxHeartbeats 4000000 in
theorem worldSays_any (V : Nat → Value) (p : PW) (w : World) (hv : WorldR w V p) (hg : ETok w) :
  Calls Tryz.prog 3 #[.agg (arr11 V)] w fun r w' => r = .returned (.bool true) ∧ Below w.heap.size w w' := by
 have RG := hid (boxed w V 28)
 have B0 := hid (bal (Below.refl w.heap.size w) (.cells (arr11 V) 28))
 by_cases hs : Small p
 ·obtain ⟨hw, hp⟩ := small_world hv hs
  have HV := hid hv
  have HW := hid hw
  have HP := hid hp
  have HG0 := hid hg
  have HB := hid (huge_f hs)
  clear hv hg hw hp hs
  go_enter Tryz.func3, Tryz.ntmps3
  go_wp2_with fail
  generalize World.alloc _ _ = W0 at RG B0 ⊢
  have BD : Hid (Below W0.heap.size W0 W0.drew) := hid (below_drew W0 1)
  have KS := hid (fun W (hb : Below W0.heap.size W0 W) => range_below RG.out hb)
  have HH := hid (fun W (hb : Below W0.heap.size W0 W) => hugeWorld_any V p W (HV.out.below (btr B0.out hb)))
  have HC := hid (fun W (hb : Below W0.heap.size W0 W) => check_any V p W (HW.out.below (btr B0.out hb)) HP.out)
  have HM := hid (fun W (hb : Below W0.heap.size W0 W) => worldMay_any V p W (HW.out.below (btr B0.out hb)) HP.out)
  have HG := hid (fun W (hb : Below W0.heap.size W0 W) => HG0.out.below (btr B0.out hb))
  rw [HB.out] at HH
  clear HB HV HW HP HG0 RG
  refine wp_region_held_drew (S := fun W => W.rangeAt w.heap.size 0 (arr11 V).toList) (by kernel_rfl) (KS.out _ BD.out) (fun hH0 => ?_)
  have hH := hid hH0
  clear hH0
  refine tg 0 (.agg (arr11 V)) rfl (yieldsIf_load_mid (by rfl) _ _ rfl _ _ rfl ((arr11 V).toList) _ (fun _ h => h) Tryz.underlying28 rfl infoW) hH.out ?_
  simp only [jj]
  refine wpAnyH_ready (rs := [1]) (by kernel_rfl) (by simp) (AllReadyH.cons rfl (fun K hK => ?_) AllReadyH.nil)
  go_simp
  refine (HH.out _ BD.out).mono ?_
  rintro r w1 ⟨rfl, hb⟩
  have A1 := hid (btr BD.out hb)
  clear hb
  go_wp2_with fail
  refine hK.out _ _ (KS.out _ A1.out) (fun hH0 => ?_)
  have hH2 := hid hH0
  clear hK K hH0
  try simp only [Act.put, jD, jE, jF]
  refine tk 2 (.bool false) rfl hH2.out ?_
  simp only [jj]
  refine tg 3 (.agg (arr11 V)) rfl (yieldsIf_load_mid (by rfl) _ _ rfl _ _ rfl ((arr11 V).toList) _ (fun _ h => h) Tryz.underlying28 rfl infoW) hH2.out ?_
  simp only [jj]
  refine tg 5 (.agg (arr11 V)) rfl (yieldsIf_load_mid (by rfl) _ _ rfl _ _ rfl ((arr11 V).toList) _ (fun _ h => h) Tryz.underlying28 rfl infoW) hH2.out ?_
  simp only [jj]
  refine wpAnyH_ready (rs := [4]) (by kernel_rfl) (by simp) (AllReadyH.cons rfl (fun K hK => ?_) AllReadyH.nil)
  go_simp
  refine (HC.out _ A1.out).mono ?_
  rintro r w2 ⟨x, rfl, hc, hb⟩
  have A2 := hid (btr A1.out hb)
  have TT := hid (chk_tells hc)
  clear hb hc
  go_wp2_with fail
  refine hK.out _ _ (KS.out _ A2.out) (fun hH0 => ?_)
  have hH3 := hid hH0
  clear hK K hH0
  try simp only [Act.put, jD, jE, jF]
  refine wpAnyH_ready (rs := [6]) (by kernel_rfl) (by simp) (AllReadyH.cons rfl (fun K hK => ?_) AllReadyH.nil)
  go_simp
  refine (HM.out _ A2.out).mono ?_
  rintro r w3 ⟨rfl, hb⟩
  have A3 := hid (btr A2.out hb)
  have TU := hid (TT.out.below hb)
  clear hb
  go_wp2_with fail
  refine hK.out _ _ (KS.out _ A3.out) (fun hH0 => ?_)
  have hH4 := hid hH0
  clear hK K hH0
  try simp only [Act.put, jD, jE, jF]
  refine wpAnyH_ready (rs := [7]) (by kernel_rfl) (by simp) (AllReadyH.cons rfl (fun K hK => ?_) AllReadyH.nil)
  go_simp
  refine (is_yes x _ _ _ (HG.out _ A3.out) TU.out).mono ?_
  rintro r w4 ⟨rfl, hb⟩
  have A4 := hid (btr A3.out hb)
  clear hb
  go_wp2_with fail
  refine hK.out _ _ (KS.out _ A4.out) (fun hH0 => ?_)
  have hH5 := hid hH0
  clear hK K hH0
  try simp only [Act.put, jD, jE, jF]
  refine tk 8 (.bool true) rfl hH5.out ?_
  simp only [jj]
  refine tk 9 (.bool true) rfl hH5.out ?_
  simp only [jj]
  refine wpAnyH_done (by kernel_rfl) ?_ _
  clear hH hH2 hH3 hH4 hH5
  go_wp2_with fail
  go_ret
  exact ⟨rfl, btr B0.out A4.out⟩
 ·have HV := hid hv
  have HB := hid (huge_t hs)
  clear hv hg hs
  go_enter Tryz.func3, Tryz.ntmps3
  go_wp2_with fail
  generalize World.alloc _ _ = W0 at RG B0 ⊢
  have BD : Hid (Below W0.heap.size W0 W0.drew) := hid (below_drew W0 1)
  have KS := hid (fun W (hb : Below W0.heap.size W0 W) => range_below RG.out hb)
  have HH := hid (fun W (hb : Below W0.heap.size W0 W) => hugeWorld_any V p W (HV.out.below (btr B0.out hb)))
  rw [HB.out] at HH
  clear HB HV RG
  refine wp_region_held_drew (S := fun W => W.rangeAt w.heap.size 0 (arr11 V).toList) (by kernel_rfl) (KS.out _ BD.out) (fun hH0 => ?_)
  have hH := hid hH0
  clear hH0
  refine tg 0 (.agg (arr11 V)) rfl (yieldsIf_load_mid (by rfl) _ _ rfl _ _ rfl ((arr11 V).toList) _ (fun _ h => h) Tryz.underlying28 rfl infoW) hH.out ?_
  simp only [jj]
  refine wpAnyH_ready (rs := [1]) (by kernel_rfl) (by simp) (AllReadyH.cons rfl (fun K hK => ?_) AllReadyH.nil)
  go_simp
  refine (HH.out _ BD.out).mono ?_
  rintro r w1 ⟨rfl, hb⟩
  have A1 := hid (btr BD.out hb)
  clear hb
  go_wp2_with fail
  refine hK.out _ _ (KS.out _ A1.out) (fun hH0 => ?_)
  have hH2 := hid hH0
  clear hK K hH0
  try simp only [Act.put, jD, jE, jF]
  refine tk 2 (.bool true) rfl hH2.out ?_
  simp only [jj]
  refine tn 3 undef rfl hH2.out ?_
  simp only [jj]
  refine tn 4 undef rfl hH2.out ?_
  simp only [jj]
  refine tn 5 undef rfl hH2.out ?_
  simp only [jj]
  refine tn 6 undef rfl hH2.out ?_
  simp only [jj]
  refine tn 7 undef rfl hH2.out ?_
  simp only [jj]
  refine tk 8 (.bool true) rfl hH2.out ?_
  simp only [jj]
  refine tk 9 (.bool true) rfl hH2.out ?_
  simp only [jj]
  refine wpAnyH_done (by kernel_rfl) ?_ _
  clear hH hH2
  go_wp2_with fail
  go_ret
  exact ⟨rfl, btr B0.out A1.out⟩
end Go.Proofs.YtojomhigdliipaaGreatDoor.Wd
