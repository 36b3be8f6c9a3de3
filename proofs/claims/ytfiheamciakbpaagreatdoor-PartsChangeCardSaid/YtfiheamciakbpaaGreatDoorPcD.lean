/- Which frames are not the same in two worlds: parts.Changed, keyholdlaw.PartsChange; walked. (Written by mk_pcd.py.) -/
import Derived.Test.YtfiheamciakbpaaGreatDoorPcC
import Derived.Test.YtfiheamciakbpaaGreatDoorGOpenW
import Derived.Test.YtfiheamciakbpaaGreatDoorGTell
import Derived.Test.YtfiheamciakbpaaGreatDoorWdCheck
namespace Go.Proofs.YtfiheamciakbpaaGreatDoor.Wd
open Go.RowKit Go.Proofs.YtfiheamciakbpaaGreatDoor.Mem Go.Proofs.YtfiheamciakbpaaGreatDoor.Bw Go.Proofs.YtfiheamciakbpaaGreatDoor.Nums Go.Proofs.YtfiheamciakbpaaGreatDoor.Mmu
/-- What Changed tells: its error, its frames. -/
def chE (p q : PW) : Int := if sndB p = true ∧ sndB q = true then if p.kinds.length = q.kinds.length then 0 else 2 else 8
def chA (p q : PW) : List Int := if chE p q = 0 then chL p q p.kinds.length else []
theorem chE_0 {p q : PW} (h : chE p q = 0) : (sndB p = true ∧ sndB q = true) ∧ p.kinds.length = q.kinds.length := by
 unfold chE at h
 by_cases h1 : sndB p = true ∧ sndB q = true
 ·rw [if_pos h1] at h
  by_cases h2 : p.kinds.length = q.kinds.length
  ·exact ⟨h1, h2⟩
  ·rw [if_neg h2] at h; cases h
 ·rw [if_neg h1] at h; cases h
set_option maxRecDepth 100000 in
set_option maxHeartbeats 8000000 in
theorem changed_any (V U : Nat → Value) (p q : PW) (w : World) (hv : WorldV w V p) (hu : WorldV w U q) (hp : p.Fits) (hq : q.Fits) (r0 : RoomV (V 0)) (r2 : RoomV (V 2)) (s0 : RoomV (U 0)) (s2 : RoomV (U 2)) :
  Calls Tryz.prog 15 #[.agg (arr11 V), .agg (arr11 U)] w fun x w' => ∃ v, x = .returned (.tuple #[v, eV (chE p q)]) ∧ IntsIn w' v (chA p q) ∧ Below w.heap.size w w' := by
 have s0' : (w.alloc (.cells (arr11 V) 28)).heap.size = w.heap.size + 1 := by simp
 have B0 := hid (bal (bal (Below.refl w.heap.size w) (.cells (arr11 V) 28)) (.cells (arr11 U) 28))
 have VA := hid (show ViewAt ((w.alloc (.cells (arr11 V) 28)).alloc (.cells (arr11 U) 28)) w.heap.size V p from ⟨range_below (boxed w V 28) (bal (Below.refl _ _) _), hv.below B0.out, hp⟩)
 have VB := hid (show ViewAt ((w.alloc (.cells (arr11 V) 28)).alloc (.cells (arr11 U) 28)) (w.heap.size + 1) U q from ⟨s0' ▸ boxed (w.alloc (.cells (arr11 V) 28)) U 28, hu.below B0.out, hq⟩)
 have RA := hid VA.out.r
 have RB := hid VB.out.r
 have HP := hid hp
 have HQ := hid hq
 have HR := hid (show RoomV (V 0) ∧ RoomV (V 2) ∧ RoomV (U 0) ∧ RoomV (U 2) from ⟨r0, r2, s0, s2⟩)
 clear hv hu hp hq s0' r0 r2 s0 s2
 go_enter Tryz.func15, Tryz.ntmps15
 go_wp2_with (first | go_skip | go_big_skip | ((with_reducible (show wpList _ _ _ (⟨_, Op.load 28 _, _, _, _, _⟩ :: _) _ _)); refine wp_ldWg (by rfl) _ rfl _ rfl V RA.out ?_) | ((with_reducible (show wpList _ _ _ (⟨_, Op.load 28 _, _, _, _, _⟩ :: _) _ _)); refine wp_ldWg (by rfl) _ rfl _ rfl U RB.out ?_))
 generalize (w.alloc (.cells (arr11 V) 28)).alloc (.cells (arr11 U) 28) = W0 at *
 refine (check_any V p W0 VA.out.v HP.out).mono ?_
 rintro r w1 ⟨x, rfl, hc, hb⟩
 have B1 := hid hb
 replace RA := hid (range_below RA.out hb)
 replace RB := hid (range_below RB.out hb)
 cases hs : sndB p with
 | false =>
  have HN := hid (show chE p q = 8 from if_neg fun h => by rw [hs] at h; cases h.1)
  have HX := hid (chk_not3 hc hs)
  clear hb hc hs
  rcases HX.out with ⟨e, rfl⟩ | ⟨b, rfl⟩
  all_goals
   clear HX
   go_wp2_with (first | go_skip | go_big_skip | ((with_reducible (show wpList _ _ _ (⟨_, Op.load 28 _, _, _, _, _⟩ :: _) _ _)); refine wp_ldWg (by rfl) _ rfl _ rfl V RA.out ?_) | ((with_reducible (show wpList _ _ _ (⟨_, Op.load 28 _, _, _, _, _⟩ :: _) _ _)); refine wp_ldWg (by rfl) _ rfl _ rfl U RB.out ?_))
   go_ret2
   exact ⟨.slice none 0 0, by rw [HN.out]; rfl, by unfold chA; rw [HN.out]; exact ints_nil _, btr B0.out B1.out⟩
 | true =>
 have HS := hid hs
 obtain rfl := chk_nil hc hs
 clear hb hc hs
 go_wp2_with (first | go_skip | go_big_skip | ((with_reducible (show wpList _ _ _ (⟨_, Op.load 28 _, _, _, _, _⟩ :: _) _ _)); refine wp_ldWg (by rfl) _ rfl _ rfl V RA.out ?_) | ((with_reducible (show wpList _ _ _ (⟨_, Op.load 28 _, _, _, _, _⟩ :: _) _ _)); refine wp_ldWg (by rfl) _ rfl _ rfl U RB.out ?_))
 refine (check_any U q w1 (VB.out.v.below B1.out) HQ.out).mono ?_
 rintro r w2 ⟨x, rfl, hc, hb⟩
 have B2 := hid (btr B1.out hb)
 cases hs : sndB q with
 | false =>
  have HN := hid (show chE p q = 8 from if_neg fun h => by rw [hs] at h; cases h.2)
  have HX := hid (chk_not3 hc hs)
  clear hb hc hs RA RB
  rcases HX.out with ⟨e, rfl⟩ | ⟨b, rfl⟩
  all_goals
   clear HX
   go_wp2_with fail
   go_ret2
   exact ⟨.slice none 0 0, by rw [HN.out]; rfl, by unfold chA; rw [HN.out]; exact ints_nil _, btr B0.out B2.out⟩
 | true =>
 have HT := hid hs
 obtain rfl := chk_nil hc hs
 clear hb hc hs RA RB B1
 have VA2 := hid (VA.out.below B2.out)
 have VB2 := hid (VB.out.below B2.out)
 have c1 : w2.cell? ⟨w.heap.size, 1, none⟩ = some (V 1) := range_cell VA2.out.r rfl
 have d1 : w2.cell? ⟨w.heap.size + 1, 1, none⟩ = some (U 1) := range_cell VB2.out.r rfl
 obtain ⟨qa, ba, oa, ca, ea, -, -⟩ := VA2.out.v.kinds
 obtain ⟨qb, bb, ob, cb, eb, -, -⟩ := VB2.out.v.kinds
 have hk1 : (p.kinds.length : Int) ≤ 1000 := by have := HP.out.kinds; omega
 have hk2 : (q.kinds.length : Int) ≤ 1000 := by have := HQ.out.kinds; omega
 rw [ea] at c1
 rw [eb] at d1
 by_cases hk : p.kinds.length = q.kinds.length
 rotate_left
 ·have HN := hid (show chE p q = 2 by unfold chE; rw [if_pos ⟨HS.out, HT.out⟩, if_neg hk])
  clear ea eb
  go_wp2_with fail
  go_ret2
  exact ⟨.slice none 0 0, by rw [HN.out]; rfl, by unfold chA; rw [HN.out]; exact ints_nil _, btr B0.out B2.out⟩
 have HN := hid (show chE p q = 0 by unfold chE; rw [if_pos ⟨HS.out, HT.out⟩, if_pos hk])
 have HL := hid (len2 (snd_of HS.out).lf (snd_of HT.out).lf hk)
 rw [← hk] at d1
 clear ea eb hk
 go_wp2_with fail
 clear c1 d1
 go_loopw [6, 28] (fun u i wr => ∃ (k : Nat) (qu : Option Addr) (cu : Nat), k ≤ p.kinds.length ∧ i = .int .i64 k ∧ u = .slice qu (chL p q k).length cu ∧ Hid (wr.ownsRow w2.heap.size 3 1 (.slice qu (chL p q k).length cu) (chL p q k).length (ints (chL p q k))) ∧ Hid (Below w2.heap.size w2 wr)) (fun _ i _ => p.kinds.length - (intOf i).toNat)
 case atStart => exact ⟨0, none, 0, by omega, rfl, rfl, hid (World.ownsRow_nil _ _ _ _), hid (Below.refl _ _)⟩
 case round =>
  obtain ⟨k, qu, cu, hk, rfl, rfl, HO, HB⟩ := hrel
  by_cases hlt : k < p.kinds.length
  rotate_left
  ·obtain rfl : k = p.kinds.length := by omega
   have hge : ¬ ((p.kinds.length : Int) < (p.kinds.length : Int)) := by omega
   go_wp2_with fail
   go_ret2
   exact ⟨_, by rw [HN.out]; rfl, by unfold chA; rw [HN.out]; exact own_ints HO.out, btr B0.out (btr B2.out HB.out)⟩
  have hlt2 : (k : Int) < (p.kinds.length : Int) := by omega
  have HCH := hid (chL_succ p q k)
  have HCL := hid (Nat.le_trans (chL_len p q k) (show k ≤ 1000 by omega))
  have HA := hid (alike_any w.heap.size (w.heap.size + 1) V U p q p.kinds.length k wr (VA2.out.below HB.out) (VB2.out.below HB.out) HR.out.1 HR.out.2.1 HR.out.2.2.1 HR.out.2.2.2 HL.out hlt)
  generalize chL p q k = zs at HO HCH HCL ⊢
  go_wp2_with fail
  refine HA.out.mono ?_
  rintro r w3 ⟨rfl, hd⟩
  have HO3 := hid (own_below HO.out hd.below)
  have HB3 := hid (btr HB.out hd.below)
  clear hd HA HO HB
  cases hs : smB p q k with
  | true =>
   rw [hs, if_pos rfl, List.append_nil] at HCH
   clear hs
   go_wp2_with fail
   refine ⟨⟨k + 1, qu, cu, by omega, by go_num, by rw [HCH.out], hid (by rw [HCH.out]; exact HO3.out), HB3⟩, by simp [intOf]; omega⟩
  | false =>
   rw [hs, if_neg (by decide)] at HCH
   obtain ⟨q', c', w', hr, h2, h3⟩ := app_i (y := (k : Int)) HB3.out HCL.out HO3.out
   have HR := hid hr
   have HNN := hid h2
   have HBB := hid h3
   clear hr h2 h3 hs
   go_wp2_with (first | (at_builtin; refine wpList_appP rfl _ _ 22 rfl (.slice qu zs.length cu) (.slice (some ⟨w3.heap.size, 0, none⟩) 1 1) (.slice q' (zs.length + 1) c') rfl rfl HR.out ?_))
   exact ⟨⟨k + 1, q', c', by omega, by go_num, by rw [HCH.out, List.length_append]; rfl, hid (by rw [HCH.out]; have := HNN.out; rw [List.length_append] at this ⊢; exact this), HBB⟩, by simp [intOf]; omega⟩
set_option maxRecDepth 100000 in
set_option maxHeartbeats 8000000 in
theorem partsChange_any (V U : Nat → Value) (p q : PW) (w : World) (hv : WorldR w V p) (hu : WorldR w U q) (r0 : RoomV (V 0)) (r2 : RoomV (V 2)) (s0 : RoomV (U 0)) (s2 : RoomV (U 2)) (hg : ETok w) :
  Calls Tryz.prog 4 #[.agg (arr11 V), .agg (arr11 U)] w fun x w' => x = .returned (.bool true) ∧ Below w.heap.size w w' := by
 have s0' : (w.alloc (.cells (arr11 V) 28)).heap.size = w.heap.size + 1 := by simp
 have B0 := hid (bal (bal (Below.refl w.heap.size w) (.cells (arr11 V) 28)) (.cells (arr11 U) 28))
 have RA := hid (show ((w.alloc (.cells (arr11 V) 28)).alloc (.cells (arr11 U) 28)).rangeAt w.heap.size 0 (arr11 V).toList from range_below (boxed w V 28) (bal (Below.refl _ _) _))
 have RB := hid (show ((w.alloc (.cells (arr11 V) 28)).alloc (.cells (arr11 U) 28)).rangeAt (w.heap.size + 1) 0 (arr11 U).toList from s0' ▸ boxed (w.alloc (.cells (arr11 V) 28)) U 28)
 have HV := hid (hv.below B0.out)
 have HU := hid (hu.below B0.out)
 have HG := hid (hg.below B0.out)
 have HR := hid (show RoomV (V 0) ∧ RoomV (V 2) ∧ RoomV (U 0) ∧ RoomV (U 2) from ⟨r0, r2, s0, s2⟩)
 clear hv hu hg s0' r0 r2 s0 s2
 go_enter Tryz.func4, Tryz.ntmps4
 go_wp2_with (first | go_skip | go_big_skip | ((with_reducible (show wpList _ _ _ (⟨_, Op.load 28 _, _, _, _, _⟩ :: _) _ _)); refine wp_ldWg (by rfl) _ rfl _ rfl V RA.out ?_) | ((with_reducible (show wpList _ _ _ (⟨_, Op.load 28 _, _, _, _, _⟩ :: _) _ _)); refine wp_ldWg (by rfl) _ rfl _ rfl U RB.out ?_))
 generalize (w.alloc (.cells (arr11 V) 28)).alloc (.cells (arr11 U) 28) = W0 at *
 refine (hugeWorld_any V p W0 HV.out).mono ?_
 rintro r w1 ⟨rfl, hb⟩
 have B1 := hid hb
 have KA := hid (fun W (hb : Below W0.heap.size W0 W) => range_below RA.out hb)
 have KB := hid (fun W (hb : Below W0.heap.size W0 W) => range_below RB.out hb)
 replace RA := hid (KA.out _ B1.out)
 replace RB := hid (KB.out _ B1.out)
 clear hb
 by_cases hs : Small p
 rotate_left
 ·rw [huge_t hs]
  clear hs
  go_wp2_with (first | go_skip | go_big_skip | ((with_reducible (show wpList _ _ _ (⟨_, Op.load 28 _, _, _, _, _⟩ :: _) _ _)); refine wp_ldWg (by rfl) _ rfl _ rfl V RA.out ?_) | ((with_reducible (show wpList _ _ _ (⟨_, Op.load 28 _, _, _, _, _⟩ :: _) _ _)); refine wp_ldWg (by rfl) _ rfl _ rfl U RB.out ?_))
  go_ret
  exact ⟨rfl, btr B0.out B1.out⟩
 rw [huge_f hs]
 obtain ⟨hv, hp⟩ := small_world HV.out hs
 have HV2 := hid hv
 have HP := hid hp
 clear hv hp hs HV
 go_wp2_with (first | go_skip | go_big_skip | ((with_reducible (show wpList _ _ _ (⟨_, Op.load 28 _, _, _, _, _⟩ :: _) _ _)); refine wp_ldWg (by rfl) _ rfl _ rfl V RA.out ?_) | ((with_reducible (show wpList _ _ _ (⟨_, Op.load 28 _, _, _, _, _⟩ :: _) _ _)); refine wp_ldWg (by rfl) _ rfl _ rfl U RB.out ?_))
 refine (hugeWorld_any U q w1 (HU.out.below B1.out)).mono ?_
 rintro r w2 ⟨rfl, hb⟩
 replace B1 := hid (btr B1.out hb)
 replace RA := hid (KA.out _ B1.out)
 replace RB := hid (KB.out _ B1.out)
 clear hb
 by_cases hs : Small q
 rotate_left
 ·rw [huge_t hs]
  clear hs
  go_wp2_with (first | go_skip | go_big_skip | ((with_reducible (show wpList _ _ _ (⟨_, Op.load 28 _, _, _, _, _⟩ :: _) _ _)); refine wp_ldWg (by rfl) _ rfl _ rfl V RA.out ?_) | ((with_reducible (show wpList _ _ _ (⟨_, Op.load 28 _, _, _, _, _⟩ :: _) _ _)); refine wp_ldWg (by rfl) _ rfl _ rfl U RB.out ?_))
  go_ret
  exact ⟨rfl, btr B0.out B1.out⟩
 rw [huge_f hs]
 obtain ⟨hu, hq⟩ := small_world HU.out hs
 have HU2 := hid hu
 have HQ := hid hq
 clear hu hq hs HU
 go_wp2_with (first | go_skip | go_big_skip | ((with_reducible (show wpList _ _ _ (⟨_, Op.load 28 _, _, _, _, _⟩ :: _) _ _)); refine wp_ldWg (by rfl) _ rfl _ rfl V RA.out ?_) | ((with_reducible (show wpList _ _ _ (⟨_, Op.load 28 _, _, _, _, _⟩ :: _) _ _)); refine wp_ldWg (by rfl) _ rfl _ rfl U RB.out ?_))
 refine (sound_law V p w2 (HV2.out.below B1.out) HP.out).mono ?_
 rintro r w3 ⟨rfl, hb⟩
 replace B1 := hid (btr B1.out hb)
 replace RA := hid (KA.out _ B1.out)
 replace RB := hid (KB.out _ B1.out)
 clear hb
 have HC := hid (fun W (hb : Below W0.heap.size W0 W) => changed_any V U p q W (HV2.out.below hb) (HU2.out.below hb) HP.out HQ.out HR.out.1 HR.out.2.1 HR.out.2.2.1 HR.out.2.2.2)
 have HI := hid (fun W (hb : Below W0.heap.size W0 W) => is_yes (eV (chE p q)) (chE p q) (-1) W (HG.out.below hb) (eV_tells (chE p q)))
 have HA := hid (show chA p q = if chE p q = 0 then chL p q p.kinds.length else [] from rfl)
 clear HR HG
 cases hs : sndB p with
 | false =>
  rw [show sndE p = 8 by unfold sndE; rw [hs]; rfl]
  have HE := hid (show chE p q = 8 from if_neg fun h => by rw [hs] at h; cases h.1)
  rw [HE.out] at HC HI HA
  rw [if_neg (by decide)] at HA
  have HW := hid (fun W (_ : Below w3.heap.size w3 W) => show IntsIn W (.slice none 0 0) (chA p q) by rw [HA.out]; exact ints_nil _)
  have HLN := hid (show (chA p q).length ≤ 1000 by rw [HA.out]; decide)
  clear hs HE HA
  go_wp2_with (first | go_skip | go_big_skip | ((with_reducible (show wpList _ _ _ (⟨_, Op.load 28 _, _, _, _, _⟩ :: _) _ _)); refine wp_ldWg (by rfl) _ rfl _ rfl V RA.out ?_) | ((with_reducible (show wpList _ _ _ (⟨_, Op.load 28 _, _, _, _, _⟩ :: _) _ _)); refine wp_ldWg (by rfl) _ rfl _ rfl U RB.out ?_))
  refine (HC.out _ B1.out).mono ?_
  rintro r v1 ⟨lv, rfl, hl, hb⟩
  have C1 := hid hb
  have D1 := hid (btr B1.out hb)
  clear hb
  go_wp2_with fail
  refine (err_any _ v1).mono ?_
  rintro r v2 ⟨rfl, hb⟩
  have C2 := hid (btr C1.out hb)
  have D2 := hid (btr D1.out hb)
  have L2 := hid (hl.below hb)
  clear hb hl
  go_wp2_with fail
  refine (HI.out v2 D2.out).mono ?_
  rintro r v3 ⟨rfl, hb⟩
  have C3 := hid (btr C2.out hb)
  have D3 := hid (btr D2.out hb)
  have L3 := hid (L2.out.below hb)
  clear hb
  go_wp2_with fail
  refine (same_in _ _ (chA p q) v3 L3.out (HW.out v3 C3.out) HLN.out).mono ?_
  rintro r v4 ⟨rfl, hb⟩
  have D4 := hid (btr D3.out hb)
  clear hb
  go_wp2_with fail
  go_ret
  exact ⟨rfl, btr B0.out D4.out⟩
 | true =>
 rw [show sndE p = 0 by unfold sndE; rw [hs]; rfl]
 have HS := hid hs
 clear hs
 go_wp2_with (first | go_skip | go_big_skip | ((with_reducible (show wpList _ _ _ (⟨_, Op.load 28 _, _, _, _, _⟩ :: _) _ _)); refine wp_ldWg (by rfl) _ rfl _ rfl V RA.out ?_) | ((with_reducible (show wpList _ _ _ (⟨_, Op.load 28 _, _, _, _, _⟩ :: _) _ _)); refine wp_ldWg (by rfl) _ rfl _ rfl U RB.out ?_))
 refine (sound_law U q w3 (HU2.out.below B1.out) HQ.out).mono ?_
 rintro r w4 ⟨rfl, hb⟩
 replace B1 := hid (btr B1.out hb)
 replace RA := hid (KA.out _ B1.out)
 replace RB := hid (KB.out _ B1.out)
 clear hb
 cases hs : sndB q with
 | false =>
  rw [show sndE q = 8 by unfold sndE; rw [hs]; rfl]
  have HE := hid (show chE p q = 8 from if_neg fun h => by rw [hs] at h; cases h.2)
  rw [HE.out] at HC HI HA
  rw [if_neg (by decide)] at HA
  have HW := hid (fun W (_ : Below w4.heap.size w4 W) => show IntsIn W (.slice none 0 0) (chA p q) by rw [HA.out]; exact ints_nil _)
  have HLN := hid (show (chA p q).length ≤ 1000 by rw [HA.out]; decide)
  clear hs HE HA
  go_wp2_with (first | go_skip | go_big_skip | ((with_reducible (show wpList _ _ _ (⟨_, Op.load 28 _, _, _, _, _⟩ :: _) _ _)); refine wp_ldWg (by rfl) _ rfl _ rfl V RA.out ?_) | ((with_reducible (show wpList _ _ _ (⟨_, Op.load 28 _, _, _, _, _⟩ :: _) _ _)); refine wp_ldWg (by rfl) _ rfl _ rfl U RB.out ?_))
  refine (HC.out _ B1.out).mono ?_
  rintro r v1 ⟨lv, rfl, hl, hb⟩
  have C1 := hid hb
  have D1 := hid (btr B1.out hb)
  clear hb
  go_wp2_with fail
  refine (err_any _ v1).mono ?_
  rintro r v2 ⟨rfl, hb⟩
  have C2 := hid (btr C1.out hb)
  have D2 := hid (btr D1.out hb)
  have L2 := hid (hl.below hb)
  clear hb hl
  go_wp2_with fail
  refine (HI.out v2 D2.out).mono ?_
  rintro r v3 ⟨rfl, hb⟩
  have C3 := hid (btr C2.out hb)
  have D3 := hid (btr D2.out hb)
  have L3 := hid (L2.out.below hb)
  clear hb
  go_wp2_with fail
  refine (same_in _ _ (chA p q) v3 L3.out (HW.out v3 C3.out) HLN.out).mono ?_
  rintro r v4 ⟨rfl, hb⟩
  have D4 := hid (btr D3.out hb)
  clear hb
  go_wp2_with fail
  go_ret
  exact ⟨rfl, btr B0.out D4.out⟩
 | true =>
 rw [show sndE q = 0 by unfold sndE; rw [hs]; rfl]
 have HT := hid hs
 clear hs
 have c1 : w4.cell? ⟨w.heap.size, 1, none⟩ = some (V 1) := range_cell RA.out rfl
 have d1 : w4.cell? ⟨w.heap.size + 1, 1, none⟩ = some (U 1) := range_cell RB.out rfl
 obtain ⟨qa, ba, oa, ca, ea, -, -⟩ := HV2.out.kinds
 obtain ⟨qb, bb, ob, cb, eb, -, -⟩ := HU2.out.kinds
 have hk1 : (p.kinds.length : Int) ≤ 1000 := by have := HP.out.kinds; omega
 have hk2 : (q.kinds.length : Int) ≤ 1000 := by have := HQ.out.kinds; omega
 rw [ea] at c1
 rw [eb] at d1
 by_cases hk : p.kinds.length = q.kinds.length
 rotate_left
 ·have HE := hid (show chE p q = 2 by unfold chE; rw [if_pos ⟨HS.out, HT.out⟩, if_neg hk])
  rw [HE.out] at HC HI HA
  rw [if_neg (by decide)] at HA
  have HW := hid (fun W (_ : Below w4.heap.size w4 W) => show IntsIn W (.slice none 0 0) (chA p q) by rw [HA.out]; exact ints_nil _)
  have HLN := hid (show (chA p q).length ≤ 1000 by rw [HA.out]; decide)
  clear HE HA ea eb
  go_wp2_with (first | go_skip | go_big_skip | ((with_reducible (show wpList _ _ _ (⟨_, Op.load 28 _, _, _, _, _⟩ :: _) _ _)); refine wp_ldWg (by rfl) _ rfl _ rfl V RA.out ?_) | ((with_reducible (show wpList _ _ _ (⟨_, Op.load 28 _, _, _, _, _⟩ :: _) _ _)); refine wp_ldWg (by rfl) _ rfl _ rfl U RB.out ?_))
  refine (HC.out _ B1.out).mono ?_
  rintro r v1 ⟨lv, rfl, hl, hb⟩
  have C1 := hid hb
  have D1 := hid (btr B1.out hb)
  clear hb
  go_wp2_with fail
  refine (err_any _ v1).mono ?_
  rintro r v2 ⟨rfl, hb⟩
  have C2 := hid (btr C1.out hb)
  have D2 := hid (btr D1.out hb)
  have L2 := hid (hl.below hb)
  clear hb hl
  go_wp2_with fail
  refine (HI.out v2 D2.out).mono ?_
  rintro r v3 ⟨rfl, hb⟩
  have C3 := hid (btr C2.out hb)
  have D3 := hid (btr D2.out hb)
  have L3 := hid (L2.out.below hb)
  clear hb
  go_wp2_with fail
  refine (same_in _ _ (chA p q) v3 L3.out (HW.out v3 C3.out) HLN.out).mono ?_
  rintro r v4 ⟨rfl, hb⟩
  have D4 := hid (btr D3.out hb)
  clear hb
  go_wp2_with fail
  go_ret
  exact ⟨rfl, btr B0.out D4.out⟩
 have HE := hid (show chE p q = 0 by unfold chE; rw [if_pos ⟨HS.out, HT.out⟩, if_pos hk])
 have HCR := hid (changed_ref V U p q w4 (HV2.out.below B1.out) (HU2.out.below B1.out) HP.out HQ.out (snd_of HS.out).lf (snd_of HT.out).lf hk)
 rw [HE.out] at HC HI HA
 rw [if_pos rfl] at HA
 rw [← HA.out] at HCR
 have HLN := hid (show (chA p q).length ≤ 1000 by rw [HA.out]; exact Nat.le_trans (chL_len _ _ _) HP.out.kinds)
 rw [← hk] at d1
 clear HE HA ea eb hk HS HT
 go_wp2_with (first | go_skip | go_big_skip | ((with_reducible (show wpList _ _ _ (⟨_, Op.load 28 _, _, _, _, _⟩ :: _) _ _)); refine wp_ldWg (by rfl) _ rfl _ rfl V RA.out ?_) | ((with_reducible (show wpList _ _ _ (⟨_, Op.load 28 _, _, _, _, _⟩ :: _) _ _)); refine wp_ldWg (by rfl) _ rfl _ rfl U RB.out ?_))
 refine HCR.out.mono ?_
 rintro r w5 ⟨wv, rfl, hw, hb⟩
 have HW := hid (fun W (h : Below w5.heap.size w5 W) => hw.below h)
 replace B1 := hid (btr B1.out hb)
 replace RA := hid (KA.out _ B1.out)
 replace RB := hid (KB.out _ B1.out)
 clear hb hw c1 d1 HCR
 go_wp2_with (first | go_skip | go_big_skip | ((with_reducible (show wpList _ _ _ (⟨_, Op.load 28 _, _, _, _, _⟩ :: _) _ _)); refine wp_ldWg (by rfl) _ rfl _ rfl V RA.out ?_) | ((with_reducible (show wpList _ _ _ (⟨_, Op.load 28 _, _, _, _, _⟩ :: _) _ _)); refine wp_ldWg (by rfl) _ rfl _ rfl U RB.out ?_))
 refine (HC.out _ B1.out).mono ?_
 rintro r v1 ⟨lv, rfl, hl, hb⟩
 have C1 := hid hb
 have D1 := hid (btr B1.out hb)
 clear hb
 go_wp2_with fail
 refine (err_any _ v1).mono ?_
 rintro r v2 ⟨rfl, hb⟩
 have C2 := hid (btr C1.out hb)
 have D2 := hid (btr D1.out hb)
 have L2 := hid (hl.below hb)
 clear hb hl
 go_wp2_with fail
 refine (HI.out v2 D2.out).mono ?_
 rintro r v3 ⟨rfl, hb⟩
 have C3 := hid (btr C2.out hb)
 have D3 := hid (btr D2.out hb)
 have L3 := hid (L2.out.below hb)
 clear hb
 go_wp2_with fail
 refine (same_in _ _ (chA p q) v3 L3.out (HW.out v3 C3.out) HLN.out).mono ?_
 rintro r v4 ⟨rfl, hb⟩
 have D4 := hid (btr D3.out hb)
 clear hb
 go_wp2_with fail
 go_ret
 exact ⟨rfl, btr B0.out D4.out⟩
end Go.Proofs.YtfiheamciakbpaaGreatDoor.Wd
