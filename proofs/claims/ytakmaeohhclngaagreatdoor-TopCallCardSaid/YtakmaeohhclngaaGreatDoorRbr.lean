/- keyholdtop.TopCall, walked. (Written by mk_tvc.py.) · From the row's condition on errors.errorType to its cell; a world that meets the condition. -/
import Derived.Test.YtakmaeohhclngaaGreatDoorRows
import Derived.ChangeSame
import Derived.ChangeVars
import Derived.JoinedOf
import Derived.RowKit
import Derived.RowKitTokens
import Derived.LaidLaws
import Derived.LaidHandle
import Derived.Stop.Joined
import Derived.ProofKit
import Derived.Test.YtakmaeohhclngaaGreatDoorRbq
import Derived.Test.YtakmaeohhclngaaGreatDoorRao
namespace Go.Proofs.YtakmaeohhclngaaGreatDoor.Wd
open Go.RowKit Go.Proofs.YtakmaeohhclngaaGreatDoor.Mem Go.Proofs.YtakmaeohhclngaaGreatDoor.Bw Go.Proofs.YtakmaeohhclngaaGreatDoor.Nums Go.Proofs.YtakmaeohhclngaaGreatDoor.Mmu Go.Proofs.YtakmaeohhclngaaGreatDoor.Hex Go.Proofs.YtakmaeohhclngaaGreatDoor.Mad
set_option maxRecDepth 100000 in
set_option maxHeartbeats 16000000 in
theorem topCall_any (v : Value) (rs : List Int) (word badge ans : Int) (first : Bool) (w : World) (hv : RawIn w v rs) (h0 : -9223372036854775808 ≤ word ∧ word ≤ 9223372036854775807) (h1 : -9223372036854775808 ≤ badge ∧ badge ≤ 9223372036854775807) (h2 : -9223372036854775808 ≤ ans ∧ ans ≤ 9223372036854775807) (hkn : KnW w) (het : ETok w) :
  Calls Tryz.prog 3 #[v, .int .i64 word, .int .i64 badge, .int .i64 ans, .bool first] w fun r w' => r = .returned (.bool true) ∧ Below w.heap.size w w' := by
 have HV := hid hv
 have HK := hid hkn
 have HE := hid het
 obtain ⟨q, b, off, cap, ev, hq, hi, hb⟩ := hv
 subst ev
 clear hq hi hb hkn het
 by_cases hr : 256 < rs.length
 ·have hr2 : (256 : Int) < (rs.length : Int) := by omega
  go_enter Tryz.func3, Tryz.ntmps3
  go_wp2_with fail
  go_ret
  exact ⟨rfl, Below.refl _ _⟩
 have hr2 : ¬ (256 : Int) < (rs.length : Int) := by omega
 have BG := hid (begun_ref (.slice q rs.length cap) rs 7 w HV.out (by omega) (by decide) (by decide) HK.out)
 have Pv := pickV_bound word 65536 (by decide)
 have Kv := hid (fun W : World => pick_eq word 65536 W h0.1 h0.2 (by decide))
 generalize pickV word 65536 = nv at Pv Kv
 have Hv := hid (show In16 nv from ⟨Pv.1, by omega⟩)
 clear Pv h0
 have Pd := pickV_bound badge 65536 (by decide)
 have Kd := hid (fun W : World => pick_eq badge 65536 W h1.1 h1.2 (by decide))
 generalize pickV badge 65536 = nd at Pd Kd
 have Hd := hid (show In16 nd from ⟨Pd.1, by omega⟩)
 clear Pd h1
 have Pa := pickV_bound ans 65536 (by decide)
 have Ka := hid (fun W : World => pick_eq ans 65536 W h2.1 h2.2 (by decide))
 generalize pickV ans 65536 = na at Pa Ka
 have Ha := hid (show In16 na from ⟨Pa.1, by omega⟩)
 clear Pa h2
 go_enter Tryz.func3, Tryz.ntmps3
 go_wp2_with fail
 refine BG.out.mono ?_
 rintro r w1 ⟨X, tag, L, rfl, hw, hL, htz, hb1⟩
 have WX := hid (hw.v (fit_of (p2_fit L)).2)
 have HL := hid hL
 have B1 := hid hb1
 clear hw hL htz hb1 BG
 have O_b11 := hid (WX.out).ones
 have BN := hid (box_new (WX.out))
 have TN := hid (there_new w1 #[.slice none 0 0, .slice none 0 0, .slice none 0 0, .slice none 0 0, .slice none 0 0, .slice none 0 0, .slice none 0 0, .slice none 0 0, .slice none 0 0, .slice none 0 0, .int .i64 0] 28 w1.heap.size 11 rfl (by decide))
 go_upto_region 4 with (first | ((with_reducible (show wpList _ _ _ (⟨_, Op.store 28 _ _, _, _, _, _⟩ :: _) _ _)); refine wpList_store_mid rfl 28 _ _ rfl w1.heap.size 0 (arr11 X) rfl rfl TN.out infoW O_b11.out ?_))
 have X11 := hid (⟨BN.out.2.2.2, BN.out.2.1⟩ : BX _ w1.heap.size X _)
 have TH_b11 := hid BN.out.2.2.1
 have B_b11 := hid BN.out.1
 clear BN TN O_b11
 generalize World.setCells _ _ _ _ = w2 at X11 TH_b11 B_b11 ⊢
 have BB := hid (btr B1.out B_b11.out)
 clear B1 WX B_b11 TH_b11
 generalize w1.heap.size = b11 at *
 go_wp2_with fail
 refine (Kv.out _).mono ?_
 rintro r wq ⟨rfl, rfl⟩
 clear Kv
 go_wp2_with fail
 refine (Kd.out _).mono ?_
 rintro r wq ⟨rfl, rfl⟩
 clear Kd
 go_wp2_with fail
 refine (Ka.out _).mono ?_
 rintro r wq ⟨rfl, rfl⟩
 clear Ka
 have SP := hid (stepPick X L w2 X11.out.v HL.out)
 go_wp2_with (first | ((with_reducible (show wpList _ _ _ (⟨_, Op.load 28 _, _, _, _, _⟩ :: _) _ _)); first | go_skip | go_big_skip | refine wp_ldWg (by rfl) _ rfl b11 rfl X X11.out.r ?_))
 refine SP.out.mono ?_
 rintro r w3 ⟨Y, rfl, hy, hb3⟩
 have HY := hid hy
 have B3 := hid hb3
 clear hy hb3 SP
 have O_b12 := hid (HY.out).ones
 have BN := hid (box_new (HY.out))
 have TN := hid (there_new w3 #[.slice none 0 0, .slice none 0 0, .slice none 0 0, .slice none 0 0, .slice none 0 0, .slice none 0 0, .slice none 0 0, .slice none 0 0, .slice none 0 0, .slice none 0 0, .int .i64 0] 28 w3.heap.size 11 rfl (by decide))
 go_upto_region 8 with (first | ((with_reducible (show wpList _ _ _ (⟨_, Op.store 28 _ _, _, _, _, _⟩ :: _) _ _)); refine wpList_store_mid rfl 28 _ _ rfl w3.heap.size 0 (arr11 Y) rfl rfl TN.out infoW O_b12.out ?_))
 have X12 := hid (⟨BN.out.2.2.2, BN.out.2.1⟩ : BX _ w3.heap.size Y _)
 have TH_b12 := hid BN.out.2.2.1
 have B_b12 := hid BN.out.1
 clear BN TN O_b12
 generalize World.setCells _ _ _ _ = w4 at X12 TH_b12 B_b12 ⊢
 have X114 := hid (X11.out.below (btr B3.out B_b12.out))
 have BB4 := hid (btr BB.out (btr B3.out B_b12.out))
 clear X11 BB B3 B_b12 TH_b12 HY
 generalize w3.heap.size = b12 at *
 have SP := hid (stepPick1 Y (p3 L) w4 X12.out.v (p3_fit L) (p3_snd L HL.out) (c_plain L nd nv).1 (c1_ready L).1)
 go_wp2_with (first | ((with_reducible (show wpList _ _ _ (⟨_, Op.load 28 _, _, _, _, _⟩ :: _) _ _)); first | go_skip | go_big_skip | refine wp_ldWg (by rfl) _ rfl b12 rfl Y X12.out.r ?_))
 refine SP.out.mono ?_
 rintro r w5 ⟨Z, zn, rfl, hy, hb3⟩
 have HY := hid (show WorldV w5 Z (c1 L) from hy)
 have B3 := hid hb3
 clear hy hb3 SP X12
 have O_b15 := hid (HY.out).ones
 have BN := hid (box_new (HY.out))
 have TN := hid (there_new w5 #[.slice none 0 0, .slice none 0 0, .slice none 0 0, .slice none 0 0, .slice none 0 0, .slice none 0 0, .slice none 0 0, .slice none 0 0, .slice none 0 0, .slice none 0 0, .int .i64 0] 28 w5.heap.size 11 rfl (by decide))
 go_upto_region 9 with (first | ((with_reducible (show wpList _ _ _ (⟨_, Op.store 28 _ _, _, _, _, _⟩ :: _) _ _)); refine wpList_store_mid rfl 28 _ _ rfl w5.heap.size 0 (arr11 Z) rfl rfl TN.out infoW O_b15.out ?_))
 have X15 := hid (⟨BN.out.2.2.2, BN.out.2.1⟩ : BX _ w5.heap.size Z _)
 have TH_b15 := hid BN.out.2.2.1
 have B_b15 := hid BN.out.1
 clear BN TN O_b15
 generalize World.setCells _ _ _ _ = w6 at X15 TH_b15 B_b15 ⊢
 have X116 := hid (X114.out.below (btr B3.out B_b15.out))
 have BB6 := hid (btr BB4.out (btr B3.out B_b15.out))
 clear X114 BB4 B3 B_b15 TH_b15 HY
 generalize w5.heap.size = b15 at *
 obtain ⟨_, ec0, ec1, ft1, _, _, ek1, _, em1, _, ln1, _, _, lc1, _, _⟩ := c_plain L nd nv
 have LK := hid (topLike X Z (p2 L) (c1 L) w6 X116.out.v X15.out.v (fit_of ft1).1 (c1_snd L HL.out) (by rw [ln1]; decide) (by rw [ln1, (p3_kinds L).2.1]) (by rw [lc1, (p3_kinds L).2.2.2]))
 have FT1 := hid ft1
 have EC0 := hid ec0
 have EC1 := hid ec1
 have EK1 := hid ek1
 have EM1 := hid em1
 have LC1 := hid lc1
 clear ec0 ec1 ft1 ek1 em1 ln1 lc1
 go_wp2_with (first | ((with_reducible (show wpList _ _ _ (⟨_, Op.load 28 _, _, _, _, _⟩ :: _) _ _)); first | go_skip | go_big_skip | refine wp_ldWg (by rfl) _ rfl b11 rfl X X116.out.r ?_ | refine wp_ldWg (by rfl) _ rfl b15 rfl Z X15.out.r ?_))
 refine LK.out.mono ?_
 rintro r w7 ⟨rfl, hb7⟩
 have X117 := hid (X116.out.below hb7)
 have X157 := hid (X15.out.below hb7)
 have BB7 := hid (btr BB6.out hb7)
 obtain ⟨q6, b6, o6, k6, e6, hq6, hz6⟩ := X157.out.v.cores
 have hz0 := hz6 0 (by rw [LC1.out]; decide)
 have hz1 := hz6 1 (by rw [LC1.out]; decide)
 have hc0 := EC0.out
 have hc1 := EC1.out
 rw [List.getD_eq_getElem?_getD, List.getElem?_eq_getElem (by rw [LC1.out]; decide)] at hc0 hc1
 rw [show (c1 L).cores[0]'(by rw [LC1.out]; decide) = 8 from hc0, Nat.add_zero] at hz0
 rw [show (c1 L).cores[1]'(by rw [LC1.out]; decide) = 9 from hc1] at hz1
 rw [LC1.out] at e6 hq6
 obtain rfl := hq6 (by decide)
 have c6 : w7.cell? ⟨b15, 6, none⟩ = some (Z 6) := range_cell X157.out.r rfl
 rw [e6] at c6
 clear e6 hq6 hz6 hc0 hc1 hb7 LK X116 X15 BB6 EC0 EC1 LC1
 have BN := hid (box_new X157.out.v)
 have ON := hid X157.out.v.ones
 have TN := hid (there_new w7 #[.slice none 0 0, .slice none 0 0, .slice none 0 0, .slice none 0 0, .slice none 0 0, .slice none 0 0, .slice none 0 0, .slice none 0 0, .slice none 0 0, .slice none 0 0, .int .i64 0] 28 w7.heap.size 11 rfl (by decide))
 go_upto_region 12 with (first | ((with_reducible (show wpList _ _ _ (⟨_, Op.load 28 _, _, _, _, _⟩ :: _) _ _)); first | go_skip | go_big_skip | refine wp_ldWg (by rfl) _ rfl b15 rfl Z X157.out.r ?_) | ((with_reducible (show wpList _ _ _ (⟨_, Op.store 28 _ _, _, _, _, _⟩ :: _) _ _)); refine wpList_store_mid rfl 28 _ _ rfl w7.heap.size 0 (arr11 Z) rfl rfl TN.out infoW ON.out ?_))
 have X18 := hid (show BS w7 w7.heap.size _ Z (c1 L) from ⟨BN.out.2.2.2, BN.out.2.1, BN.out.2.2.1, BN.out.1⟩)
 have B18 := hid BN.out.1
 clear BN ON TN c6 hz0 hz1
 generalize World.setCells _ _ _ _ = w8 at X18 B18 ⊢
 generalize hS : w7.heap.size = b18 at X18 ⊢
 have S18 := hid hS
 clear hS
 go_upto_if 78 with fail
 go_cut [19] (fun e wx => e = .nilIface ∧ ∃ V, Hid (BS w7 b18 wx V (cW L nd nv first)))
 case first =>
  have X158 := hid (X157.out.below B18.out)
  cases first
  ·skip
   have CT := hid (stepSend Z (c1 L) nd nv w8 X158.out.v FT1.out (c1_snd L HL.out) (c1_ready L).2.1 EM1.out Hd.out Hv.out)
   go_wp2_with (first | ((with_reducible (show wpList _ _ _ (⟨_, Op.load 28 _, _, _, _, _⟩ :: _) _ _)); first | go_skip | go_big_skip | refine wp_ldWg (by rfl) _ rfl b15 rfl Z X158.out.r ?_))
   refine CT.out.mono ?_
   rintro r wa ⟨X2, rfl, hf, hb⟩
   have O2 := hid hf.v0.ones
   have BN := hid (X18.out.next hf hb (Below.refl _ _))
   have T2 := hid (there_belowO X18.out.t hb)
   clear hf hb CT
   go_wp2_with (first | ((with_reducible (show wpList _ _ _ (⟨_, Op.store 28 _ _, _, _, _, _⟩ :: _) _ _)); refine wpList_store_mid rfl 28 _ _ rfl b18 0 (arr11 X2) rfl rfl T2.out infoW O2.out ?_))
   clear O2 T2
   generalize World.setCells _ _ _ _ = wd at BN ⊢
   go_meet
   exact ⟨rfl, X2, by rw [cW_f]; exact BN⟩
  ·skip
   have CT := hid (stepTake Z (c1 L) w8 X158.out.v FT1.out (c1_snd L HL.out) EK1.out)
   go_wp2_with (first | ((with_reducible (show wpList _ _ _ (⟨_, Op.load 28 _, _, _, _, _⟩ :: _) _ _)); first | go_skip | go_big_skip | refine wp_ldWg (by rfl) _ rfl b15 rfl Z X158.out.r ?_))
   refine CT.out.mono ?_
   rintro r wa ⟨X2, rfl, hf, hb⟩
   have O2 := hid hf.v0.ones
   have BN := hid (X18.out.next hf hb (Below.refl _ _))
   have T2 := hid (there_belowO X18.out.t hb)
   clear hf hb CT
   go_wp2_with (first | ((with_reducible (show wpList _ _ _ (⟨_, Op.store 28 _ _, _, _, _, _⟩ :: _) _ _)); refine wpList_store_mid rfl 28 _ _ rfl b18 0 (arr11 X2) rfl rfl T2.out infoW O2.out ?_))
   clear O2 T2
   generalize World.setCells _ _ _ _ = wd at BN ⊢
   go_meet
   exact ⟨rfl, X2, by rw [cW_t]; exact BN⟩
 clear X18 B18 EK1 EM1 FT1
 obtain ⟨rfl, C, XC⟩ := hcut
 have E7 := hid (show Below w7.heap.size w7 wc from by rw [S18.out]; exact XC.out.e)
 have X11c := hid (X117.out.below E7.out)
 have CI := hid (cW_is L HL.out nd nv Hd.out Hv.out first)
 have LK := hid (topLike X C (p2 L) (cW L nd nv first) wc X11c.out.v XC.out.v (fit_of CI.out.1).1 CI.out.2.1 (by rw [CI.out.2.2.1]; decide) (by rw [CI.out.2.2.1, (p3_kinds L).2.1]) (by rw [CI.out.2.2.2, (p3_kinds L).2.2.2]))
 go_wp2_with (first | ((with_reducible (show wpList _ _ _ (⟨_, Op.load 28 _, _, _, _, _⟩ :: _) _ _)); first | go_skip | go_big_skip | refine wp_ldWg (by rfl) _ rfl b11 rfl X X11c.out.r ?_ | refine wp_ldWg (by rfl) _ rfl b18 rfl C XC.out.r ?_))
 refine LK.out.mono ?_
 rintro r w9 ⟨rfl, hb9⟩
 have X119 := hid (X11c.out.below hb9)
 have X189 := hid (XC.out.up hb9)
 have BB9 := hid (btr BB7.out (btr E7.out hb9))
 clear hb9 LK X11c XC E7 X117 X157 BB7 S18
 have BN := hid (box_new X189.out.v)
 have ON := hid X189.out.v.ones
 have TN := hid (there_new w9 #[.slice none 0 0, .slice none 0 0, .slice none 0 0, .slice none 0 0, .slice none 0 0, .slice none 0 0, .slice none 0 0, .slice none 0 0, .slice none 0 0, .slice none 0 0, .int .i64 0] 28 w9.heap.size 11 rfl (by decide))
 go_upto_region 19 with (first | ((with_reducible (show wpList _ _ _ (⟨_, Op.load 28 _, _, _, _, _⟩ :: _) _ _)); first | go_skip | go_big_skip | refine wp_ldWg (by rfl) _ rfl b18 rfl C X189.out.r ?_) | ((with_reducible (show wpList _ _ _ (⟨_, Op.store 28 _ _, _, _, _, _⟩ :: _) _ _)); refine wpList_store_mid rfl 28 _ _ rfl w9.heap.size 0 (arr11 C) rfl rfl TN.out infoW ON.out ?_))
 have X20 := hid (show BS w9 w9.heap.size _ C (cW L nd nv first) from ⟨BN.out.2.2.2, BN.out.2.1, BN.out.2.2.1, BN.out.1⟩)
 have B20 := hid BN.out.1
 clear BN ON TN
 generalize World.setCells _ _ _ _ = w10 at X20 B20 ⊢
 generalize hS : w9.heap.size = b20 at X20 ⊢
 have S20 := hid hS
 clear hS
 go_upto_if 100 with fail
 go_cut [19] (fun e wx => e = .nilIface ∧ ∃ V, Hid (BS w9 b20 wx V (dW L nd nv first)))
 case first =>
  have X1810 := hid (X189.out.x.below B20.out)
  cases first
  ·rw [cW_f] at CI X20 X1810
   have CT := hid (stepTake C (cF L nd nv) w10 X1810.out.v CI.out.1 CI.out.2.1 (c_plain L nd nv).2.2.2.2.2.2.2.1)
   go_wp2_with (first | ((with_reducible (show wpList _ _ _ (⟨_, Op.load 28 _, _, _, _, _⟩ :: _) _ _)); first | go_skip | go_big_skip | refine wp_ldWg (by rfl) _ rfl b18 rfl C X1810.out.r ?_))
   refine CT.out.mono ?_
   rintro r wa ⟨X2, rfl, hf, hb⟩
   have O2 := hid hf.v0.ones
   have BN := hid (X20.out.next hf hb (Below.refl _ _))
   have T2 := hid (there_belowO X20.out.t hb)
   clear hf hb CT
   go_wp2_with (first | ((with_reducible (show wpList _ _ _ (⟨_, Op.store 28 _ _, _, _, _, _⟩ :: _) _ _)); refine wpList_store_mid rfl 28 _ _ rfl b20 0 (arr11 X2) rfl rfl T2.out infoW O2.out ?_))
   clear O2 T2
   generalize World.setCells _ _ _ _ = wd at BN ⊢
   go_meet
   exact ⟨rfl, X2, by rw [dW_f]; exact BN⟩
  ·rw [cW_t] at CI X20 X1810
   have CT := hid (stepSend C (cT L) nd nv w10 X1810.out.v CI.out.1 CI.out.2.1 (c1_ready L).2.2 (c_plain L nd nv).2.2.2.2.2.2.2.2.2.1 Hd.out Hv.out)
   go_wp2_with (first | ((with_reducible (show wpList _ _ _ (⟨_, Op.load 28 _, _, _, _, _⟩ :: _) _ _)); first | go_skip | go_big_skip | refine wp_ldWg (by rfl) _ rfl b18 rfl C X1810.out.r ?_))
   refine CT.out.mono ?_
   rintro r wa ⟨X2, rfl, hf, hb⟩
   have O2 := hid hf.v0.ones
   have BN := hid (X20.out.next hf hb (Below.refl _ _))
   have T2 := hid (there_belowO X20.out.t hb)
   clear hf hb CT
   go_wp2_with (first | ((with_reducible (show wpList _ _ _ (⟨_, Op.store 28 _ _, _, _, _, _⟩ :: _) _ _)); refine wpList_store_mid rfl 28 _ _ rfl b20 0 (arr11 X2) rfl rfl T2.out infoW O2.out ?_))
   clear O2 T2
   generalize World.setCells _ _ _ _ = wd at BN ⊢
   go_meet
   exact ⟨rfl, X2, by rw [dW_t]; exact BN⟩
 clear X20 B20 CI
 obtain ⟨rfl, D, XD⟩ := hcut
 have DI := hid (dW_is L HL.out nd nv Hd.out Hv.out first)
 generalize dW L nd nv first = dp at XD DI
 have E9 := hid (show Below w9.heap.size w9 wc from by rw [S20.out]; exact XD.out.e)
 have X11d := hid (X119.out.below E9.out)
 have LK := hid (topLike X D (p2 L) dp wc X11d.out.v XD.out.v (fit_of DI.out.fit).1 DI.out.snd (by rw [DI.out.lens.1]; decide) (by rw [DI.out.lens.1, (p3_kinds L).2.1]) (by rw [DI.out.lens.2.1, (p3_kinds L).2.2.2]))
 go_wp2_with (first | ((with_reducible (show wpList _ _ _ (⟨_, Op.load 28 _, _, _, _, _⟩ :: _) _ _)); first | go_skip | go_big_skip | refine wp_ldWg (by rfl) _ rfl b11 rfl X X11d.out.r ?_ | refine wp_ldWg (by rfl) _ rfl b20 rfl D XD.out.r ?_))
 refine LK.out.mono ?_
 rintro r w11 ⟨rfl, hb⟩
 have X11e := hid (X11d.out.below hb)
 have XDe := hid (XD.out.x.below hb)
 have BB11 := hid (btr BB9.out (btr E9.out hb))
 clear hb LK X11d XD E9 X119 X189 BB9 S20
 obtain ⟨tb, tO, tc, e3, tk⟩ := XDe.out.v.taskG DI.out.lens.2.2
 have t91 : w11.cell? ⟨tb, tO + 181, none⟩ = some (.int .i64 nd) := by have := tk 9 1 (by decide) (by decide); rw [DI.out.is.1] at this; exact this
 have t92 : w11.cell? ⟨tb, tO + 182, none⟩ = some (.int .i64 nv) := by have := tk 9 2 (by decide) (by decide); rw [DI.out.is.2.1] at this; exact this
 have t97 : w11.cell? ⟨tb, tO + 197, none⟩ = some (.int .i64 8) := by have := tk 9 17 (by decide) (by decide); rw [DI.out.is.2.2.1] at this; exact this
 have t89 : w11.cell? ⟨tb, tO + 169, none⟩ = some (.int .i64 5) := by have := tk 8 9 (by decide) (by decide); rw [DI.out.is.2.2.2] at this; exact this
 have c3 : w11.cell? ⟨b20, 3, none⟩ = some (D 3) := range_cell XDe.out.r rfl
 rw [e3] at c3
 clear e3 tk
 have SP := hid (stepPick1 D dp w11 XDe.out.v DI.out.fit DI.out.snd DI.out.pick DI.out.ready)
 go_wp2_with (first | ((with_reducible (show wpList _ _ _ (⟨_, Op.load 28 _, _, _, _, _⟩ :: _) _ _)); first | go_skip | go_big_skip | refine wp_ldWg (by rfl) _ rfl b20 rfl D XDe.out.r ?_))
 refine SP.out.mono ?_
 rintro r w12 ⟨Gv, gn, rfl, hy, hb⟩
 have HY := hid hy
 have B3 := hid hb
 clear hy hb SP t91 t92 t97 t89 c3 XDe
 have O_b21 := hid (HY.out).ones
 have BN := hid (box_new (HY.out))
 have TN := hid (there_new w12 #[.slice none 0 0, .slice none 0 0, .slice none 0 0, .slice none 0 0, .slice none 0 0, .slice none 0 0, .slice none 0 0, .slice none 0 0, .slice none 0 0, .slice none 0 0, .int .i64 0] 28 w12.heap.size 11 rfl (by decide))
 go_upto_region 25 with (first | ((with_reducible (show wpList _ _ _ (⟨_, Op.store 28 _ _, _, _, _, _⟩ :: _) _ _)); refine wpList_store_mid rfl 28 _ _ rfl w12.heap.size 0 (arr11 Gv) rfl rfl TN.out infoW O_b21.out ?_))
 have X21 := hid (⟨BN.out.2.2.2, BN.out.2.1⟩ : BX _ w12.heap.size Gv _)
 have TH_b21 := hid BN.out.2.2.1
 have B_b21 := hid BN.out.1
 clear BN TN O_b21
 generalize World.setCells _ _ _ _ = w13 at X21 TH_b21 B_b21 ⊢
 have X11f := hid (X11e.out.below (btr B3.out B_b21.out))
 have BB13 := hid (btr BB11.out (btr B3.out B_b21.out))
 clear X11e BB11 B3 B_b21 TH_b21 HY
 generalize w12.heap.size = b21 at *
 have CT := hid (stepBusy Gv (slP dp 1) w13 X21.out.v DI.out.gfit DI.out.gsnd DI.out.busy)
 go_wp2_with (first | ((with_reducible (show wpList _ _ _ (⟨_, Op.load 28 _, _, _, _, _⟩ :: _) _ _)); first | go_skip | go_big_skip | refine wp_ldWg (by rfl) _ rfl b21 rfl Gv X21.out.r ?_))
 refine CT.out.mono ?_
 rintro r w14 ⟨Uv, rfl, hb⟩
 have X11g := hid (X11f.out.below hb)
 have X21g := hid (X21.out.below hb)
 have BB14 := hid (btr BB13.out hb)
 have TL := hid (tell_errno 7 w14 (HE.out.below BB14.out))
 clear hb CT X11f X21 BB13
 go_wp2_with fail
 refine TL.out.mono ?_
 rintro r w15 ⟨rfl, hb⟩
 have X11h := hid (X11g.out.below hb)
 have X21h := hid (X21g.out.below hb)
 have BB15 := hid (btr BB14.out hb)
 clear hb TL X11g X21g BB14
 have CT := hid (stepAnswer Gv (slP dp 1) na w15 X21h.out.v DI.out.gfit DI.out.gsnd DI.out.gmay DI.out.gowes Ha.out)
 go_wp2_with (first | ((with_reducible (show wpList _ _ _ (⟨_, Op.load 28 _, _, _, _, _⟩ :: _) _ _)); first | go_skip | go_big_skip | refine wp_ldWg (by rfl) _ rfl b21 rfl Gv X21h.out.r ?_))
 refine CT.out.mono ?_
 rintro r w16 ⟨Kv, rfl, hy, hb⟩
 have HY := hid hy
 have B3 := hid hb
 clear hy hb CT X21h
 have O_b25 := hid (HY.out).ones
 have BN := hid (box_new (HY.out))
 have TN := hid (there_new w16 #[.slice none 0 0, .slice none 0 0, .slice none 0 0, .slice none 0 0, .slice none 0 0, .slice none 0 0, .slice none 0 0, .slice none 0 0, .slice none 0 0, .slice none 0 0, .int .i64 0] 28 w16.heap.size 11 rfl (by decide))
 go_upto_region 30 with (first | ((with_reducible (show wpList _ _ _ (⟨_, Op.store 28 _ _, _, _, _, _⟩ :: _) _ _)); refine wpList_store_mid rfl 28 _ _ rfl w16.heap.size 0 (arr11 Kv) rfl rfl TN.out infoW O_b25.out ?_))
 have X25 := hid (⟨BN.out.2.2.2, BN.out.2.1⟩ : BX _ w16.heap.size Kv _)
 have TH_b25 := hid BN.out.2.2.1
 have B_b25 := hid BN.out.1
 clear BN TN O_b25
 generalize World.setCells _ _ _ _ = w17 at X25 TH_b25 B_b25 ⊢
 have X11i := hid (X11h.out.below (btr B3.out B_b25.out))
 have BB17 := hid (btr BB15.out (btr B3.out B_b25.out))
 clear X11h BB15 B3 B_b25 TH_b25 HY
 generalize w16.heap.size = b25 at *
 have LK := hid (topLike X Kv (p2 L) (anP (slP dp 1) 9 na) w17 X11i.out.v X25.out.v (fit_of (DI.out.hfit na)).1 (DI.out.hsnd na Ha.out) (by rw [(DI.out.hlens na).1]; decide) (by rw [(DI.out.hlens na).1, (p3_kinds L).2.1]) (by rw [(DI.out.hlens na).2.1, (p3_kinds L).2.2.2]))
 go_wp2_with (first | ((with_reducible (show wpList _ _ _ (⟨_, Op.load 28 _, _, _, _, _⟩ :: _) _ _)); first | go_skip | go_big_skip | refine wp_ldWg (by rfl) _ rfl b11 rfl X X11i.out.r ?_ | refine wp_ldWg (by rfl) _ rfl b25 rfl Kv X25.out.r ?_))
 refine LK.out.mono ?_
 rintro r w18 ⟨rfl, hb⟩
 have X25k := hid (X25.out.below hb)
 have BB18 := hid (btr BB17.out hb)
 clear hb LK X11i X25 BB17
 have CT := hid (stepEmpty Kv (anP (slP dp 1) 9 na) na w18 X25k.out.v (DI.out.hfit na) (DI.out.hsnd na Ha.out) (DI.out.hmay na) (DI.out.his na).2.2.2 Ha.out)
 go_wp2_with (first | ((with_reducible (show wpList _ _ _ (⟨_, Op.load 28 _, _, _, _, _⟩ :: _) _ _)); first | go_skip | go_big_skip | refine wp_ldWg (by rfl) _ rfl b25 rfl Kv X25k.out.r ?_))
 refine CT.out.mono ?_
 rintro r w19 ⟨Vv, rfl, hb⟩
 have X25l := hid (X25k.out.below hb)
 have BB19 := hid (btr BB18.out hb)
 have TL := hid (tell_errno 6 w19 (HE.out.below BB19.out))
 clear hb CT X25k BB18
 go_wp2_with fail
 refine TL.out.mono ?_
 rintro r w20 ⟨rfl, hb⟩
 have X25m := hid (X25l.out.below hb)
 have BB20 := hid (btr BB19.out hb)
 clear hb TL X25l BB19
 obtain ⟨tb, tO, tc, e3, tk⟩ := X25m.out.v.taskG (DI.out.hlens na).2.2
 obtain ⟨i1, i2, i3, i4⟩ := DI.out.his na
 have t89 : w20.cell? ⟨tb, tO + 169, none⟩ = some (.int .i64 1) := by have := tk 8 9 (by decide) (by decide); rw [i1] at this; exact this
 have t81 : w20.cell? ⟨tb, tO + 161, none⟩ = some (.int .i64 0) := by have := tk 8 1 (by decide) (by decide); rw [i2] at this; exact this
 have t82 : w20.cell? ⟨tb, tO + 162, none⟩ = some (.int .i64 na) := by have := tk 8 2 (by decide) (by decide); rw [i3] at this; exact this
 have t97 : w20.cell? ⟨tb, tO + 197, none⟩ = some (.int .i64 (-1)) := by have := tk 9 17 (by decide) (by decide); rw [i4] at this; exact this
 have c3 : w20.cell? ⟨b25, 3, none⟩ = some (Kv 3) := range_cell X25m.out.r rfl
 rw [e3] at c3
 clear e3 tk i1 i2 i3 i4
 go_wp2_with fail
 go_ret
 exact ⟨rfl, BB20.out⟩
end Go.Proofs.YtakmaeohhclngaaGreatDoor.Wd
namespace Go.Proofs.YtakmaeohhclngaaGreatDoor
open Go.ChangeShapes Go.WideShapes Go.RowKit
theorem own : ownKnob Tryz.prog.godebug = none := by kernel_rfl
theorem laidOut : laidOutB Tryz.prog = true := by kernel_rfl
theorem etG : Tryz.prog.globalNamed "errors.errorType" = some 0 := by kernel_rfl
theorem rtT : (Tryz.prog.cutTypes.find? (·.1 == "internal/reflectlite.rtype")).map (·.2) = some 147 := by kernel_rfl
theorem oneRow : ((List.range 225).filter fun t => Tryz.prog.rowNamed t [101, 114, 114, 111, 114]) = [32] := by kernel_rfl
theorem tSize : Tryz.prog.types.size = 225 := by kernel_rfl
theorem handle_of {W : World} (h : handlesMet Tryz.prog [("errors.errorType", Rows.laid_errors_errorType)] W) : ETok W := by
 obtain ⟨name, u, ty, e1, e2, e3, e4, e5⟩ := h _ (List.mem_singleton.2 rfl)
 have en : name = [101, 114, 114, 111, 114] := (Option.some.inj e1).symm
 subst en
 obtain rfl := Option.some.inj (rtT.symm.trans e2)
 have hm : ty ∈ (List.range 225).filter fun t => Tryz.prog.rowNamed t [101, 114, 114, 111, 114] := List.mem_filter.2 ⟨List.mem_range.2 (by rw [← tSize]; exact e3), e4⟩
 rw [oneRow] at hm
 obtain rfl := List.mem_singleton.1 hm
 have hh : typeHandle Tryz.prog 32 = .pointer (some ⟨3, 32, none⟩) := by kernel_rfl
 rw [hh] at e5
 have hr := World.var?_cell etG e5 0
 simp at hr
 exact hr
end Go.Proofs.YtakmaeohhclngaaGreatDoor
