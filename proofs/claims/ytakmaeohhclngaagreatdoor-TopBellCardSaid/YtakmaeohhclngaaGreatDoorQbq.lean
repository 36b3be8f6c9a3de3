/- keyholdtop.TopBell, walked. · From the row's condition on errors.errorType to its cell; a world that meets the condition. · From what the row says of keyholdref.kindNames to its cells. -/
import Derived.Test.YtakmaeohhclngaaGreatDoorRows
import Derived.ChangeSame
import Derived.ChangeVars
import Derived.JoinedOf
import Derived.RowKit
import Derived.RowKitTokens
import Derived.LaidLaws
import Derived.LaidHandle
import Derived.Stop.Joined
import Derived.ProofKit
import Derived.OpenShut
import Derived.Deep.Slices
import Derived.Lib.SmallJoins
import Derived.Test.YtakmaeohhclngaaGreatDoorQbp
import Derived.Test.YtakmaeohhclngaaGreatDoorQao
import Derived.Test.YtakmaeohhclngaaGreatDoorQbc
import Derived.Test.YtakmaeohhclngaaGreatDoorQae
namespace Go.Proofs.YtakmaeohhclngaaGreatDoor.Wd
open Go.RowKit Go.Proofs.YtakmaeohhclngaaGreatDoor.Mem Go.Proofs.YtakmaeohhclngaaGreatDoor.Bw Go.Proofs.YtakmaeohhclngaaGreatDoor.Nums Go.Proofs.YtakmaeohhclngaaGreatDoor.Mmu Go.Proofs.YtakmaeohhclngaaGreatDoor.Hex Go.Proofs.YtakmaeohhclngaaGreatDoor.Mad
theorem WorldV.ones {w : World} {X : Nat → Value} {p : PW} (h : WorldV w X p) : (arr11 X).all (·.oneCell') = true := by
 simp only [List.all_toArray, List.all_cons, List.all_nil, Bool.and_true, h.ram.one, h.kinds.one, h.slots.one, h.tasks.one, h.lines.one, h.bits.one, h.cores.one, h.ready.one, h.tlbs.one, h.doms.one, Bool.true_and]
 rw [h.time]; rfl
/-- A world in the box b8, behind w3. -/
structure BS (w3 : World) (b8 : Nat) (w : World) (V : Nat → Value) (M : PW) : Prop where
 v : WorldV w V M
 r : w.rangeAt b8 0 (arr11 V).toList
 t : w.there b8 0 11
 e : Below b8 w3 w
theorem BS.lt {w3 w : World} {b8 : Nat} {V : Nat → Value} {M : PW} (h : BS w3 b8 w V M) : b8 < w.heap.size := World.block_lt_of_cell? _ ⟨b8, 0, none⟩ (range_cell h.r (k := 0) rfl)
theorem BS.next {w3 w W W2 : World} {b8 : Nat} {V X : Nat → Value} {M M' : PW} (h : BS w3 b8 w V M) (hf : FarV W w.heap.size X M') (hb : Below w.heap.size w W) (hb2 : Below W.heap.size W W2) : BS w3 b8 (W2.setCells b8 0 [X 0, X 1, X 2, X 3, X 4, X 5, X 6, X 7, X 8, X 9, X 10]) X M' := by
 have b := btr hb hb2
 have t := there_belowO h.t b
 have hl := h.lt
 have k : Kp (fun k => k = b8) W2 (W2.setCells b8 0 [X 0, X 1, X 2, X 3, X 4, X 5, X 6, X 7, X 8, X 9, X 10]) := Kp.setCells (T := fun k => k = b8) (.inl rfl) _ _ _ (Kp.refl _ _)
 have e := h.e.trans (b.mono (Nat.le_of_lt hl))
 exact ⟨((hf.below hb2).put b8 0 _ hl).v0, World.rangeAt_setCells_same _ b8 0 (arr11 X).toList t, World.there_setCells t _ _ _, k.below e (Nat.le_of_lt (Nat.lt_of_lt_of_le hl b.size)) (fun k hk e => by omega)⟩
set_option maxRecDepth 100000 in
set_option maxHeartbeats 16000000 in
theorem topBell_any (v g : Value) (rs ns : List Int) (late : Int) (w : World) (hv : RawIn w v rs) (hg : RawIn w g ns) (h0 : -9223372036854775808 ≤ late) (h1 : late ≤ 9223372036854775807) (hkn : KnW w) :
  Calls Tryz.prog 4 #[v, g, .int .i64 late] w fun r w' => r = .returned (.bool true) ∧ Below w.heap.size w w' := by
 have HV := hid hv
 have HG := hid hg
 have HK := hid hkn
 obtain ⟨q, b, off, cap, ev, hq, hi, hb⟩ := hv
 obtain ⟨q2, b2, off2, cap2, eg, hq2, hi2, hb2⟩ := hg
 subst ev
 subst eg
 clear hq hi hb hkn
 by_cases hr : 256 < rs.length
 ·have hr2 : (256 : Int) < (rs.length : Int) := by omega
  go_enter Tryz.func4, Tryz.ntmps4
  go_wp2_with fail
  go_ret
  exact ⟨rfl, Below.refl _ _⟩
 have hr2 : ¬ (256 : Int) < (rs.length : Int) := by omega
 by_cases hn : 20 < ns.length
 ·have hn2 : (20 : Int) < (ns.length : Int) := by omega
  go_enter Tryz.func4, Tryz.ntmps4
  go_wp2_with fail
  go_ret
  exact ⟨rfl, Below.refl _ _⟩
 have hn2 : ¬ (20 : Int) < (ns.length : Int) := by omega
 have BG := hid (begun_ref (.slice q rs.length cap) rs 7 w HV.out (by omega) (by decide) (by decide) HK.out)
 go_enter Tryz.func4, Tryz.ntmps4
 go_wp2_with fail
 refine BG.out.mono ?_
 rintro r w1 ⟨X, tag, L, rfl, hw, hL, htz, hb1⟩
 have WX := hid (hw.v (fit_of (p2_fit L)).2)
 have HL := hid hL
 have B1 := hid hb1
 have O1 := hid hw.ones
 clear hw hL htz hb1 BG
 have T7 := hid (there_new w1 #[.slice none 0 0, .slice none 0 0, .slice none 0 0, .slice none 0 0, .slice none 0 0, .slice none 0 0, .slice none 0 0, .slice none 0 0, .slice none 0 0, .slice none 0 0, .int .i64 0] 28 w1.heap.size 11 rfl (by decide))
 have BN := hid (box_new WX.out)
 go_upto_region 4 with (first | ((with_reducible (show wpList _ _ _ (⟨_, Op.store 28 _ _, _, _, _, _⟩ :: _) _ _)); refine wpList_store_mid rfl 28 _ _ rfl w1.heap.size 0 (arr11 X) rfl rfl T7.out infoW O1.out ?_))
 have R7 := hid BN.out.2.1
 have V7 := hid BN.out.2.2.2
 have B7 := hid BN.out.1
 clear BN T7 O1
 generalize World.setCells _ _ _ _ = w2 at R7 V7 B7 ⊢
 have LB := hid (show w.heap.size ≤ w1.heap.size from B1.out.size)
 have L7 := hid (show w1.heap.size < w2.heap.size from World.block_lt_of_cell? _ ⟨w1.heap.size, 0, none⟩ (range_cell R7.out (k := 0) rfl))
 have SP := hid (stepPick X L w2 V7.out HL.out)
 have BB := hid (btr B1.out B7.out)
 clear B1 WX B7
 generalize w1.heap.size = b7 at *
 go_wp2_with (first | ((with_reducible (show wpList _ _ _ (⟨_, Op.load 28 _, _, _, _, _⟩ :: _) _ _)); refine wp_ldW rfl _ rfl b7 rfl X R7.out ?_))
 refine SP.out.mono ?_
 rintro r w3 ⟨Y, rfl, hy, hb3⟩
 have O8 := hid hy.ones
 have BN := hid (box_new hy)
 have T8 := hid (there_new w3 #[.slice none 0 0, .slice none 0 0, .slice none 0 0, .slice none 0 0, .slice none 0 0, .slice none 0 0, .slice none 0 0, .slice none 0 0, .slice none 0 0, .slice none 0 0, .int .i64 0] 28 w3.heap.size 11 rfl (by decide))
 have R73 := hid (range_below R7.out hb3)
 have V73 := hid (V7.out.below hb3)
 have BB3 := hid (btr BB.out hb3)
 have L73 := hid (show b7 < w3.heap.size from Nat.lt_of_lt_of_le L7.out hb3.size)
 clear hy hb3 SP R7 V7 BB
 go_upto_region 5 with (first | ((with_reducible (show wpList _ _ _ (⟨_, Op.store 28 _ _, _, _, _, _⟩ :: _) _ _)); refine wpList_store_mid rfl 28 _ _ rfl w3.heap.size 0 (arr11 Y) rfl rfl T8.out infoW O8.out ?_))
 have R8 := hid BN.out.2.1
 have T84 := hid BN.out.2.2.1
 have V8 := hid BN.out.2.2.2
 have R74 := hid (range_below R73.out BN.out.1)
 have V74 := hid (V73.out.below BN.out.1)
 have B34 := hid BN.out.1
 clear BN T8 O8
 generalize World.setCells _ _ _ _ = w4 at R8 T84 V8 R74 V74 B34 ⊢
 have S8 := hid (show w3.heap.size = w3.heap.size from rfl)
 generalize hS8 : w3.heap.size = b8 at R8 T84 V8 B34 S8 L73 ⊢
 clear S8
 have S8 := hid hS8
 clear hS8
 have LK := hid (topLike X Y (p2 L) (p3 L) w4 V74.out V8.out (fit_of (p3_fit L)).1 (p3_snd L HL.out) (by rw [(p3_kinds L).1]; decide) (by rw [(p3_kinds L).1, (p3_kinds L).2.1]) (by rw [(p3_kinds L).2.2.1, (p3_kinds L).2.2.2]))
 go_wp2_with (first | ((with_reducible (show wpList _ _ _ (⟨_, Op.load 28 _, _, _, _, _⟩ :: _) _ _)); first | go_skip | go_big_skip | refine wp_ldWg (by rfl) _ rfl b7 rfl X R74.out ?_ | refine wp_ldWg (by rfl) _ rfl b8 rfl Y R8.out ?_))
 refine LK.out.mono ?_
 rintro r w5 ⟨rfl, hb5⟩
 obtain ⟨q6, b6, o6, k6, e6, hq6, hz6⟩ := V8.out.cores.below hb5
 have hz0 := hz6 0 (by rw [(p3_kinds L).2.2.1]; decide)
 have hc0 := p3_core L
 rw [List.getD_eq_getElem?_getD, List.getElem?_eq_getElem (by rw [(p3_kinds L).2.2.1]; decide)] at hc0
 rw [show (p3 L).cores[0]'(by rw [(p3_kinds L).2.2.1]; decide) = 8 from hc0, Nat.add_zero] at hz0
 rw [(p3_kinds L).2.2.1] at e6 hq6
 obtain rfl := hq6 (by decide)
 have c6 : w5.cell? ⟨b8, 6, none⟩ = some (Y 6) := range_cell (range_below R8.out hb5) rfl
 rw [e6] at c6
 have B0 := hid (show BS w3 b8 w5 Y (p3 L) from ⟨V8.out.below hb5, range_below R8.out hb5, there_belowO T84.out hb5, B34.out.trans (hb5.mono (Nat.le_of_lt (World.block_lt_of_cell? _ ⟨b8, 0, none⟩ (range_cell R8.out (k := 0) rfl))))⟩)
 have hln : (0 : Int) < (ns.length : Int) + 1 := by omega
 have PL := hid (pickV_bound late ((ns.length : Int) + 1) hln)
 have PK := hid (fun W : World => pick_eq late ((ns.length : Int) + 1) W h0 h1 hln)
 generalize pickV late ((ns.length : Int) + 1) = lt at PL PK
 clear e6 hq6 hz6 hc0 hb5 LK R8 T84 V8 R74 V74 B34 h0 h1
 go_wp2_with fail
 refine (PK.out _).mono ?_
 rintro r w6 ⟨rfl, rfl⟩
 clear c6 hz0 PK hln
 go_upto_region 11 with fail
 go_loopw [11, 12, 13] (fun rg hd i wr => ∃ (k : Nat) (r h : Int) (V : Nat → Value) (M : PW), k ≤ ns.length ∧ i = .int .i64 (k : Int) ∧ rg = .int .i64 r ∧ hd = .int .i64 h ∧ Hid (BellI L ((k : Int) ≤ lt) M r h) ∧ Hid (BS w3 b8 wr V M)) (fun _ _ i _ => ns.length + 1 - (intOf i).toNat)
 case atStart => exact ⟨0, 0, 0, Y, p3 L, Nat.zero_le _, rfl, rfl, rfl, hid ⟨in_0, .inl ⟨PL.out.1, (mA_0 L).symm, rfl⟩⟩, B0⟩
 case round =>
  obtain ⟨k, r, h, V, M, hk, rfl, rfl, rfl, BI, BW⟩ := hrel
  clear B0
  have hk2 : (k : Int) ≤ (ns.length : Int) := by omega
  have hk3 : (ns.length : Int) ≤ 20 := by omega
  have HK3 := hid hk
  clear hk
  go_upto_if 64 with fail
  go_cut [12, 15] (fun hd _ wx => ∃ (h2 : Int) (V2 : Nat → Value) (M2 : PW), hd = .int .i64 h2 ∧ Hid (BellI L ((k : Int) + 1 ≤ lt) M2 r h2) ∧ Hid (BS w3 b8 wx V2 M2))
  case first =>
   by_cases hl : (k : Int) = lt
   ·subst hl
    obtain ⟨h0, hmt, hcs⟩ := BI.out.hear (c := (k : Int) + 1 ≤ (k : Int)) (Int.le_refl _) (by omega)
    subst h0
    have HCS := hid hcs
    have MM0 := hid (BI.out.m HL.out)
    have CT := hid (stepListen V M wr BW.out.v MM0.out.fit MM0.out.snd hmt)
    have MM := hid (show BellM (hbP M 8 11) from by
     rcases hcs with ⟨_, _, _, h⟩ | ⟨_, _, h⟩
     ·exact h.m HL.out
     ·exact h.m HL.out)
    clear hcs hmt MM0
    go_wp2_with (first | ((with_reducible (show wpList _ _ _ (⟨_, Op.load 28 _, _, _, _, _⟩ :: _) _ _)); first | go_skip | go_big_skip | refine wp_ldWg (by rfl) _ rfl b8 rfl V BW.out.r ?_))
    refine CT.out.mono ?_
    rintro r wa ⟨X2, rfl, hf, hb⟩
    have O2 := hid hf.v0.ones
    have BX := hid (box_new hf.v0)
    have TX := hid (there_new wa #[.slice none 0 0, .slice none 0 0, .slice none 0 0, .slice none 0 0, .slice none 0 0, .slice none 0 0, .slice none 0 0, .slice none 0 0, .slice none 0 0, .slice none 0 0, .int .i64 0] 28 wa.heap.size 11 rfl (by decide))
    have HF := hid hf
    have HB := hid hb
    clear hf hb CT
    go_upto_region 15 with (first | ((with_reducible (show wpList _ _ _ (⟨_, Op.store 28 _ _, _, _, _, _⟩ :: _) _ _)); refine wpList_store_mid rfl 28 _ _ rfl wa.heap.size 0 (arr11 X2) rfl rfl TX.out infoW O2.out ?_))
    have RX := hid BX.out.2.1
    have VX := hid BX.out.2.2.2
    have B2 := hid BX.out.1
    clear BX TX
    generalize World.setCells _ _ _ _ = wb at RX VX B2 ⊢
    have E2 := hid (show Below w3.heap.size w3 wb from by rw [S8.out]; exact BW.out.e.trans ((btr HB.out B2.out).mono (Nat.le_of_lt BW.out.lt)))
    have R7 := hid (range_below R73.out E2.out)
    have LK := hid (topLike X X2 (p2 L) (hbP M 8 11) wb (V73.out.below E2.out) VX.out (fit_of MM.out.fit).1 MM.out.snd (by rw [MM.out.kinds]; decide) (by rw [MM.out.kinds, (p3_kinds L).2.1]) (by rw [MM.out.cores, (p3_kinds L).2.2.2]))
    generalize wa.heap.size = bx at RX ⊢
    go_wp2_with (first | ((with_reducible (show wpList _ _ _ (⟨_, Op.load 28 _, _, _, _, _⟩ :: _) _ _)); first | go_skip | go_big_skip | refine wp_ldWg (by rfl) _ rfl b7 rfl X R7.out ?_ | refine wp_ldWg (by rfl) _ rfl bx rfl X2 RX.out ?_))
    refine LK.out.mono ?_
    rintro r wc ⟨rfl, hc⟩
    have RX2 := hid (range_below RX.out hc)
    have BN := hid (BW.out.next HF.out HB.out (btr B2.out hc))
    have T2 := hid (there_belowO BW.out.t (btr HB.out (btr B2.out hc)))
    clear hc LK RX VX R7 E2 HF HB B2
    go_upto_region 18 with (first | ((with_reducible (show wpList _ _ _ (⟨_, Op.load 28 _, _, _, _, _⟩ :: _) _ _)); first | go_skip | go_big_skip | refine wp_ldWg (by rfl) _ rfl bx rfl X2 RX2.out ?_) | ((with_reducible (show wpList _ _ _ (⟨_, Op.store 28 _ _, _, _, _, _⟩ :: _) _ _)); refine wpList_store_mid rfl 28 _ _ rfl b8 0 (arr11 X2) rfl rfl T2.out infoW O2.out ?_))
    clear RX2 T2 O2
    generalize World.setCells _ _ _ _ = wd at BN ⊢
    obtain ⟨tb, tO, tc, e3, t9, t2⟩ := BN.out.v.task8 MM.out.tasks
    have c3 : wd.cell? ⟨b8, 3, none⟩ = some (X2 3) := range_cell BN.out.r rfl
    rw [e3] at c3
    clear e3
    rcases HCS.out with ⟨hr0, hs, hr2, hB⟩ | ⟨hr0, hs, hB⟩
    ·rw [hs] at t9
     rw [hr2] at t2
     have HB2 := hid hB
     clear hs hr2 hB HCS
     go_wp2_with fail
     go_meet
     exact ⟨_, _, _, rfl, HB2, BN⟩
    ·subst hr0
     rw [hs] at t9
     have HB2 := hid hB
     clear hs hB HCS t2
     go_wp2_with fail
     go_meet
     exact ⟨_, _, _, rfl, HB2, BN⟩
   ·have hl2 : ((k : Int) == lt) = false := by simpa using hl
    go_wp2_with fail
    go_meet
    refine ⟨_, _, _, rfl, ?_, BW⟩
    have e : ((k : Int) + 1 ≤ lt) = ((k : Int) ≤ lt) := propext ⟨fun h => by omega, fun h => by omega⟩
    rw [e]
    exact BI
  case rest =>
   clear BI BW
   obtain ⟨h2, V2, M2, rfl, BI, BW⟩ := hcut
   have BS8 := hid (show Below w3.heap.size w3 wc from by rw [S8.out]; exact BW.out.e)
   have M0 := hid (BI.out.m HL.out)
   have c3 : wc.cell? ⟨b8, 3, none⟩ = some (V2 3) := range_cell BW.out.r rfl
   by_cases hlt : k < ns.length
   ·have hlt2 : (k : Int) < (ns.length : Int) := by omega
    have hne : ((k : Int) == (ns.length : Int)) = false := by simp; omega
    have hqe := hq2 (by omega)
    subst hqe
    have ck : wc.cell? ⟨b2, off2 + k, none⟩ = some (.int .i64 ns[k]) := (hi2.below (btr BB3.out BS8.out)) k hlt
    have PN := pickV_bound ns[k] 65536 (by decide)
    have PK := hid (fun W : World => pick_eq ns[k] 65536 W (hb2 _ (List.getElem_mem hlt)).1 (hb2 _ (List.getElem_mem hlt)).2 (by decide))
    generalize ns[k] = z at ck PK PN
    generalize pickV z 65536 = n at PN PK
    have HN := hid (show In16 n from ⟨PN.1, by omega⟩)
    clear PN
    obtain ⟨tb, tO, tc, e3, t9, _⟩ := BW.out.v.task8 M0.out.tasks
    rw [e3] at c3
    clear e3
    have HR := hid (BI.out.ring HN.out)
    have CT := hid (stepRing V2 M2 n wc BW.out.v M0.out.fit M0.out.snd M0.out.may HN.out)
    have MM := hid (show BellM (rgP M2 11 n) from by
     rcases HR.out with ⟨_, h3, _, h⟩ | ⟨_, h⟩
     ·exact h.m HL.out
     ·exact h.m HL.out)
    have EK := hid (show (((k + 1 : Nat) : Int) ≤ lt) = ((k : Int) + 1 ≤ lt) by rw [Int.natCast_add]; rfl)
    generalize M2.tasks.getD 8 bl 9 = st at t9 HR
    clear hi2 hb2 hq2 BI M0
    go_wp2_with fail
    refine (PK.out _).mono ?_
    rintro r2 wq ⟨rfl, rfl⟩
    clear ck PK
    go_upto_region 23 with fail
    clear c3 t9
    go_wp2_with (first | ((with_reducible (show wpList _ _ _ (⟨_, Op.load 28 _, _, _, _, _⟩ :: _) _ _)); first | go_skip | go_big_skip | refine wp_ldWg (by rfl) _ rfl b8 rfl V2 BW.out.r ?_))
    refine CT.out.mono ?_
    rintro r wa ⟨X3, rfl, hf, hb⟩
    have O2 := hid hf.v0.ones
    have BX := hid (box_new hf.v0)
    have TX := hid (there_new wa #[.slice none 0 0, .slice none 0 0, .slice none 0 0, .slice none 0 0, .slice none 0 0, .slice none 0 0, .slice none 0 0, .slice none 0 0, .slice none 0 0, .slice none 0 0, .int .i64 0] 28 wa.heap.size 11 rfl (by decide))
    have HF := hid hf
    have HB := hid hb
    clear hf hb CT
    go_upto_region 24 with (first | ((with_reducible (show wpList _ _ _ (⟨_, Op.store 28 _ _, _, _, _, _⟩ :: _) _ _)); refine wpList_store_mid rfl 28 _ _ rfl wa.heap.size 0 (arr11 X3) rfl rfl TX.out infoW O2.out ?_))
    have RX := hid BX.out.2.1
    have VX := hid BX.out.2.2.2
    have B2 := hid BX.out.1
    clear BX TX
    generalize World.setCells _ _ _ _ = wb at RX VX B2 ⊢
    have E2 := hid (show Below w3.heap.size w3 wb from by rw [S8.out]; exact BW.out.e.trans ((btr HB.out B2.out).mono (Nat.le_of_lt BW.out.lt)))
    have R7 := hid (range_below R73.out E2.out)
    have LK := hid (topLike X X3 (p2 L) (rgP M2 11 n) wb (V73.out.below E2.out) VX.out (fit_of MM.out.fit).1 MM.out.snd (by rw [MM.out.kinds]; decide) (by rw [MM.out.kinds, (p3_kinds L).2.1]) (by rw [MM.out.cores, (p3_kinds L).2.2.2]))
    generalize wa.heap.size = bx at RX ⊢
    go_wp2_with (first | ((with_reducible (show wpList _ _ _ (⟨_, Op.load 28 _, _, _, _, _⟩ :: _) _ _)); first | go_skip | go_big_skip | refine wp_ldWg (by rfl) _ rfl b7 rfl X R7.out ?_ | refine wp_ldWg (by rfl) _ rfl bx rfl X3 RX.out ?_))
    refine LK.out.mono ?_
    rintro r wc ⟨rfl, hc⟩
    have RX2 := hid (range_below RX.out hc)
    have BN := hid (BW.out.next HF.out HB.out (btr B2.out hc))
    have T2 := hid (there_belowO BW.out.t (btr HB.out (btr B2.out hc)))
    clear hc LK RX VX R7 E2 HF HB B2
    go_upto_region 28 with (first | ((with_reducible (show wpList _ _ _ (⟨_, Op.load 28 _, _, _, _, _⟩ :: _) _ _)); first | go_skip | go_big_skip | refine wp_ldWg (by rfl) _ rfl bx rfl X3 RX2.out ?_) | ((with_reducible (show wpList _ _ _ (⟨_, Op.store 28 _ _, _, _, _, _⟩ :: _) _ _)); refine wpList_store_mid rfl 28 _ _ rfl b8 0 (arr11 X3) rfl rfl T2.out infoW O2.out ?_))
    clear RX2 T2 O2
    generalize World.setCells _ _ _ _ = wd at BN ⊢
    obtain ⟨sb, so, sc, e3, _, s2⟩ := BN.out.v.task8 MM.out.tasks
    have c3 : wd.cell? ⟨b8, 3, none⟩ = some (X3 3) := range_cell BN.out.r rfl
    rw [e3] at c3
    clear e3
    rcases HR.out with ⟨rfl, h3, hr2, hB⟩ | ⟨rfl, hB⟩
    ·rw [hr2] at s2
     have HB2 := hid (show BellI L (((k + 1 : Nat) : Int) ≤ lt) _ _ h3 from by rw [EK.out]; exact hB)
     clear hr2 hB HR EK
     go_wp2_with fail
     exact ⟨⟨k + 1, _, _, _, _, by omega, by go_num, rfl, rfl, HB2, BN⟩, by simp [intOf]; omega⟩
    ·have HB2 := hid (show BellI L (((k + 1 : Nat) : Int) ≤ lt) _ _ h2 from by rw [EK.out]; exact hB)
     clear hB HR s2 EK
     go_wp2_with fail
     exact ⟨⟨k + 1, _, _, _, _, by omega, by go_num, rfl, rfl, HB2, BN⟩, by simp [intOf]; omega⟩
   ·have hke : (k : Int) = (ns.length : Int) := by have := HK3.out; omega
    have hke2 : ((k : Int) == (ns.length : Int)) = true := by simpa using hke
    have DN := hid (BI.out.done (by have := PL.out.2; omega))
    obtain ⟨tb, tO, tc, e5, t11⟩ := BW.out.v.bit11 M0.out.bits
    have c5 : wc.cell? ⟨b8, 5, none⟩ = some (V2 5) := range_cell BW.out.r rfl
    rw [e5] at c5
    generalize M2.bits.getD 11 0 = bv at t11 DN
    clear e5 hke M0 BI c3 hi2 hb2 hq2
    go_wp2_with fail
    go_ret
    exact ⟨by rw [DN.out]; simp, btr BB3.out BS8.out⟩
end Go.Proofs.YtakmaeohhclngaaGreatDoor.Wd
namespace Go.Proofs.YtakmaeohhclngaaGreatDoor
open Go.ChangeShapes Go.WideShapes Go.RowKit
theorem own : ownKnob Tryz.prog.godebug = none := by kernel_rfl
theorem laidOut : laidOutB Tryz.prog = true := by kernel_rfl
end Go.Proofs.YtakmaeohhclngaaGreatDoor
namespace Go.Proofs.YtakmaeohhclngaaGreatDoor.Wd
open Go.ChangeShapes Go.WideShapes Go.RowKit Go.Deep Go.Joins Go.Proofs.YtakmaeohhclngaaGreatDoor.Mem Go.Proofs.YtakmaeohhclngaaGreatDoor.Nums Go.Proofs.YtakmaeohhclngaaGreatDoor.Hex
theorem spot_noneK {P : Program} {W : World} {r : Reach} {base : Nat} {t e : TypeId} {a : Addr} {len cap : Nat} (ht : P.underlying t = some (.slice e)) (h : Value.okWide P W r base t (.slice (some a) len cap)) : a.spot = none := by
 simp only [Value.okWide, ht, Cell.okWide, Cell.ok] at h
 exact h.2.2.2.1
theorem one_intK {P : Program} {w : World} {base : Nat} {spare : Nat → Bool} {held : Bool} {H : Type} {enc : TypeId × Value → H} {u : TypeId} {fuel : Nat} {a : Addr} {cs : List Value} {x : DataW H × List MemPlace} (hu : P.underlying u = some (.int .i64))
  (hc : w.cells? base a 1 = some cs) (h : DataW.trod enc P w base spare held fuel u cs = some x) : ∃ q : Int, w.cell? (a.add 0) = some (.int .i64 q) ∧ -9223372036854775808 ≤ q ∧ q ≤ 9223372036854775807 := by
 obtain ⟨_, hl, hcc⟩ := World.cells?_some hc
 match cs, hl with
 | [c0], _ =>
  obtain ⟨n0, k0, _, hw⟩ := DataW.trod_int hu h
  simp at k0
  subst k0
  refine ⟨n0, hcc 0 (by omega), ?_⟩
  simp [Lit.wf, IntKind.min, IntKind.max, IntKind.signed, IntKind.bits] at hw
  omega
set_option maxRecDepth 100000 in
/-- A slice of numbers that is read. -/
theorem open_rawK {H : Type} {enc : TypeId × Value → H} {W : World} {r : Reach} {base : Nat} {v : Value} {d : DataW H} {p : List MemPlace}
  (hv : Value.okWide Tryz.prog W r base 22 v) (h : DataW.Trod enc Tryz.prog W 0 (fun _ => true) true 22 v d p) :
  ∃ zs : List Int, RawIn W v zs ∧ zs.length ≤ maxLen := by
 obtain ⟨a0, len, cap, rfl⟩ := okWide_slice Tryz.underlying22 hv
 obtain ⟨fuel, hf⟩ := h
 rcases open_slice Tryz.underlying22 hf with ⟨hcs, _⟩ | ⟨a, len', cap', m, n, D, Pl, hcs, _, hl, hm, hmm, _, hc⟩
 ·simp [Value.cells] at hcs
  obtain ⟨rfl, rfl, rfl⟩ := hcs
  exact ⟨[], ⟨none, 0, 0, 0, rfl, fun h => by simp at h, fun j hj => by simp at hj, fun z hz => by simp at hz⟩, by simp⟩
 ·simp [Value.cells] at hcs
  obtain ⟨rfl, rfl, rfl⟩ := hcs
  have hsp := spot_noneK Tryz.underlying22 hv
  obtain ⟨ab, ao, asp⟩ := a
  simp at hsp
  subst hsp
  have hml : len ≤ m := by rw [hmm]; split <;> omega
  obtain ⟨q, hq⟩ := choose_lt (α := Int) (n := len) (p := fun i q => W.cell? ⟨ab, ao + i, none⟩ = some (.int .i64 q) ∧ -9223372036854775808 ≤ q ∧ q ≤ 9223372036854775807) (fun i hi => by
   obtain ⟨cs', h1, h2⟩ := hc i (by omega)
   rw [cellsI] at h1
   obtain ⟨q, k0, k1⟩ := one_intK Tryz.underlying3 h1 h2
   simp only [addr_plain, Nat.mul_one, Nat.add_zero] at k0
   exact ⟨q, k0, k1⟩)
  refine ⟨(List.range len).map q, ⟨some ⟨ab, ao, none⟩, ab, ao, cap, by simp, fun _ => rfl, fun j hj => ?_, fun z hz => ?_⟩, by simp; omega⟩
  ·have hj' : j < len := by simpa using hj
   have e : ((List.range len).map q)[j] = q j := by simp
   rw [e]
   exact (hq j hj').1
  ·obtain ⟨j, hj, rfl⟩ := List.mem_map.1 hz
   exact (hq j (List.mem_range.1 hj)).2
theorem slice_strs {H : Type} {enc : TypeId × Value → H} {P : Program} {w : World} {base : Nat} {spare : Nat → Bool} {held : Bool} {t e : TypeId} {fuel : Nat} {cs : List Value} {L : List (List UInt8)} {p : List MemPlace} (ht : P.underlying t = some (.slice e)) (he : P.underlying e = some .string) (hce : P.cellsOf e = 1)
  (h : DataW.trod enc P w base spare held fuel t cs = some (.slice (L.map fun l => .lit (.string l)) [], p)) (h0 : 0 < L.length) :
  ∃ b o c, cs = [.slice (some ⟨b, o, none⟩) L.length c] ∧ ∀ k (hk : k < L.length), w.cell? ⟨b, o + k, none⟩ = some (.string ⟨L[k].toArray⟩) := by
 rcases open_slice1 ht hce h with ⟨_, hx⟩ | ⟨a, len, cap, m, n, V, D, Pl, hcs, _, hl, _, hm, hx, hc⟩
 ·simp at hx
 ·simp only [Prod.mk.injEq, DataW.slice.injEq] at hx
  have hlen : len = L.length := by have := congrArg List.length hx.1.1; simpa using this.symm
  subst hlen
  have hml : L.length ≤ m := by rw [hm]; split <;> omega
  obtain ⟨ab, ao, asp⟩ := a
  have hsp : asp = none := by
   have := (hc 0 (by omega)).1
   have := World.cell?_spot this
   simpa [Addr.add] using this
  subst hsp
  refine ⟨ab, ao, cap, hcs, fun k hk => ?_⟩
  obtain ⟨h1, h2⟩ := hc k (by omega)
  obtain ⟨s, e1, e2, _⟩ := DataW.trod_string he h2
  have h3 := congrArg (·[k]?) hx.1.1
  simp only [List.getElem?_map, List.getElem?_eq_getElem hk, List.getElem?_range hk, Option.map_some, Option.some.injEq] at h3
  simp only [Prod.mk.injEq] at e2
  rw [← h3] at e2
  simp at e1 e2
  rw [e1] at h1
  have e4 : (⟨L[k].toArray⟩ : ByteArray) = s := by rw [e2.1]
  rw [e4, ← addr_plain]
  exact h1
theorem knG : Tryz.prog.globalNamed "keyhold/keyholdref.kindNames" = some 1 := by kernel_rfl
theorem knT : (Tryz.prog.globals[1]?).map (·.type) = some 77 := by kernel_rfl
theorem strC : Tryz.prog.cellsOf 9 = 1 := by kernel_rfl
theorem kn_of {W : World} {g t : Nat} {cs : Array Value} {fuel : Nat} {p : List MemPlace} (hg : Tryz.prog.globalNamed "keyhold/keyholdref.kindNames" = some g) (ht : (Tryz.prog.globals[g]?).map (·.type) = some t) (hv : W.var? Tryz.prog "keyhold/keyholdref.kindNames" = some cs)
  (hd : DataW.trod (fun _ => ()) Tryz.prog W 0 (fun _ => true) false fuel t cs.toList = some (Rows.laid_keyhold_keyholdref_kindNames, p)) : KnW W := by
 obtain rfl := Option.some.inj (knG.symm.trans hg)
 obtain rfl := Option.some.inj (knT.symm.trans ht)
 have e : (Rows.laid_keyhold_keyholdref_kindNames : DataW Unit) = .slice ((knB.map fun x => x.data.toList).map fun l => .lit (.string l)) [] := rfl
 rw [e] at hd
 obtain ⟨b, o, c, h1, h2⟩ := slice_strs Tryz.underlying77 Tryz.underlying9 strC hd (by decide)
 refine ⟨b, o, c, ?_, fun k hk => ?_⟩
 ·rw [World.var?_cell knG hv 0]
  have := congrArg (·[0]?) h1
  rw [show (knB.map fun x => x.data.toList).length = 7 from rfl] at this
  simpa using this
 ·have := h2 k (by rw [List.length_map]; exact hk)
  rw [this]
  simp
end Go.Proofs.YtakmaeohhclngaaGreatDoor.Wd
