/- mail.Ring, mail.Listen and keyholdlaw.MailRings, walked. (Written by mk_mllaw.py.) · TopBell's calls, at sound worlds where nothing is refused. · TopBell's loop: what holds behind so many rings, and the cells that it reads. -/
import Derived.Deep.RegionHeld3
import Derived.Test.YtakmaeohhclngaaGreatDoorQbi
import Derived.Test.YtakmaeohhclngaaGreatDoorQbo
import Derived.Test.YtakmaeohhclngaaGreatDoorQat
namespace Go.Proofs.YtakmaeohhclngaaGreatDoor.Wd
open Go.RowKit Go.Proofs.YtakmaeohhclngaaGreatDoor.Mem Go.Proofs.YtakmaeohhclngaaGreatDoor.Bw Go.Proofs.YtakmaeohhclngaaGreatDoor.Nums Go.Proofs.YtakmaeohhclngaaGreatDoor.Mmu
theorem cf_r1 (args : Array Value) (W : World) : (callFunc 39 args).run Tryz.prog W = .ok (.enter 39 args) W := by
 go_simp
theorem cf_l1 (args : Array Value) (W : World) : (callFunc 38 args).run Tryz.prog W = .ok (.enter 38 args) W := by
 go_simp
theorem rg_tlbs (p : PW) (b g : Int) : (rgP p b g).tlbs = p.tlbs := by
 unfold rgP
 split <;> rfl
theorem hb_tlbs (p : PW) (t b : Int) : (hbP p t b).tlbs = p.tlbs := by
 unfold hbP
 split <;> rfl
set_option maxRecDepth 100000 in
set_option maxHeartbeats 4000000 in
theorem mailRing_any (V : Nat → Value) (p : PW) (b c : Int) (w : World) (hv : WorldV w V p) (hp : p.Fits) :
  Calls Tryz.prog 14 #[.agg (arr11 V), .int .i64 b, .int .i64 c] w fun x w' => ∃ X, x = .returned (.tuple #[.agg (arr11 X), eV (dE p (rgE p b c))]) ∧ FarV w' w.heap.size X (dP p (rgP p b c) (rgE p b c)) ∧ Below w.heap.size w w' := by
 have RG0 := boxed w V 28
 have RG1 := range_below RG0 (bal (Below.refl _ (w.alloc (.cells (arr11 V) 28))) (.cells #[.int .i64 b] 3))
 have RG2 := range_below RG1 (bal (Below.refl _ ((w.alloc (.cells (arr11 V) 28)).alloc (.cells #[.int .i64 b] 3))) (.cells #[.int .i64 c] 3))
 have RG3 := range_below RG2 (bal (Below.refl _ (((w.alloc (.cells (arr11 V) 28)).alloc (.cells #[.int .i64 b] 3)).alloc (.cells #[.int .i64 c] 3))) (.cells #[.slice none 0 0, .slice none 0 0, .slice none 0 0, .slice none 0 0, .slice none 0 0, .slice none 0 0, .slice none 0 0, .slice none 0 0, .slice none 0 0, .slice none 0 0, .int .i64 0] 28))
 have RG := hid RG3
 have B0 := hid (bal (bal (bal (bal (Below.refl w.heap.size w) (.cells (arr11 V) 28)) (.cells #[.int .i64 b] 3)) (.cells #[.int .i64 c] 3)) (.cells #[.slice none 0 0, .slice none 0 0, .slice none 0 0, .slice none 0 0, .slice none 0 0, .slice none 0 0, .slice none 0 0, .slice none 0 0, .slice none 0 0, .slice none 0 0, .int .i64 0] 28))
 have y1 := (cells_alloc (cells_alloc (cells_at (w.alloc (.cells (arr11 V) 28)) #[.int .i64 b] 3 (w.heap.size + 1) (by simp)) (by simp) (.cells #[.int .i64 c] 3)) (by simp) (.cells #[.slice none 0 0, .slice none 0 0, .slice none 0 0, .slice none 0 0, .slice none 0 0, .slice none 0 0, .slice none 0 0, .slice none 0 0, .slice none 0 0, .slice none 0 0, .int .i64 0] 28)) 0
 have y2 := (cells_alloc (cells_at ((w.alloc (.cells (arr11 V) 28)).alloc (.cells #[.int .i64 b] 3)) #[.int .i64 c] 3 (w.heap.size + 2) (by simp)) (by simp) (.cells #[.slice none 0 0, .slice none 0 0, .slice none 0 0, .slice none 0 0, .slice none 0 0, .slice none 0 0, .slice none 0 0, .slice none 0 0, .slice none 0 0, .slice none 0 0, .int .i64 0] 28)) 0
 have HC := hid (show Caps [((w.heap.size + 1), .int .i64 b), ((w.heap.size + 2), .int .i64 c)] ((((w.alloc (.cells (arr11 V) 28)).alloc (.cells #[.int .i64 b] 3)).alloc (.cells #[.int .i64 c] 3)).alloc (.cells #[.slice none 0 0, .slice none 0 0, .slice none 0 0, .slice none 0 0, .slice none 0 0, .slice none 0 0, .slice none 0 0, .slice none 0 0, .slice none 0 0, .slice none 0 0, .int .i64 0] 28)) from fun x hx => by
  simp only [List.mem_cons, List.not_mem_nil, or_false] at hx
  rcases hx with rfl | rfl
  ·exact y1
  ·exact y2)
 have SZ := hid (show ((((w.alloc (.cells (arr11 V) 28)).alloc (.cells #[.int .i64 b] 3)).alloc (.cells #[.int .i64 c] 3)).alloc (.cells #[.slice none 0 0, .slice none 0 0, .slice none 0 0, .slice none 0 0, .slice none 0 0, .slice none 0 0, .slice none 0 0, .slice none 0 0, .slice none 0 0, .slice none 0 0, .int .i64 0] 28)).heap.size = w.heap.size + 4 by simp)
 have TR := hid (there_new (((w.alloc (.cells (arr11 V) 28)).alloc (.cells #[.int .i64 b] 3)).alloc (.cells #[.int .i64 c] 3)) #[.slice none 0 0, .slice none 0 0, .slice none 0 0, .slice none 0 0, .slice none 0 0, .slice none 0 0, .slice none 0 0, .slice none 0 0, .slice none 0 0, .slice none 0 0, .int .i64 0] 28 (w.heap.size + 3) 11 (by simp) (by decide))
 clear RG0 RG1 RG2 RG3
 have HL := hid (tlbs_le hv.tlbs)
 have HD := hid (do_far 39 #[ptr (w.heap.size + 1), ptr (w.heap.size + 2)] (Caps [((w.heap.size + 1), .int .i64 b), ((w.heap.size + 2), .int .i64 c)]) V p (rgP p b c) (rgE p b c) ((((w.alloc (.cells (arr11 V) 28)).alloc (.cells #[.int .i64 b] 3)).alloc (.cells #[.int .i64 c] 3)).alloc (.cells #[.slice none 0 0, .slice none 0 0, .slice none 0 0, .slice none 0 0, .slice none 0 0, .slice none 0 0, .slice none 0 0, .slice none 0 0, .slice none 0 0, .slice none 0 0, .int .i64 0] 28)) (hv.below B0.out) hp cf_r1 (fun X h => HC.out.below h) (fun h => (ring_deed _ _ b c p hp HL.out h).caps (by rw [rg_tlbs]; exact HL.out)))
 unfold ptr at HD
 generalize dE p (rgE p b c) = de at HD ⊢
 generalize dP p (rgP p b c) (rgE p b c) = dp at HD ⊢
 clear hv hp HL y1 y2
 go_enter Tryz.func14, Tryz.ntmps14
 go_wp2_with (first | ((with_reducible (show wpList _ _ _ (⟨_, Op.load 28 _, _, _, _, _⟩ :: _) _ _)); refine wp_ldWg (by rfl) _ rfl _ rfl V RG.out ?_))
 generalize World.alloc _ _ = W0 at *
 refine HD.out.mono ?_
 rintro q w1 ⟨X, rfl, hF, hb⟩
 have T1 := hid (there_belowO TR.out hb)
 have one := hid (world_one hF.v0)
 have RX := hid (World.rangeAt_setCells_same w1 (w.heap.size + 3) 0 (arr11 X).toList T1.out)
 have BX := hid (below_setCells (btr B0.out hb) (show w.heap.size ≤ w.heap.size + 3 by omega) (arr11 X).toList 0)
 have WX := hid ((hF.put (w.heap.size + 3) 0 (arr11 X).toList (by rw [SZ.out]; omega)).mono (show w.heap.size ≤ _ by rw [SZ.out]; omega))
 clear hF hb HD
 go_wp2_with (first | ((with_reducible (show wpList _ _ _ (⟨_, Op.store 28 _ _, _, _, _, _⟩ :: _) _ _)); refine wpList_store_mid rfl 28 _ _ rfl (w.heap.size + 3) 0 (arr11 X) rfl rfl T1.out infoW one.out ?_))
 exact bodyPost_ret (v := .tuple #[.agg (arr11 X), eV de]) (results_d2 rfl rfl (run_loadVar_mid _ (w.heap.size + 3) 0 28 (arr11 X).toList _ RX.out Tryz.underlying28 rfl infoW) rfl) rfl ⟨X, rfl, WX.out, BX.out⟩
set_option maxRecDepth 100000 in
set_option maxHeartbeats 4000000 in
theorem mailListen_any (V : Nat → Value) (p : PW) (a b : Int) (w : World) (hv : WorldV w V p) (hp : p.Fits) :
  Calls Tryz.prog 13 #[.agg (arr11 V), .int .i64 a, .int .i64 b] w fun x w' => ∃ X, x = .returned (.tuple #[.agg (arr11 X), eV (dE p (mtE p a b 8))]) ∧ FarV w' w.heap.size X (dP p (hbP p a b) (mtE p a b 8)) ∧ Below w.heap.size w w' := by
 have RG0 := boxed w V 28
 have RG1 := range_below RG0 (bal (Below.refl _ (w.alloc (.cells (arr11 V) 28))) (.cells #[.int .i64 a] 3))
 have RG2 := range_below RG1 (bal (Below.refl _ ((w.alloc (.cells (arr11 V) 28)).alloc (.cells #[.int .i64 a] 3))) (.cells #[.int .i64 b] 3))
 have RG3 := range_below RG2 (bal (Below.refl _ (((w.alloc (.cells (arr11 V) 28)).alloc (.cells #[.int .i64 a] 3)).alloc (.cells #[.int .i64 b] 3))) (.cells #[.slice none 0 0, .slice none 0 0, .slice none 0 0, .slice none 0 0, .slice none 0 0, .slice none 0 0, .slice none 0 0, .slice none 0 0, .slice none 0 0, .slice none 0 0, .int .i64 0] 28))
 have RG := hid RG3
 have B0 := hid (bal (bal (bal (bal (Below.refl w.heap.size w) (.cells (arr11 V) 28)) (.cells #[.int .i64 a] 3)) (.cells #[.int .i64 b] 3)) (.cells #[.slice none 0 0, .slice none 0 0, .slice none 0 0, .slice none 0 0, .slice none 0 0, .slice none 0 0, .slice none 0 0, .slice none 0 0, .slice none 0 0, .slice none 0 0, .int .i64 0] 28))
 have y1 := (cells_alloc (cells_alloc (cells_at (w.alloc (.cells (arr11 V) 28)) #[.int .i64 a] 3 (w.heap.size + 1) (by simp)) (by simp) (.cells #[.int .i64 b] 3)) (by simp) (.cells #[.slice none 0 0, .slice none 0 0, .slice none 0 0, .slice none 0 0, .slice none 0 0, .slice none 0 0, .slice none 0 0, .slice none 0 0, .slice none 0 0, .slice none 0 0, .int .i64 0] 28)) 0
 have y2 := (cells_alloc (cells_at ((w.alloc (.cells (arr11 V) 28)).alloc (.cells #[.int .i64 a] 3)) #[.int .i64 b] 3 (w.heap.size + 2) (by simp)) (by simp) (.cells #[.slice none 0 0, .slice none 0 0, .slice none 0 0, .slice none 0 0, .slice none 0 0, .slice none 0 0, .slice none 0 0, .slice none 0 0, .slice none 0 0, .slice none 0 0, .int .i64 0] 28)) 0
 have HC := hid (show Caps [((w.heap.size + 1), .int .i64 a), ((w.heap.size + 2), .int .i64 b)] ((((w.alloc (.cells (arr11 V) 28)).alloc (.cells #[.int .i64 a] 3)).alloc (.cells #[.int .i64 b] 3)).alloc (.cells #[.slice none 0 0, .slice none 0 0, .slice none 0 0, .slice none 0 0, .slice none 0 0, .slice none 0 0, .slice none 0 0, .slice none 0 0, .slice none 0 0, .slice none 0 0, .int .i64 0] 28)) from fun x hx => by
  simp only [List.mem_cons, List.not_mem_nil, or_false] at hx
  rcases hx with rfl | rfl
  ·exact y1
  ·exact y2)
 have SZ := hid (show ((((w.alloc (.cells (arr11 V) 28)).alloc (.cells #[.int .i64 a] 3)).alloc (.cells #[.int .i64 b] 3)).alloc (.cells #[.slice none 0 0, .slice none 0 0, .slice none 0 0, .slice none 0 0, .slice none 0 0, .slice none 0 0, .slice none 0 0, .slice none 0 0, .slice none 0 0, .slice none 0 0, .int .i64 0] 28)).heap.size = w.heap.size + 4 by simp)
 have TR := hid (there_new (((w.alloc (.cells (arr11 V) 28)).alloc (.cells #[.int .i64 a] 3)).alloc (.cells #[.int .i64 b] 3)) #[.slice none 0 0, .slice none 0 0, .slice none 0 0, .slice none 0 0, .slice none 0 0, .slice none 0 0, .slice none 0 0, .slice none 0 0, .slice none 0 0, .slice none 0 0, .int .i64 0] 28 (w.heap.size + 3) 11 (by simp) (by decide))
 clear RG0 RG1 RG2 RG3
 have HL := hid (tlbs_le hv.tlbs)
 have HD := hid (do_far 38 #[ptr (w.heap.size + 1), ptr (w.heap.size + 2)] (Caps [((w.heap.size + 1), .int .i64 a), ((w.heap.size + 2), .int .i64 b)]) V p (hbP p a b) (mtE p a b 8) ((((w.alloc (.cells (arr11 V) 28)).alloc (.cells #[.int .i64 a] 3)).alloc (.cells #[.int .i64 b] 3)).alloc (.cells #[.slice none 0 0, .slice none 0 0, .slice none 0 0, .slice none 0 0, .slice none 0 0, .slice none 0 0, .slice none 0 0, .slice none 0 0, .slice none 0 0, .slice none 0 0, .int .i64 0] 28)) (hv.below B0.out) hp cf_l1 (fun X h => HC.out.below h) (fun h => (listen_deed _ _ a b p hp HL.out h).caps (by rw [hb_tlbs]; exact HL.out)))
 unfold ptr at HD
 generalize dE p (mtE p a b 8) = de at HD ⊢
 generalize dP p (hbP p a b) (mtE p a b 8) = dp at HD ⊢
 clear hv hp HL y1 y2
 go_enter Tryz.func13, Tryz.ntmps13
 go_wp2_with (first | ((with_reducible (show wpList _ _ _ (⟨_, Op.load 28 _, _, _, _, _⟩ :: _) _ _)); refine wp_ldWg (by rfl) _ rfl _ rfl V RG.out ?_))
 generalize World.alloc _ _ = W0 at *
 refine HD.out.mono ?_
 rintro q w1 ⟨X, rfl, hF, hb⟩
 have T1 := hid (there_belowO TR.out hb)
 have one := hid (world_one hF.v0)
 have RX := hid (World.rangeAt_setCells_same w1 (w.heap.size + 3) 0 (arr11 X).toList T1.out)
 have BX := hid (below_setCells (btr B0.out hb) (show w.heap.size ≤ w.heap.size + 3 by omega) (arr11 X).toList 0)
 have WX := hid ((hF.put (w.heap.size + 3) 0 (arr11 X).toList (by rw [SZ.out]; omega)).mono (show w.heap.size ≤ _ by rw [SZ.out]; omega))
 clear hF hb HD
 go_wp2_with (first | ((with_reducible (show wpList _ _ _ (⟨_, Op.store 28 _ _, _, _, _, _⟩ :: _) _ _)); refine wpList_store_mid rfl 28 _ _ rfl (w.heap.size + 3) 0 (arr11 X) rfl rfl T1.out infoW one.out ?_))
 exact bodyPost_ret (v := .tuple #[.agg (arr11 X), eV de]) (results_d2 rfl rfl (run_loadVar_mid _ (w.heap.size + 3) 0 28 (arr11 X).toList _ RX.out Tryz.underlying28 rfl infoW) rfl) rfl ⟨X, rfl, WX.out, BX.out⟩
end Go.Proofs.YtakmaeohhclngaaGreatDoor.Wd
namespace Go.Proofs.YtakmaeohhclngaaGreatDoor.Wd
open Go.RowKit Go.Proofs.YtakmaeohhclngaaGreatDoor.Mem Go.Proofs.YtakmaeohhclngaaGreatDoor.Bw Go.Proofs.YtakmaeohhclngaaGreatDoor.Nums Go.Proofs.YtakmaeohhclngaaGreatDoor.Mmu Go.Proofs.YtakmaeohhclngaaGreatDoor.Hex Go.Proofs.YtakmaeohhclngaaGreatDoor.Mad
theorem dE_0 {p : PW} {e : Int} (hs : sndB p = true) (he : e = 0) : dE p e = 0 := by unfold dE; rw [hs, if_pos rfl, he]
theorem dP_0 {p q : PW} {e : Int} (hs : sndB p = true) (he : e = 0) : dP p q e = q := by unfold dP; rw [dE_0 hs he, if_pos rfl]
theorem stepRing (V : Nat → Value) (p : PW) (n : Int) (w : World) (hv : WorldV w V p) (hf : fitB p = true) (hs : sndB p = true) (ht : thE p 11 8 = 0) (hn : 0 ≤ n ∧ n ≤ 65535) :
  Calls Tryz.prog 14 #[.agg (arr11 V), .int .i64 11, .int .i64 n] w fun x w' => ∃ X, x = .returned (.tuple #[.agg (arr11 X), .nilIface]) ∧ FarV w' w.heap.size X (rgP p 11 n) ∧ Below w.heap.size w w' := by
 have he : rgE p 11 n = 0 := by unfold rgE; rw [ht, if_pos rfl, wB_of hn]; rfl
 refine (mailRing_any V p 11 n w hv (fit_of hf).1).mono ?_
 rintro x w' ⟨X, rfl, h1, h2⟩
 rw [dP_0 hs he] at h1
 exact ⟨X, by rw [dE_0 hs he]; rfl, h1, h2⟩
theorem stepListen (V : Nat → Value) (p : PW) (w : World) (hv : WorldV w V p) (hf : fitB p = true) (hs : sndB p = true) (ht : mtE p 8 11 8 = 0) :
  Calls Tryz.prog 13 #[.agg (arr11 V), .int .i64 8, .int .i64 11] w fun x w' => ∃ X, x = .returned (.tuple #[.agg (arr11 X), .nilIface]) ∧ FarV w' w.heap.size X (hbP p 8 11) ∧ Below w.heap.size w w' := by
 refine (mailListen_any V p 8 11 w hv (fit_of hf).1).mono ?_
 rintro x w' ⟨X, rfl, h1, h2⟩
 rw [dP_0 hs ht] at h1
 exact ⟨X, by rw [dE_0 hs ht]; rfl, h1, h2⟩
theorem stepPick (V : Nat → Value) (L : Nat → Int) (w : World) (hv : WorldV w V (p2 L)) (h : ∀ i, i < 32 → 0 ≤ L i ∧ L i ≤ 65535) :
  Calls Tryz.prog 7 #[.agg (arr11 V), .int .i64 0] w fun x w' => ∃ X, x = .returned (.tuple #[.agg (arr11 X), .int .i64 8, .nilIface]) ∧ WorldV w' X (p3 L) ∧ Below w.heap.size w w' := by
 have hr : (p2 L).ready.all (fun l => decide (l.length ≤ 50)) = true := by kernel_rfl
 refine (pick_any V (p2 L) 0 w hv (fit_of (p2_fit L)).1 (fun l hl => of_decide_eq_true (List.all_eq_true.1 hr l hl))).mono ?_
 rintro x w' ⟨X, rfl, h1, h2⟩
 rw [dP_0 (p2_snd L h) (p2_pick L)] at h1
 refine ⟨X, ?_, h1, h2⟩
 unfold pkV
 rw [dE_0 (p2_snd L h) (p2_pick L), if_pos rfl]
 rw [show (slP (p2 L) (0 : Int).toNat).cores.getD (0 : Int).toNat 0 = 8 from p3_core L]
 rfl
/-- Or of words. -/
theorem or_in {a b : Int} (ha : 0 ≤ a ∧ a ≤ 65535) (hb : 0 ≤ b ∧ b ≤ 65535) : 0 ≤ bits .or .i64 a b ∧ bits .or .i64 a b ≤ 65535 := by
 have h := Bw.or_nat a.toNat b.toNat (by omega) (by omega)
 rw [show ((a.toNat : Nat) : Int) = a by omega, show ((b.toNat : Nat) : Int) = b by omega] at h
 rw [h]
 have := Nat.or_lt_two_pow (n := 16) (show a.toNat < 2 ^ 16 by omega) (show b.toNat < 2 ^ 16 by omega)
 omega
theorem or_assoc' {a b c : Int} (ha : 0 ≤ a ∧ a ≤ 65535) (hb : 0 ≤ b ∧ b ≤ 65535) (hc : 0 ≤ c ∧ c ≤ 65535) : bits .or .i64 (bits .or .i64 a b) c = bits .or .i64 a (bits .or .i64 b c) := by
 obtain ⟨x, rfl⟩ : ∃ x : Nat, a = x := ⟨a.toNat, by omega⟩
 obtain ⟨y, rfl⟩ : ∃ x : Nat, b = x := ⟨b.toNat, by omega⟩
 obtain ⟨z, rfl⟩ : ∃ x : Nat, c = x := ⟨c.toNat, by omega⟩
 have h1 := Nat.or_lt_two_pow (n := 16) (show x < 2 ^ 16 by omega) (show y < 2 ^ 16 by omega)
 have h2 := Nat.or_lt_two_pow (n := 16) (show y < 2 ^ 16 by omega) (show z < 2 ^ 16 by omega)
 rw [Bw.or_nat x y (by omega) (by omega), Bw.or_nat y z (by omega) (by omega), Bw.or_nat _ z (by omega) (by omega), Bw.or_nat x _ (by omega) (by omega), Nat.or_assoc]
theorem or_zero {a : Int} (ha : 0 ≤ a ∧ a ≤ 65535) : bits .or .i64 a 0 = a ∧ bits .or .i64 0 a = a := by
 obtain ⟨x, rfl⟩ : ∃ x : Nat, a = x := ⟨a.toNat, by omega⟩
 have h1 := Bw.or_nat x 0 (by omega) (by omega)
 have h2 := Bw.or_nat 0 x (by omega) (by omega)
 rw [Nat.or_zero] at h1
 rw [Nat.zero_or] at h2
 exact ⟨h1, h2⟩
/-- A world's values in a variable that was just made. -/
theorem box_new {w : World} {X : Nat → Value} {p : PW} (hv : WorldV w X p) : Below w.heap.size w ((w.alloc (.cells #[.slice none 0 0, .slice none 0 0, .slice none 0 0, .slice none 0 0, .slice none 0 0, .slice none 0 0, .slice none 0 0, .slice none 0 0, .slice none 0 0, .slice none 0 0, .int .i64 0] 28)).setCells w.heap.size 0 [X 0, X 1, X 2, X 3, X 4, X 5, X 6, X 7, X 8, X 9, X 10]) ∧ ((w.alloc (.cells #[.slice none 0 0, .slice none 0 0, .slice none 0 0, .slice none 0 0, .slice none 0 0, .slice none 0 0, .slice none 0 0, .slice none 0 0, .slice none 0 0, .slice none 0 0, .int .i64 0] 28)).setCells w.heap.size 0 [X 0, X 1, X 2, X 3, X 4, X 5, X 6, X 7, X 8, X 9, X 10]).rangeAt w.heap.size 0 (arr11 X).toList ∧ ((w.alloc (.cells #[.slice none 0 0, .slice none 0 0, .slice none 0 0, .slice none 0 0, .slice none 0 0, .slice none 0 0, .slice none 0 0, .slice none 0 0, .slice none 0 0, .slice none 0 0, .int .i64 0] 28)).setCells w.heap.size 0 [X 0, X 1, X 2, X 3, X 4, X 5, X 6, X 7, X 8, X 9, X 10]).there w.heap.size 0 11 ∧ WorldV ((w.alloc (.cells #[.slice none 0 0, .slice none 0 0, .slice none 0 0, .slice none 0 0, .slice none 0 0, .slice none 0 0, .slice none 0 0, .slice none 0 0, .slice none 0 0, .slice none 0 0, .int .i64 0] 28)).setCells w.heap.size 0 [X 0, X 1, X 2, X 3, X 4, X 5, X 6, X 7, X 8, X 9, X 10]) X p := by
 have t := there_new w #[.slice none 0 0, .slice none 0 0, .slice none 0 0, .slice none 0 0, .slice none 0 0, .slice none 0 0, .slice none 0 0, .slice none 0 0, .slice none 0 0, .slice none 0 0, .int .i64 0] 28 w.heap.size 11 rfl (by decide)
 have b0 := bal (Below.refl w.heap.size w) (.cells #[.slice none 0 0, .slice none 0 0, .slice none 0 0, .slice none 0 0, .slice none 0 0, .slice none 0 0, .slice none 0 0, .slice none 0 0, .slice none 0 0, .slice none 0 0, .int .i64 0] 28)
 have k : Kp (fun k => k = w.heap.size) (w.alloc (.cells #[.slice none 0 0, .slice none 0 0, .slice none 0 0, .slice none 0 0, .slice none 0 0, .slice none 0 0, .slice none 0 0, .slice none 0 0, .slice none 0 0, .slice none 0 0, .int .i64 0] 28)) ((w.alloc (.cells #[.slice none 0 0, .slice none 0 0, .slice none 0 0, .slice none 0 0, .slice none 0 0, .slice none 0 0, .slice none 0 0, .slice none 0 0, .slice none 0 0, .slice none 0 0, .int .i64 0] 28)).setCells w.heap.size 0 [X 0, X 1, X 2, X 3, X 4, X 5, X 6, X 7, X 8, X 9, X 10]) := Kp.setCells (T := fun k => k = w.heap.size) (.inl rfl) _ _ _ (Kp.refl _ _)
 have b1 := k.below b0 b0.size (fun k hk e => by omega)
 exact ⟨b1, World.rangeAt_setCells_same _ w.heap.size 0 (arr11 X).toList t, World.there_setCells t _ _ _, hv.below b1⟩
end Go.Proofs.YtakmaeohhclngaaGreatDoor.Wd
namespace Go.Proofs.YtakmaeohhclngaaGreatDoor.Wd
open Go.RowKit Go.Proofs.YtakmaeohhclngaaGreatDoor.Mem Go.Proofs.YtakmaeohhclngaaGreatDoor.Bw Go.Proofs.YtakmaeohhclngaaGreatDoor.Nums Go.Proofs.YtakmaeohhclngaaGreatDoor.Mmu Go.Proofs.YtakmaeohhclngaaGreatDoor.Hex Go.Proofs.YtakmaeohhclngaaGreatDoor.Mad
def In16 (x : Int) : Prop := 0 ≤ x ∧ x ≤ 65535
/-- A world of TopBell's (M), with what was rung and heard; before: has task 8 not listened yet? -/
def BellI (L : Nat → Int) (before : Prop) (M : PW) (rg hd : Int) : Prop :=
 In16 rg ∧ ((before ∧ M = mA L rg ∧ hd = 0) ∨ (¬ before ∧ ((M = mB L ∧ rg = 0 ∧ hd = 0) ∨ ∃ v, In16 v ∧ In16 hd ∧ rg = bits .or .i64 hd v ∧ (M = mC L v hd ∨ M = mD L v hd))))
theorem in_0 : In16 0 := ⟨by decide, by decide⟩
theorem m_lens (L : Nat → Int) (v h : Int) : ((mA L v).kinds.length = 24 ∧ (mA L v).cores.length = 2 ∧ (mA L v).tasks.length = 24 ∧ (mA L v).bits.length = 24) ∧ ((mB L).kinds.length = 24 ∧ (mB L).cores.length = 2 ∧ (mB L).tasks.length = 24 ∧ (mB L).bits.length = 24) ∧ ((mC L v h).kinds.length = 24 ∧ (mC L v h).cores.length = 2 ∧ (mC L v h).tasks.length = 24 ∧ (mC L v h).bits.length = 24) ∧ ((mD L v h).kinds.length = 24 ∧ (mD L v h).cores.length = 2 ∧ (mD L v h).tasks.length = 24 ∧ (mD L v h).bits.length = 24) :=
 ⟨⟨by kernel_rfl, by kernel_rfl, by kernel_rfl, by kernel_rfl⟩, ⟨by kernel_rfl, by kernel_rfl, by kernel_rfl, by kernel_rfl⟩, ⟨by kernel_rfl, by kernel_rfl, by kernel_rfl, by kernel_rfl⟩, ⟨by kernel_rfl, by kernel_rfl, by kernel_rfl, by kernel_rfl⟩⟩
theorem mB_bits (L : Nat → Int) : (mB L).bits.getD 11 0 = 0 := by kernel_rfl
/-- What each of them has. -/
structure BellM (M : PW) : Prop where
 fit : fitB M = true
 snd : sndB M = true
 may : thE M 11 8 = 0
 kinds : M.kinds.length = 24
 cores : M.cores.length = 2
 tasks : M.tasks.length = 24
 bits : M.bits.length = 24
theorem BellI.m {L : Nat → Int} {b : Prop} {M : PW} {rg hd : Int} (hL : ∀ i, i < 32 → 0 ≤ L i ∧ L i ≤ 65535) (h : BellI L b M rg hd) : BellM M := by
 obtain ⟨hr, ⟨_, rfl, _⟩ | ⟨_, ⟨rfl, _, _⟩ | ⟨v, hv, hh, _, rfl | rfl⟩⟩⟩ := h
 ·obtain ⟨k1, k2, k3, k4⟩ := (m_lens L rg 0).1
  exact ⟨(m_fit L rg 0).1, mA_snd L hL rg hr, (m_may L rg 0).1, k1, k2, k3, k4⟩
 ·obtain ⟨k1, k2, k3, k4⟩ := (m_lens L 0 0).2.1
  exact ⟨(m_fit L 0 0).2.1, mB_snd L hL, (m_may L 0 0).2.1, k1, k2, k3, k4⟩
 ·obtain ⟨k1, k2, k3, k4⟩ := (m_lens L v hd).2.2.1
  exact ⟨(m_fit L v hd).2.2.1, mC_snd L hL v hd hv hh, (m_may L v hd).2.2.1, k1, k2, k3, k4⟩
 ·obtain ⟨k1, k2, k3, k4⟩ := (m_lens L v hd).2.2.2
  exact ⟨(m_fit L v hd).2.2.2, mD_snd L hL v hd hv hh, (m_may L v hd).2.2.2.1, k1, k2, k3, k4⟩
/-- It listens: either it hears at once (state 1, register 2), or it waits (6). -/
theorem BellI.hear {L : Nat → Int} {b c : Prop} {M : PW} {rg hd : Int} (h : BellI L b M rg hd) (hb : b) (hc : ¬ c) : hd = 0 ∧ mtE M 8 11 8 = 0 ∧ ((rg ≠ 0 ∧ (hbP M 8 11).tasks.getD 8 bl 9 = 1 ∧ (hbP M 8 11).tasks.getD 8 bl 2 = rg ∧ BellI L c (hbP M 8 11) rg rg) ∨ (rg = 0 ∧ (hbP M 8 11).tasks.getD 8 bl 9 = 6 ∧ BellI L c (hbP M 8 11) 0 0)) := by
 obtain ⟨hr, ⟨_, rfl, rfl⟩ | ⟨hn, _⟩⟩ := h
 ·refine ⟨rfl, (m_may L rg 0).2.2.2.2, ?_⟩
  by_cases e : rg = 0
  ·subst e
   rw [mA_hear0]
   exact .inr ⟨rfl, (m_state L 0 0).2.1, hr, .inr ⟨hc, .inl ⟨rfl, rfl, rfl⟩⟩⟩
  ·rw [mA_hear L rg e]
   exact .inl ⟨e, (m_state L 0 rg).2.2.1, (m_state L 0 rg).2.2.2.2.1, hr, .inr ⟨hc, .inr ⟨0, in_0, hr, (or_zero hr).1.symm, .inl rfl⟩⟩⟩
 ·exact absurd hb hn
/-- A ring: if it waits it hears it. -/
theorem BellI.ring {L : Nat → Int} {b : Prop} {M : PW} {rg hd n : Int} (h : BellI L b M rg hd) (hn : In16 n) : (M.tasks.getD 8 bl 9 = 6 ∧ ∃ h2, (rgP M 11 n).tasks.getD 8 bl 2 = h2 ∧ BellI L b (rgP M 11 n) (bits .or .i64 rg n) h2) ∨ (M.tasks.getD 8 bl 9 = 1 ∧ BellI L b (rgP M 11 n) (bits .or .i64 rg n) hd) := by
 obtain ⟨hr, ⟨hb, rfl, rfl⟩ | ⟨hb, ⟨rfl, rfl, rfl⟩ | ⟨v, hv, hh, rfl, rfl | rfl⟩⟩⟩ := h
 ·rw [mA_ring]
  exact .inr ⟨(m_state L rg 0).1, or_in hr hn, .inl ⟨hb, rfl, rfl⟩⟩
 ·rw [mB_ring]
  refine .inl ⟨(m_state L 0 0).2.1, n, (m_state L 0 n).2.2.2.2.2, or_in hr hn, .inr ⟨hb, .inr ⟨0, in_0, hn, ?_, .inr rfl⟩⟩⟩
  rw [(or_zero hn).1, (or_zero hn).2]
 ·rw [mC_ring]
  exact .inr ⟨(m_state L v hd).2.2.1, or_in hr hn, .inr ⟨hb, .inr ⟨_, or_in hv hn, hh, or_assoc' hh hv hn, .inl rfl⟩⟩⟩
 ·rw [mD_ring]
  exact .inr ⟨(m_state L v hd).2.2.2.1, or_in hr hn, .inr ⟨hb, .inr ⟨_, or_in hv hn, hh, or_assoc' hh hv hn, .inr rfl⟩⟩⟩
/-- Nothing is lost. -/
theorem BellI.done {L : Nat → Int} {b : Prop} {M : PW} {rg hd : Int} (h : BellI L b M rg hd) (hb : ¬ b) : bits .or .i64 hd (M.bits.getD 11 0) = rg := by
 obtain ⟨hr, ⟨h, _, _⟩ | ⟨_, ⟨rfl, rfl, rfl⟩ | ⟨v, hv, hh, rfl, rfl | rfl⟩⟩⟩ := h
 ·exact absurd h hb
 ·rw [mB_bits]; exact (or_zero in_0).1
 ·rw [mC_bits]
 ·rw [mD_bits]
theorem WorldV.taskG {w : World} {V : Nat → Value} {p : PW} (h : WorldV w V p) (hl : p.tasks.length = 24) : ∃ b o cap, V 3 = .slice (some ⟨b, o, none⟩) 24 cap ∧ ∀ n k, n < 24 → k < 20 → w.cell? ⟨b, o + n * 20 + k, none⟩ = some (.int .i64 (p.tasks.getD n bl k)) := by
 obtain ⟨q, b, o, cap, e, hq, hr⟩ := h.tasks
 rw [hl] at e hq
 obtain rfl := hq (by decide)
 refine ⟨b, o, cap, e, fun n k hn hk => ?_⟩
 have r := hr n (by omega) k _ (cf_at 20 _ k hk)
 rw [List.getD_eq_getElem?_getD, List.getElem?_eq_getElem (by omega)]
 exact r
theorem WorldV.task8 {w : World} {V : Nat → Value} {p : PW} (h : WorldV w V p) (hl : p.tasks.length = 24) : ∃ b o cap, V 3 = .slice (some ⟨b, o, none⟩) 24 cap ∧ w.cell? ⟨b, o + 169, none⟩ = some (.int .i64 (p.tasks.getD 8 bl 9)) ∧ w.cell? ⟨b, o + 162, none⟩ = some (.int .i64 (p.tasks.getD 8 bl 2)) := by
 obtain ⟨b, o, cap, e, hr⟩ := h.taskG hl
 exact ⟨b, o, cap, e, hr 8 9 (by decide) (by decide), hr 8 2 (by decide) (by decide)⟩
theorem WorldV.bit11 {w : World} {V : Nat → Value} {p : PW} (h : WorldV w V p) (hl : p.bits.length = 24) : ∃ b o cap, V 5 = .slice (some ⟨b, o, none⟩) 24 cap ∧ w.cell? ⟨b, o + 11, none⟩ = some (.int .i64 (p.bits.getD 11 0)) := by
 obtain ⟨q, b, o, cap, e, hq, hr⟩ := h.bits
 have r := hr 11 (by omega)
 rw [hl] at e hq
 obtain rfl := hq (by decide)
 refine ⟨b, o, cap, e, ?_⟩
 rw [List.getD_eq_getElem?_getD, List.getElem?_eq_getElem (by omega)]
 exact r
end Go.Proofs.YtakmaeohhclngaaGreatDoor.Wd
