/- mail.Send and keyholdlaw.MailSends, walked. (Written by mk_send3.py.) -/
import Derived.Test.YtjjhodfekmpelaaGreatDoorMlSn
import Derived.Test.YtjjhodfekmpelaaGreatDoorDdDid
import Derived.Deep.RegionHeld3
namespace Go.Proofs.YtjjhodfekmpelaaGreatDoor.Wd
open Go.RowKit Go.Proofs.YtjjhodfekmpelaaGreatDoor.Mem Go.Proofs.YtjjhodfekmpelaaGreatDoor.Bw Go.Proofs.YtjjhodfekmpelaaGreatDoor.Nums Go.Proofs.YtjjhodfekmpelaaGreatDoor.Mmu
theorem cf_s1 (args : Array Value) (W : World) : (callFunc 80 args).run Tryz.prog W = .ok (.enter 80 args) W := by
 go_simp
theorem cf_g1 (args : Array Value) (W : World) : (callFunc 32 args).run Tryz.prog W = .ok (.enter 32 args) W := by
 go_simp
set_option maxRecDepth 100000 in
set_option maxHeartbeats 4000000 in
theorem mailSend_any (V : Nat → Value) (p : PW) (a b c d : Int) (e : Bool) (w : World) (hv : WorldV w V p) (hp : p.Fits) (hn : ∀ l ∈ p.ready, l.length ≤ 50) :
  Calls Tryz.prog 31 #[.agg (arr11 V), .int .i64 a, .int .i64 b, .int .i64 c, .int .i64 d, .bool e] w fun x w' => ∃ X, x = .returned (.tuple #[.agg (arr11 X), eV (dE p (snE p a b c d))]) ∧ FarV w' w.heap.size X (dP p (snP p a b c d e) (snE p a b c d)) ∧ Below w.heap.size w w' := by
 have RG0 := boxed w V 28
 have RG1 := range_below RG0 (bal (Below.refl _ (w.alloc (.cells (arr11 V) 28))) (.cells #[.int .i64 a] 3))
 have RG2 := range_below RG1 (bal (Below.refl _ ((w.alloc (.cells (arr11 V) 28)).alloc (.cells #[.int .i64 a] 3))) (.cells #[.int .i64 b] 3))
 have RG3 := range_below RG2 (bal (Below.refl _ (((w.alloc (.cells (arr11 V) 28)).alloc (.cells #[.int .i64 a] 3)).alloc (.cells #[.int .i64 b] 3))) (.cells #[.int .i64 c] 3))
 have RG4 := range_below RG3 (bal (Below.refl _ ((((w.alloc (.cells (arr11 V) 28)).alloc (.cells #[.int .i64 a] 3)).alloc (.cells #[.int .i64 b] 3)).alloc (.cells #[.int .i64 c] 3))) (.cells #[.int .i64 d] 3))
 have RG5 := range_below RG4 (bal (Below.refl _ (((((w.alloc (.cells (arr11 V) 28)).alloc (.cells #[.int .i64 a] 3)).alloc (.cells #[.int .i64 b] 3)).alloc (.cells #[.int .i64 c] 3)).alloc (.cells #[.int .i64 d] 3))) (.cells #[.bool e] 4))
 have RG6 := range_below RG5 (bal (Below.refl _ ((((((w.alloc (.cells (arr11 V) 28)).alloc (.cells #[.int .i64 a] 3)).alloc (.cells #[.int .i64 b] 3)).alloc (.cells #[.int .i64 c] 3)).alloc (.cells #[.int .i64 d] 3)).alloc (.cells #[.bool e] 4))) (.cells #[.slice none 0 0, .slice none 0 0, .slice none 0 0, .slice none 0 0, .slice none 0 0, .slice none 0 0, .slice none 0 0, .slice none 0 0, .slice none 0 0, .slice none 0 0, .int .i64 0] 28))
 have RG := hid RG6
 have B0 := hid (bal (bal (bal (bal (bal (bal (bal (Below.refl w.heap.size w) (.cells (arr11 V) 28)) (.cells #[.int .i64 a] 3)) (.cells #[.int .i64 b] 3)) (.cells #[.int .i64 c] 3)) (.cells #[.int .i64 d] 3)) (.cells #[.bool e] 4)) (.cells #[.slice none 0 0, .slice none 0 0, .slice none 0 0, .slice none 0 0, .slice none 0 0, .slice none 0 0, .slice none 0 0, .slice none 0 0, .slice none 0 0, .slice none 0 0, .int .i64 0] 28))
 have y1 := (cells_alloc (cells_alloc (cells_alloc (cells_alloc (cells_alloc (cells_at (w.alloc (.cells (arr11 V) 28)) #[.int .i64 a] 3 (w.heap.size + 1) (by simp)) (by simp) (.cells #[.int .i64 b] 3)) (by simp) (.cells #[.int .i64 c] 3)) (by simp) (.cells #[.int .i64 d] 3)) (by simp) (.cells #[.bool e] 4)) (by simp) (.cells #[.slice none 0 0, .slice none 0 0, .slice none 0 0, .slice none 0 0, .slice none 0 0, .slice none 0 0, .slice none 0 0, .slice none 0 0, .slice none 0 0, .slice none 0 0, .int .i64 0] 28)) 0
 have y2 := (cells_alloc (cells_alloc (cells_alloc (cells_alloc (cells_at ((w.alloc (.cells (arr11 V) 28)).alloc (.cells #[.int .i64 a] 3)) #[.int .i64 b] 3 (w.heap.size + 2) (by simp)) (by simp) (.cells #[.int .i64 c] 3)) (by simp) (.cells #[.int .i64 d] 3)) (by simp) (.cells #[.bool e] 4)) (by simp) (.cells #[.slice none 0 0, .slice none 0 0, .slice none 0 0, .slice none 0 0, .slice none 0 0, .slice none 0 0, .slice none 0 0, .slice none 0 0, .slice none 0 0, .slice none 0 0, .int .i64 0] 28)) 0
 have y3 := (cells_alloc (cells_alloc (cells_alloc (cells_at (((w.alloc (.cells (arr11 V) 28)).alloc (.cells #[.int .i64 a] 3)).alloc (.cells #[.int .i64 b] 3)) #[.int .i64 c] 3 (w.heap.size + 3) (by simp)) (by simp) (.cells #[.int .i64 d] 3)) (by simp) (.cells #[.bool e] 4)) (by simp) (.cells #[.slice none 0 0, .slice none 0 0, .slice none 0 0, .slice none 0 0, .slice none 0 0, .slice none 0 0, .slice none 0 0, .slice none 0 0, .slice none 0 0, .slice none 0 0, .int .i64 0] 28)) 0
 have y4 := (cells_alloc (cells_alloc (cells_at ((((w.alloc (.cells (arr11 V) 28)).alloc (.cells #[.int .i64 a] 3)).alloc (.cells #[.int .i64 b] 3)).alloc (.cells #[.int .i64 c] 3)) #[.int .i64 d] 3 (w.heap.size + 4) (by simp)) (by simp) (.cells #[.bool e] 4)) (by simp) (.cells #[.slice none 0 0, .slice none 0 0, .slice none 0 0, .slice none 0 0, .slice none 0 0, .slice none 0 0, .slice none 0 0, .slice none 0 0, .slice none 0 0, .slice none 0 0, .int .i64 0] 28)) 0
 have y5 := (cells_alloc (cells_at (((((w.alloc (.cells (arr11 V) 28)).alloc (.cells #[.int .i64 a] 3)).alloc (.cells #[.int .i64 b] 3)).alloc (.cells #[.int .i64 c] 3)).alloc (.cells #[.int .i64 d] 3)) #[.bool e] 4 (w.heap.size + 5) (by simp)) (by simp) (.cells #[.slice none 0 0, .slice none 0 0, .slice none 0 0, .slice none 0 0, .slice none 0 0, .slice none 0 0, .slice none 0 0, .slice none 0 0, .slice none 0 0, .slice none 0 0, .int .i64 0] 28)) 0
 have HC := hid (show Caps [((w.heap.size + 1), .int .i64 a), ((w.heap.size + 2), .int .i64 b), ((w.heap.size + 3), .int .i64 c), ((w.heap.size + 4), .int .i64 d), ((w.heap.size + 5), .bool e)] (((((((w.alloc (.cells (arr11 V) 28)).alloc (.cells #[.int .i64 a] 3)).alloc (.cells #[.int .i64 b] 3)).alloc (.cells #[.int .i64 c] 3)).alloc (.cells #[.int .i64 d] 3)).alloc (.cells #[.bool e] 4)).alloc (.cells #[.slice none 0 0, .slice none 0 0, .slice none 0 0, .slice none 0 0, .slice none 0 0, .slice none 0 0, .slice none 0 0, .slice none 0 0, .slice none 0 0, .slice none 0 0, .int .i64 0] 28)) from fun x hx => by
  simp only [List.mem_cons, List.not_mem_nil, or_false] at hx
  rcases hx with rfl | rfl | rfl | rfl | rfl
  ·exact y1
  ·exact y2
  ·exact y3
  ·exact y4
  ·exact y5)
 have SZ := hid (show (((((((w.alloc (.cells (arr11 V) 28)).alloc (.cells #[.int .i64 a] 3)).alloc (.cells #[.int .i64 b] 3)).alloc (.cells #[.int .i64 c] 3)).alloc (.cells #[.int .i64 d] 3)).alloc (.cells #[.bool e] 4)).alloc (.cells #[.slice none 0 0, .slice none 0 0, .slice none 0 0, .slice none 0 0, .slice none 0 0, .slice none 0 0, .slice none 0 0, .slice none 0 0, .slice none 0 0, .slice none 0 0, .int .i64 0] 28)).heap.size = w.heap.size + 7 by simp)
 have TR := hid (there_new ((((((w.alloc (.cells (arr11 V) 28)).alloc (.cells #[.int .i64 a] 3)).alloc (.cells #[.int .i64 b] 3)).alloc (.cells #[.int .i64 c] 3)).alloc (.cells #[.int .i64 d] 3)).alloc (.cells #[.bool e] 4)) #[.slice none 0 0, .slice none 0 0, .slice none 0 0, .slice none 0 0, .slice none 0 0, .slice none 0 0, .slice none 0 0, .slice none 0 0, .slice none 0 0, .slice none 0 0, .int .i64 0] 28 (w.heap.size + 6) 11 (by simp) (by decide))
 clear RG0 RG1 RG2 RG3 RG4 RG5 RG6
 have HL := hid (tlbs_le hv.tlbs)
 have HD := hid (do_far 80 #[ptr (w.heap.size + 1), ptr (w.heap.size + 2), ptr (w.heap.size + 3), ptr (w.heap.size + 4), ptr (w.heap.size + 5)] (Caps [((w.heap.size + 1), .int .i64 a), ((w.heap.size + 2), .int .i64 b), ((w.heap.size + 3), .int .i64 c), ((w.heap.size + 4), .int .i64 d), ((w.heap.size + 5), .bool e)]) V p (snP p a b c d e) (snE p a b c d) (((((((w.alloc (.cells (arr11 V) 28)).alloc (.cells #[.int .i64 a] 3)).alloc (.cells #[.int .i64 b] 3)).alloc (.cells #[.int .i64 c] 3)).alloc (.cells #[.int .i64 d] 3)).alloc (.cells #[.bool e] 4)).alloc (.cells #[.slice none 0 0, .slice none 0 0, .slice none 0 0, .slice none 0 0, .slice none 0 0, .slice none 0 0, .slice none 0 0, .slice none 0 0, .slice none 0 0, .slice none 0 0, .int .i64 0] 28)) (hv.below B0.out) hp cf_s1 (fun X h => HC.out.below h) (fun h => (send_deed _ _ _ _ _ a b c d e p hp hn HL.out h).caps (by rw [sn_tlbs]; exact HL.out)))
 unfold ptr at HD
 generalize dE p (snE p a b c d) = de at HD ⊢
 generalize dP p (snP p a b c d e) (snE p a b c d) = dp at HD ⊢
 clear hv hp hn HL y1 y2 y3 y4 y5
 go_enter Tryz.func31, Tryz.ntmps31
 go_wp2_with (first | ((with_reducible (show wpList _ _ _ (⟨_, Op.load 28 _, _, _, _, _⟩ :: _) _ _)); refine wp_ldWg (by rfl) _ rfl _ rfl V RG.out ?_))
 generalize World.alloc _ _ = W0 at *
 refine HD.out.mono ?_
 rintro q w1 ⟨X, rfl, hF, hb⟩
 have T1 := hid (there_belowO TR.out hb)
 have one := hid (world_one hF.v0)
 have RX := hid (World.rangeAt_setCells_same w1 (w.heap.size + 6) 0 (arr11 X).toList T1.out)
 have BX := hid (below_setCells (btr B0.out hb) (show w.heap.size ≤ w.heap.size + 6 by omega) (arr11 X).toList 0)
 have WX := hid ((hF.put (w.heap.size + 6) 0 (arr11 X).toList (by rw [SZ.out]; omega)).mono (show w.heap.size ≤ _ by rw [SZ.out]; omega))
 clear hF hb HD
 go_wp2_with (first | ((with_reducible (show wpList _ _ _ (⟨_, Op.store 28 _ _, _, _, _, _⟩ :: _) _ _)); refine wpList_store_mid rfl 28 _ _ rfl (w.heap.size + 6) 0 (arr11 X) rfl rfl T1.out infoW one.out ?_))
 exact bodyPost_ret (v := .tuple #[.agg (arr11 X), eV de]) (results_d2 rfl rfl (run_loadVar_mid _ (w.heap.size + 6) 0 28 (arr11 X).toList _ RX.out Tryz.underlying28 rfl infoW) rfl) rfl ⟨X, rfl, WX.out, BX.out⟩
set_option maxRecDepth 100000 in
set_option maxHeartbeats 4000000 in
theorem mailSends_any (V : Nat → Value) (p : PW) (a b c d : Int) (e : Bool) (w : World) (hv : WorldR w V p) (hg : ETok w) :
  Calls Tryz.prog 6 #[.agg (arr11 V), .int .i64 a, .int .i64 b, .int .i64 c, .int .i64 d, .bool e] w fun x w' => x = .returned (.bool true) ∧ Below w.heap.size w w' := by
 have RG0 := boxed w V 28
 have RG1 := range_below RG0 (bal (Below.refl _ (w.alloc (.cells (arr11 V) 28))) (.cells #[.int .i64 a] 3))
 have RG2 := range_below RG1 (bal (Below.refl _ ((w.alloc (.cells (arr11 V) 28)).alloc (.cells #[.int .i64 a] 3))) (.cells #[.int .i64 b] 3))
 have RG3 := range_below RG2 (bal (Below.refl _ (((w.alloc (.cells (arr11 V) 28)).alloc (.cells #[.int .i64 a] 3)).alloc (.cells #[.int .i64 b] 3))) (.cells #[.int .i64 c] 3))
 have RG4 := range_below RG3 (bal (Below.refl _ ((((w.alloc (.cells (arr11 V) 28)).alloc (.cells #[.int .i64 a] 3)).alloc (.cells #[.int .i64 b] 3)).alloc (.cells #[.int .i64 c] 3))) (.cells #[.int .i64 d] 3))
 have RG5 := range_below RG4 (bal (Below.refl _ (((((w.alloc (.cells (arr11 V) 28)).alloc (.cells #[.int .i64 a] 3)).alloc (.cells #[.int .i64 b] 3)).alloc (.cells #[.int .i64 c] 3)).alloc (.cells #[.int .i64 d] 3))) (.cells #[.bool e] 4))
 have RG := hid RG5
 have B0 := hid (bal (bal (bal (bal (bal (bal (Below.refl w.heap.size w) (.cells (arr11 V) 28)) (.cells #[.int .i64 a] 3)) (.cells #[.int .i64 b] 3)) (.cells #[.int .i64 c] 3)) (.cells #[.int .i64 d] 3)) (.cells #[.bool e] 4))
 have y1 := (cells_alloc (cells_alloc (cells_alloc (cells_alloc (cells_at (w.alloc (.cells (arr11 V) 28)) #[.int .i64 a] 3 (w.heap.size + 1) (by simp)) (by simp) (.cells #[.int .i64 b] 3)) (by simp) (.cells #[.int .i64 c] 3)) (by simp) (.cells #[.int .i64 d] 3)) (by simp) (.cells #[.bool e] 4)) 0
 have y2 := (cells_alloc (cells_alloc (cells_alloc (cells_at ((w.alloc (.cells (arr11 V) 28)).alloc (.cells #[.int .i64 a] 3)) #[.int .i64 b] 3 (w.heap.size + 2) (by simp)) (by simp) (.cells #[.int .i64 c] 3)) (by simp) (.cells #[.int .i64 d] 3)) (by simp) (.cells #[.bool e] 4)) 0
 have y3 := (cells_alloc (cells_alloc (cells_at (((w.alloc (.cells (arr11 V) 28)).alloc (.cells #[.int .i64 a] 3)).alloc (.cells #[.int .i64 b] 3)) #[.int .i64 c] 3 (w.heap.size + 3) (by simp)) (by simp) (.cells #[.int .i64 d] 3)) (by simp) (.cells #[.bool e] 4)) 0
 have y4 := (cells_alloc (cells_at ((((w.alloc (.cells (arr11 V) 28)).alloc (.cells #[.int .i64 a] 3)).alloc (.cells #[.int .i64 b] 3)).alloc (.cells #[.int .i64 c] 3)) #[.int .i64 d] 3 (w.heap.size + 4) (by simp)) (by simp) (.cells #[.bool e] 4)) 0
 have y5 := (cells_at (((((w.alloc (.cells (arr11 V) 28)).alloc (.cells #[.int .i64 a] 3)).alloc (.cells #[.int .i64 b] 3)).alloc (.cells #[.int .i64 c] 3)).alloc (.cells #[.int .i64 d] 3)) #[.bool e] 4 (w.heap.size + 5) (by simp)) 0
 have HC := hid (show Caps [((w.heap.size + 1), .int .i64 a), ((w.heap.size + 2), .int .i64 b), ((w.heap.size + 3), .int .i64 c), ((w.heap.size + 4), .int .i64 d), ((w.heap.size + 5), .bool e)] ((((((w.alloc (.cells (arr11 V) 28)).alloc (.cells #[.int .i64 a] 3)).alloc (.cells #[.int .i64 b] 3)).alloc (.cells #[.int .i64 c] 3)).alloc (.cells #[.int .i64 d] 3)).alloc (.cells #[.bool e] 4)) from fun x hx => by
  simp only [List.mem_cons, List.not_mem_nil, or_false] at hx
  rcases hx with rfl | rfl | rfl | rfl | rfl
  ·exact y1
  ·exact y2
  ·exact y3
  ·exact y4
  ·exact y5)
 have SZ := hid (show ((((((w.alloc (.cells (arr11 V) 28)).alloc (.cells #[.int .i64 a] 3)).alloc (.cells #[.int .i64 b] 3)).alloc (.cells #[.int .i64 c] 3)).alloc (.cells #[.int .i64 d] 3)).alloc (.cells #[.bool e] 4)).heap.size = w.heap.size + 6 by simp)
 clear RG0 RG1 RG2 RG3 RG4 RG5
 have HH := hid (hugeWorld_any V p ((((((w.alloc (.cells (arr11 V) 28)).alloc (.cells #[.int .i64 a] 3)).alloc (.cells #[.int .i64 b] 3)).alloc (.cells #[.int .i64 c] 3)).alloc (.cells #[.int .i64 d] 3)).alloc (.cells #[.bool e] 4)) (hv.below B0.out))
 by_cases hs : Small p
 rotate_left
 ·rw [huge_t hs] at HH
  clear hv hg hs
  go_enter Tryz.func6, Tryz.ntmps6
  go_wp2_with (first | ((with_reducible (show wpList _ _ _ (⟨_, Op.load 28 _, _, _, _, _⟩ :: _) _ _)); refine wp_ldWg (by rfl) _ rfl _ rfl V RG.out ?_))
  refine HH.out.mono ?_
  rintro q w1 ⟨rfl, hb⟩
  have BB := hid (btr B0.out hb)
  clear hb
  go_wp2_with fail
  go_ret
  exact ⟨rfl, BB.out⟩
 rw [huge_f hs] at HH
 obtain ⟨hw, hp⟩ := small_world hv hs
 have HP := hid hp
 have HV := hid hw
 have HG := hid hg
 have HL := hid (tlbs_le hw.tlbs)
 have HSM := hid hs
 clear hv hg hs hw hp y1 y2 y3 y4 y5
 go_enter Tryz.func6, Tryz.ntmps6
 go_wp2_with (first | ((with_reducible (show wpList _ _ _ (⟨_, Op.load 28 _, _, _, _, _⟩ :: _) _ _)); refine wp_ldWg (by rfl) _ rfl _ rfl V RG.out ?_))
 generalize World.alloc _ _ = W0 at *
 refine HH.out.mono ?_
 rintro q w1 ⟨rfl, hb⟩
 have B1 := hid (btr B0.out hb)
 have R1 := hid (range_below RG.out hb)
 have C1 := hid (HC.out.below hb)
 have z1 := C1.out ((w.heap.size + 1), .int .i64 a) (by simp)
 have z2 := C1.out ((w.heap.size + 2), .int .i64 b) (by simp)
 have z3 := C1.out ((w.heap.size + 3), .int .i64 c) (by simp)
 have z4 := C1.out ((w.heap.size + 4), .int .i64 d) (by simp)
 have z5 := C1.out ((w.heap.size + 5), .bool e) (by simp)
 have D1 := hid (show Below W0.heap.size W0 w1 from hb)
 clear hb HH
 go_wp2_with (first | ((with_reducible (show wpList _ _ _ (⟨_, Op.load 28 _, _, _, _, _⟩ :: _) _ _)); refine wp_ldWg (by rfl) _ rfl _ rfl V R1.out ?_))
 refine (mailSend_any V p a b c d e w1 (HV.out.below B1.out) HP.out HSM.out.next).mono ?_
 rintro q w2 ⟨X, rfl, hF, hb⟩
 have hX := hF.v0
 clear hF
 have B2 := hid (btr B1.out hb)
 have TN := hid (there_new w2 #[.slice none 0 0, .slice none 0 0, .slice none 0 0, .slice none 0 0, .slice none 0 0, .slice none 0 0, .slice none 0 0, .slice none 0 0, .slice none 0 0, .slice none 0 0, .int .i64 0] 28 w2.heap.size 11 rfl (by decide))
 have one := hid (world_one hX)
 have D3 := hid (show Below w2.heap.size w2 ((w2.alloc (.cells #[.slice none 0 0, .slice none 0 0, .slice none 0 0, .slice none 0 0, .slice none 0 0, .slice none 0 0, .slice none 0 0, .slice none 0 0, .slice none 0 0, .slice none 0 0, .int .i64 0] 28)).setCells w2.heap.size 0 (arr11 X).toList) from below_setCells (bal (Below.refl _ w2) (.cells #[.slice none 0 0, .slice none 0 0, .slice none 0 0, .slice none 0 0, .slice none 0 0, .slice none 0 0, .slice none 0 0, .slice none 0 0, .slice none 0 0, .slice none 0 0, .int .i64 0] 28)) (Nat.le_refl _) _ 0)
 have RX := hid (World.rangeAt_setCells_same (w2.alloc (.cells #[.slice none 0 0, .slice none 0 0, .slice none 0 0, .slice none 0 0, .slice none 0 0, .slice none 0 0, .slice none 0 0, .slice none 0 0, .slice none 0 0, .slice none 0 0, .int .i64 0] 28)) w2.heap.size 0 (arr11 X).toList TN.out)
 have WX := hid (hX.below D3.out)
 have R3 := hid (range_below (range_below R1.out hb) D3.out)
 have B3 := hid (btr B2.out D3.out)
 have D4 := hid (btr (btr D1.out hb) D3.out)
 clear hX hb z1 z2 z3 z4 z5
 go_upto_region 4 with (first | ((with_reducible (show wpList _ _ _ (⟨_, Op.store 28 _ _, _, _, _, _⟩ :: _) _ _)); refine wpList_store_mid rfl 28 _ _ rfl w2.heap.size 0 (arr11 X) rfl rfl TN.out infoW one.out ?_))
 generalize World.setCells _ _ _ _ = W3 at *
 generalize w2.heap.size = xb at RX ⊢
 clear TN one D3 D1 B1 B2
 have BD : Hid (Below W3.heap.size W3 W3.drew) := hid (below_drew W3 1)
 have KS := hid (show ∀ Y, Below W3.heap.size W3 Y → Y.rangeAt xb 0 (arr11 X).toList ∧ Y.rangeAt w.heap.size 0 (arr11 V).toList from fun Y h => ⟨range_below RX.out h, range_below R3.out h⟩)
 have HSO := hid (fun Y (h : Below W3.heap.size W3 Y) => sound_law V p Y (HV.out.below (btr B3.out h)) HP.out)
 have HDI := hid (fun Y (h : Below W3.heap.size W3 Y) => did_any 32 #[ptr (w.heap.size + 1), ptr (w.heap.size + 2), ptr (w.heap.size + 3), ptr (w.heap.size + 4), ptr (w.heap.size + 5)] (Caps [((w.heap.size + 1), .int .i64 a), ((w.heap.size + 2), .int .i64 b), ((w.heap.size + 3), .int .i64 c), ((w.heap.size + 4), .int .i64 d), ((w.heap.size + 5), .bool e)]) V X p (snP p a b c d e) (snE p a b c d) Y (HV.out.below (btr B3.out h)) HP.out (sn_fits HP.out HSM.out.next HSM.out.line _ _ _ _ _) (WX.out.below h) cf_g1 (fun Z hz => HC.out.below (btr (btr D4.out h) hz)) (fun h => (sendRef_deed _ _ _ _ _ a b c d e p HP.out HSM.out.next h).caps (by rw [sn_tlbs]; exact HL.out)) (HG.out.below (btr B3.out h)))
 unfold ptr at HDI
 generalize eV (dE p (snE p a b c d)) = ev at HDI ⊢
 generalize sndE p = se at HSO HDI
 refine wp_region_held_drew (S := fun Y => Y.rangeAt xb 0 (arr11 X).toList ∧ Y.rangeAt w.heap.size 0 (arr11 V).toList) (by kernel_rfl) (KS.out _ BD.out) (fun hH0 => ?_)
 have hH := hid hH0
 clear hH0
 refine tg 0 (.agg (arr11 X)) rfl (yieldsIf_load_mid (by rfl) _ _ rfl _ _ rfl ((arr11 X).toList) _ (fun _ h => h.1) Tryz.underlying28 rfl infoW) hH.out ?_
 simp only [jj]
 refine tk 1 ev rfl hH.out ?_
 simp only [jj]
 refine tg 2 (.agg (arr11 V)) rfl (yieldsIf_load_mid (by rfl) _ _ rfl _ _ rfl ((arr11 V).toList) _ (fun _ h => h.2) Tryz.underlying28 rfl infoW) hH.out ?_
 simp only [jj]
 refine tg 3 (.agg (arr11 V)) rfl (yieldsIf_load_mid (by rfl) _ _ rfl _ _ rfl ((arr11 V).toList) _ (fun _ h => h.2) Tryz.underlying28 rfl infoW) hH.out ?_
 simp only [jj]
 refine tk 5 (.func (.func 32) #[] #[.pointer (some ⟨w.heap.size + 1, 0, none⟩), .pointer (some ⟨w.heap.size + 2, 0, none⟩), .pointer (some ⟨w.heap.size + 3, 0, none⟩), .pointer (some ⟨w.heap.size + 4, 0, none⟩), .pointer (some ⟨w.heap.size + 5, 0, none⟩)]) rfl hH.out ?_
 simp only [jj]
 refine wpAnyH_ready (rs := [4]) (by kernel_rfl) (by simp) (AllReadyH.cons rfl (fun K hK => ?_) AllReadyH.nil)
 go_simp
 refine (HSO.out _ BD.out).mono ?_
 rintro q w4 ⟨rfl, hb⟩
 have A4 := hid (btr BD.out hb)
 clear hb
 go_wp2_with fail
 refine hK.out _ _ (KS.out _ A4.out) (fun hH0 => ?_)
 have hH2 := hid hH0
 clear hK K hH0
 try simp only [Act.put, jD, jE, jF]
 refine wpAnyH_ready (rs := [6]) (by kernel_rfl) (by simp) (AllReadyH.cons rfl (fun K hK => ?_) AllReadyH.nil)
 go_simp
 refine (HDI.out _ A4.out).mono ?_
 rintro q w5 ⟨rfl, hb⟩
 have A5 := hid (btr A4.out hb)
 clear hb
 go_wp2_with fail
 refine hK.out _ _ (KS.out _ A5.out) (fun hH0 => ?_)
 have hH3 := hid hH0
 clear hK K hH0
 try simp only [Act.put, jD, jE, jF]
 refine tk 7 (.bool true) rfl hH3.out ?_
 simp only [jj]
 refine wpAnyH_done (by kernel_rfl) ?_ _
 clear hH hH2 hH3
 go_wp2_with fail
 go_ret
 exact ⟨rfl, btr B3.out A5.out⟩
end Go.Proofs.YtjjhodfekmpelaaGreatDoor.Wd
