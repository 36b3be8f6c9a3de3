/- mail.Take, mail.Answer and keyholdlaw.MailTakes, walked. (Written by mk_tklaw.py.) -/
import Derived.Test.YtefibbhcikgniaaGreatDoorMlTk
import Derived.Test.YtefibbhcikgniaaGreatDoorDdDid
import Derived.Deep.RegionHeld3
namespace Go.Proofs.YtefibbhcikgniaaGreatDoor.Wd
open Go.RowKit Go.Proofs.YtefibbhcikgniaaGreatDoor.Mem Go.Proofs.YtefibbhcikgniaaGreatDoor.Bw Go.Proofs.YtefibbhcikgniaaGreatDoor.Nums Go.Proofs.YtefibbhcikgniaaGreatDoor.Mmu

theorem cf_r1 (args : Array Value) (W : World) : (callFunc 77 args).run Tryz.prog W = .ok (.enter 77 args) W := by
  go_simp
theorem cf_l1 (args : Array Value) (W : World) : (callFunc 84 args).run Tryz.prog W = .ok (.enter 84 args) W := by
  go_simp
theorem cf_g1 (args : Array Value) (W : World) : (callFunc 38 args).run Tryz.prog W = .ok (.enter 38 args) W := by
  go_simp
theorem cf_g2 (args : Array Value) (W : World) : (callFunc 41 args).run Tryz.prog W = .ok (.enter 41 args) W := by
  go_simp
set_option maxRecDepth 100000 in
set_option maxHeartbeats 4000000 in
theorem mailTake_any (V : Nat → Value) (p : PW) (a b : Int) (w : World) (hv : WorldV w V p) (hp : p.Fits) :
    Calls Tryz.prog 36 #[.agg (arr11 V), .int .i64 a, .int .i64 b] w fun x w' => ∃ X, x = .returned (.tuple #[.agg (arr11 X), eV (dE p (tkE p a b))]) ∧ FarV w' w.heap.size X (dP p (tkP p a b) (tkE p a b)) ∧ Below w.heap.size w w' := by
  have RG0 := boxed w V 28
  have RG1 := range_below RG0 (bal (Below.refl _ (w.alloc (.cells (arr11 V) 28))) (.cells #[.int .i64 a] 3))
  have RG2 := range_below RG1 (bal (Below.refl _ ((w.alloc (.cells (arr11 V) 28)).alloc (.cells #[.int .i64 a] 3))) (.cells #[.int .i64 b] 3))
  have RG3 := range_below RG2 (bal (Below.refl _ (((w.alloc (.cells (arr11 V) 28)).alloc (.cells #[.int .i64 a] 3)).alloc (.cells #[.int .i64 b] 3))) (.cells #[.slice none 0 0, .slice none 0 0, .slice none 0 0, .slice none 0 0, .slice none 0 0, .slice none 0 0, .slice none 0 0, .slice none 0 0, .slice none 0 0, .slice none 0 0, .int .i64 0] 28))
  have RG := hid RG3
  have B0 := hid (bal (bal (bal (bal (Below.refl w.heap.size w) (.cells (arr11 V) 28)) (.cells #[.int .i64 a] 3)) (.cells #[.int .i64 b] 3)) (.cells #[.slice none 0 0, .slice none 0 0, .slice none 0 0, .slice none 0 0, .slice none 0 0, .slice none 0 0, .slice none 0 0, .slice none 0 0, .slice none 0 0, .slice none 0 0, .int .i64 0] 28))
  have y1 := (cells_alloc (cells_alloc (cells_at (w.alloc (.cells (arr11 V) 28)) #[.int .i64 a] 3 (w.heap.size + 1) (by simp)) (by simp) (.cells #[.int .i64 b] 3)) (by simp) (.cells #[.slice none 0 0, .slice none 0 0, .slice none 0 0, .slice none 0 0, .slice none 0 0, .slice none 0 0, .slice none 0 0, .slice none 0 0, .slice none 0 0, .slice none 0 0, .int .i64 0] 28)) 0
  have y2 := (cells_alloc (cells_at ((w.alloc (.cells (arr11 V) 28)).alloc (.cells #[.int .i64 a] 3)) #[.int .i64 b] 3 (w.heap.size + 2) (by simp)) (by simp) (.cells #[.slice none 0 0, .slice none 0 0, .slice none 0 0, .slice none 0 0, .slice none 0 0, .slice none 0 0, .slice none 0 0, .slice none 0 0, .slice none 0 0, .slice none 0 0, .int .i64 0] 28)) 0
  have HC := hid (show Caps [((w.heap.size + 1), .int .i64 a), ((w.heap.size + 2), .int .i64 b)] ((((w.alloc (.cells (arr11 V) 28)).alloc (.cells #[.int .i64 a] 3)).alloc (.cells #[.int .i64 b] 3)).alloc (.cells #[.slice none 0 0, .slice none 0 0, .slice none 0 0, .slice none 0 0, .slice none 0 0, .slice none 0 0, .slice none 0 0, .slice none 0 0, .slice none 0 0, .slice none 0 0, .int .i64 0] 28)) from fun x hx => by
    simp only [List.mem_cons, List.not_mem_nil, or_false] at hx
    rcases hx with rfl | rfl
    · exact y1
    · exact y2)
  have SZ := hid (show ((((w.alloc (.cells (arr11 V) 28)).alloc (.cells #[.int .i64 a] 3)).alloc (.cells #[.int .i64 b] 3)).alloc (.cells #[.slice none 0 0, .slice none 0 0, .slice none 0 0, .slice none 0 0, .slice none 0 0, .slice none 0 0, .slice none 0 0, .slice none 0 0, .slice none 0 0, .slice none 0 0, .int .i64 0] 28)).heap.size = w.heap.size + 4 by simp)
  have TR := hid (there_new (((w.alloc (.cells (arr11 V) 28)).alloc (.cells #[.int .i64 a] 3)).alloc (.cells #[.int .i64 b] 3)) #[.slice none 0 0, .slice none 0 0, .slice none 0 0, .slice none 0 0, .slice none 0 0, .slice none 0 0, .slice none 0 0, .slice none 0 0, .slice none 0 0, .slice none 0 0, .int .i64 0] 28 (w.heap.size + 3) 11 (by simp) (by decide))
  clear RG0 RG1 RG2 RG3
  have HL := hid (tlbs_le hv.tlbs)
  have HD := hid (do_far 77 #[ptr (w.heap.size + 1), ptr (w.heap.size + 2)] (Caps [((w.heap.size + 1), .int .i64 a), ((w.heap.size + 2), .int .i64 b)]) V p (tkP p a b) (tkE p a b) ((((w.alloc (.cells (arr11 V) 28)).alloc (.cells #[.int .i64 a] 3)).alloc (.cells #[.int .i64 b] 3)).alloc (.cells #[.slice none 0 0, .slice none 0 0, .slice none 0 0, .slice none 0 0, .slice none 0 0, .slice none 0 0, .slice none 0 0, .slice none 0 0, .slice none 0 0, .slice none 0 0, .int .i64 0] 28)) (hv.below B0.out) hp cf_r1 (fun X h => HC.out.below h) (fun h => (take_deed _ _ a b p hp HL.out h).caps (by rw [tk_tlbs]; exact HL.out)))
  unfold ptr at HD
  generalize dE p (tkE p a b) = de at HD ⊢
  generalize dP p (tkP p a b) (tkE p a b) = dp at HD ⊢
  clear hv hp HL y1 y2
  go_enter Tryz.func36, Tryz.ntmps36
  go_wp2_with (first | ((with_reducible (show wpList _ _ _ (⟨_, Op.load 28 _, _, _, _, _⟩ :: _) _ _)); refine wp_ldWg (by rfl) _ rfl _ rfl V RG.out ?_))
  generalize World.alloc _ _ = W0 at *
  refine HD.out.mono ?_
  rintro q w1 ⟨X, rfl, hF, hb⟩
  have T1 := hid (there_belowO TR.out hb)
  have one := hid (world_one hF.v0)
  have RX := hid (World.rangeAt_setCells_same w1 (w.heap.size + 3) 0 (arr11 X).toList T1.out)
  have BX := hid (below_setCells (btr B0.out hb) (show w.heap.size ≤ w.heap.size + 3 by omega) (arr11 X).toList 0)
  have WX := hid ((hF.put (w.heap.size + 3) 0 (arr11 X).toList (by rw [SZ.out]; omega)).mono (show w.heap.size ≤ _ by rw [SZ.out]; omega))
  clear hF hb HD
  go_wp2_with (first | ((with_reducible (show wpList _ _ _ (⟨_, Op.store 28 _ _, _, _, _, _⟩ :: _) _ _)); refine wpList_store_mid rfl 28 _ _ rfl (w.heap.size + 3) 0 (arr11 X) rfl rfl T1.out infoW one.out ?_))
  exact bodyPost_ret (v := .tuple #[.agg (arr11 X), eV de]) (results_d2 rfl rfl (run_loadVar_mid _ (w.heap.size + 3) 0 28 (arr11 X).toList _ RX.out Tryz.underlying28 rfl infoW) rfl) rfl ⟨X, rfl, WX.out, BX.out⟩
set_option maxRecDepth 100000 in
set_option maxHeartbeats 4000000 in
theorem mailAnswer_any (V : Nat → Value) (p : PW) (a c : Int) (w : World) (hv : WorldV w V p) (hp : p.Fits) :
    Calls Tryz.prog 37 #[.agg (arr11 V), .int .i64 a, .int .i64 c] w fun x w' => ∃ X, x = .returned (.tuple #[.agg (arr11 X), eV (dE p (anE p a c))]) ∧ FarV w' w.heap.size X (dP p (anP p a c) (anE p a c)) ∧ Below w.heap.size w w' := by
  have RG0 := boxed w V 28
  have RG1 := range_below RG0 (bal (Below.refl _ (w.alloc (.cells (arr11 V) 28))) (.cells #[.int .i64 a] 3))
  have RG2 := range_below RG1 (bal (Below.refl _ ((w.alloc (.cells (arr11 V) 28)).alloc (.cells #[.int .i64 a] 3))) (.cells #[.int .i64 c] 3))
  have RG3 := range_below RG2 (bal (Below.refl _ (((w.alloc (.cells (arr11 V) 28)).alloc (.cells #[.int .i64 a] 3)).alloc (.cells #[.int .i64 c] 3))) (.cells #[.slice none 0 0, .slice none 0 0, .slice none 0 0, .slice none 0 0, .slice none 0 0, .slice none 0 0, .slice none 0 0, .slice none 0 0, .slice none 0 0, .slice none 0 0, .int .i64 0] 28))
  have RG := hid RG3
  have B0 := hid (bal (bal (bal (bal (Below.refl w.heap.size w) (.cells (arr11 V) 28)) (.cells #[.int .i64 a] 3)) (.cells #[.int .i64 c] 3)) (.cells #[.slice none 0 0, .slice none 0 0, .slice none 0 0, .slice none 0 0, .slice none 0 0, .slice none 0 0, .slice none 0 0, .slice none 0 0, .slice none 0 0, .slice none 0 0, .int .i64 0] 28))
  have y1 := (cells_alloc (cells_alloc (cells_at (w.alloc (.cells (arr11 V) 28)) #[.int .i64 a] 3 (w.heap.size + 1) (by simp)) (by simp) (.cells #[.int .i64 c] 3)) (by simp) (.cells #[.slice none 0 0, .slice none 0 0, .slice none 0 0, .slice none 0 0, .slice none 0 0, .slice none 0 0, .slice none 0 0, .slice none 0 0, .slice none 0 0, .slice none 0 0, .int .i64 0] 28)) 0
  have y2 := (cells_alloc (cells_at ((w.alloc (.cells (arr11 V) 28)).alloc (.cells #[.int .i64 a] 3)) #[.int .i64 c] 3 (w.heap.size + 2) (by simp)) (by simp) (.cells #[.slice none 0 0, .slice none 0 0, .slice none 0 0, .slice none 0 0, .slice none 0 0, .slice none 0 0, .slice none 0 0, .slice none 0 0, .slice none 0 0, .slice none 0 0, .int .i64 0] 28)) 0
  have HC := hid (show Caps [((w.heap.size + 1), .int .i64 a), ((w.heap.size + 2), .int .i64 c)] ((((w.alloc (.cells (arr11 V) 28)).alloc (.cells #[.int .i64 a] 3)).alloc (.cells #[.int .i64 c] 3)).alloc (.cells #[.slice none 0 0, .slice none 0 0, .slice none 0 0, .slice none 0 0, .slice none 0 0, .slice none 0 0, .slice none 0 0, .slice none 0 0, .slice none 0 0, .slice none 0 0, .int .i64 0] 28)) from fun x hx => by
    simp only [List.mem_cons, List.not_mem_nil, or_false] at hx
    rcases hx with rfl | rfl
    · exact y1
    · exact y2)
  have SZ := hid (show ((((w.alloc (.cells (arr11 V) 28)).alloc (.cells #[.int .i64 a] 3)).alloc (.cells #[.int .i64 c] 3)).alloc (.cells #[.slice none 0 0, .slice none 0 0, .slice none 0 0, .slice none 0 0, .slice none 0 0, .slice none 0 0, .slice none 0 0, .slice none 0 0, .slice none 0 0, .slice none 0 0, .int .i64 0] 28)).heap.size = w.heap.size + 4 by simp)
  have TR := hid (there_new (((w.alloc (.cells (arr11 V) 28)).alloc (.cells #[.int .i64 a] 3)).alloc (.cells #[.int .i64 c] 3)) #[.slice none 0 0, .slice none 0 0, .slice none 0 0, .slice none 0 0, .slice none 0 0, .slice none 0 0, .slice none 0 0, .slice none 0 0, .slice none 0 0, .slice none 0 0, .int .i64 0] 28 (w.heap.size + 3) 11 (by simp) (by decide))
  clear RG0 RG1 RG2 RG3
  have HL := hid (tlbs_le hv.tlbs)
  have HD := hid (do_far 84 #[ptr (w.heap.size + 1), ptr (w.heap.size + 2)] (Caps [((w.heap.size + 1), .int .i64 a), ((w.heap.size + 2), .int .i64 c)]) V p (anP p a c) (anE p a c) ((((w.alloc (.cells (arr11 V) 28)).alloc (.cells #[.int .i64 a] 3)).alloc (.cells #[.int .i64 c] 3)).alloc (.cells #[.slice none 0 0, .slice none 0 0, .slice none 0 0, .slice none 0 0, .slice none 0 0, .slice none 0 0, .slice none 0 0, .slice none 0 0, .slice none 0 0, .slice none 0 0, .int .i64 0] 28)) (hv.below B0.out) hp cf_l1 (fun X h => HC.out.below h) (fun h => (answer_deed _ _ a c p hp HL.out h).caps (by rw [an_tlbs]; exact HL.out)))
  unfold ptr at HD
  generalize dE p (anE p a c) = de at HD ⊢
  generalize dP p (anP p a c) (anE p a c) = dp at HD ⊢
  clear hv hp HL y1 y2
  go_enter Tryz.func37, Tryz.ntmps37
  go_wp2_with (first | ((with_reducible (show wpList _ _ _ (⟨_, Op.load 28 _, _, _, _, _⟩ :: _) _ _)); refine wp_ldWg (by rfl) _ rfl _ rfl V RG.out ?_))
  generalize World.alloc _ _ = W0 at *
  refine HD.out.mono ?_
  rintro q w1 ⟨X, rfl, hF, hb⟩
  have T1 := hid (there_belowO TR.out hb)
  have one := hid (world_one hF.v0)
  have RX := hid (World.rangeAt_setCells_same w1 (w.heap.size + 3) 0 (arr11 X).toList T1.out)
  have BX := hid (below_setCells (btr B0.out hb) (show w.heap.size ≤ w.heap.size + 3 by omega) (arr11 X).toList 0)
  have WX := hid ((hF.put (w.heap.size + 3) 0 (arr11 X).toList (by rw [SZ.out]; omega)).mono (show w.heap.size ≤ _ by rw [SZ.out]; omega))
  clear hF hb HD
  go_wp2_with (first | ((with_reducible (show wpList _ _ _ (⟨_, Op.store 28 _ _, _, _, _, _⟩ :: _) _ _)); refine wpList_store_mid rfl 28 _ _ rfl (w.heap.size + 3) 0 (arr11 X) rfl rfl T1.out infoW one.out ?_))
  exact bodyPost_ret (v := .tuple #[.agg (arr11 X), eV de]) (results_d2 rfl rfl (run_loadVar_mid _ (w.heap.size + 3) 0 28 (arr11 X).toList _ RX.out Tryz.underlying28 rfl infoW) rfl) rfl ⟨X, rfl, WX.out, BX.out⟩
set_option maxRecDepth 100000 in
set_option maxHeartbeats 8000000 in
theorem mailTakes_any (V : Nat → Value) (p : PW) (a b c : Int) (w : World) (hv : WorldR w V p) (hg : ETok w) :
    Calls Tryz.prog 8 #[.agg (arr11 V), .int .i64 a, .int .i64 b, .int .i64 c] w fun x w' => x = .returned (.bool true) ∧ Below w.heap.size w w' := by
  have RG0 := boxed w V 28
  have RG1 := range_below RG0 (bal (Below.refl _ (w.alloc (.cells (arr11 V) 28))) (.cells #[.int .i64 a] 3))
  have RG2 := range_below RG1 (bal (Below.refl _ ((w.alloc (.cells (arr11 V) 28)).alloc (.cells #[.int .i64 a] 3))) (.cells #[.int .i64 b] 3))
  have RG3 := range_below RG2 (bal (Below.refl _ (((w.alloc (.cells (arr11 V) 28)).alloc (.cells #[.int .i64 a] 3)).alloc (.cells #[.int .i64 b] 3))) (.cells #[.int .i64 c] 3))
  have RG := hid RG3
  have B0 := hid (bal (bal (bal (bal (Below.refl w.heap.size w) (.cells (arr11 V) 28)) (.cells #[.int .i64 a] 3)) (.cells #[.int .i64 b] 3)) (.cells #[.int .i64 c] 3))
  have y1 := (cells_alloc (cells_alloc (cells_at (w.alloc (.cells (arr11 V) 28)) #[.int .i64 a] 3 (w.heap.size + 1) (by simp)) (by simp) (.cells #[.int .i64 b] 3)) (by simp) (.cells #[.int .i64 c] 3)) 0
  have y2 := (cells_alloc (cells_at ((w.alloc (.cells (arr11 V) 28)).alloc (.cells #[.int .i64 a] 3)) #[.int .i64 b] 3 (w.heap.size + 2) (by simp)) (by simp) (.cells #[.int .i64 c] 3)) 0
  have y3 := (cells_at (((w.alloc (.cells (arr11 V) 28)).alloc (.cells #[.int .i64 a] 3)).alloc (.cells #[.int .i64 b] 3)) #[.int .i64 c] 3 (w.heap.size + 3) (by simp)) 0
  have HC := hid (show Caps [((w.heap.size + 1), .int .i64 a), ((w.heap.size + 2), .int .i64 b), ((w.heap.size + 3), .int .i64 c)] ((((w.alloc (.cells (arr11 V) 28)).alloc (.cells #[.int .i64 a] 3)).alloc (.cells #[.int .i64 b] 3)).alloc (.cells #[.int .i64 c] 3)) from fun x hx => by
    simp only [List.mem_cons, List.not_mem_nil, or_false] at hx
    rcases hx with rfl | rfl | rfl
    · exact y1
    · exact y2
    · exact y3)
  have SZ := hid (show ((((w.alloc (.cells (arr11 V) 28)).alloc (.cells #[.int .i64 a] 3)).alloc (.cells #[.int .i64 b] 3)).alloc (.cells #[.int .i64 c] 3)).heap.size = w.heap.size + 4 by simp)
  clear RG0 RG1 RG2 RG3
  have HH := hid (hugeWorld_any V p ((((w.alloc (.cells (arr11 V) 28)).alloc (.cells #[.int .i64 a] 3)).alloc (.cells #[.int .i64 b] 3)).alloc (.cells #[.int .i64 c] 3)) (hv.below B0.out))
  by_cases hs : Small p
  rotate_left
  · rw [huge_t hs] at HH
    clear hv hg hs
    go_enter Tryz.func8, Tryz.ntmps8
    go_wp2_with (first | ((with_reducible (show wpList _ _ _ (⟨_, Op.load 28 _, _, _, _, _⟩ :: _) _ _)); refine wp_ldWg (by rfl) _ rfl _ rfl V RG.out ?_))
    refine HH.out.mono ?_
    rintro q w1 ⟨rfl, hb⟩
    have BB := hid (btr B0.out hb)
    clear hb
    go_wp2_with fail
    go_ret
    exact ⟨rfl, BB.out⟩
  rw [huge_f hs] at HH
  obtain ⟨hw, hp⟩ := small_world hv hs
  have HP := hid hp
  have HV := hid hw
  have HG := hid hg
  have HL := hid (tlbs_le hw.tlbs)
  have HSM := hid hs
  clear hv hg hs hw hp y1 y2 y3
  go_enter Tryz.func8, Tryz.ntmps8
  go_wp2_with (first | ((with_reducible (show wpList _ _ _ (⟨_, Op.load 28 _, _, _, _, _⟩ :: _) _ _)); refine wp_ldWg (by rfl) _ rfl _ rfl V RG.out ?_))
  generalize World.alloc _ _ = W0 at *
  refine HH.out.mono ?_
  rintro q w1 ⟨rfl, hb⟩
  have BW := hid (btr B0.out hb)
  have RW := hid (range_below RG.out hb)
  have CW := hid (HC.out.below hb)
  clear hb HH RG HC B0 SZ
  have z1 := CW.out ((w.heap.size + 1), .int .i64 a) (by simp)
  have z2 := CW.out ((w.heap.size + 2), .int .i64 b) (by simp)
  have z3 := CW.out ((w.heap.size + 3), .int .i64 c) (by simp)
  go_wp2_with (first | ((with_reducible (show wpList _ _ _ (⟨_, Op.load 28 _, _, _, _, _⟩ :: _) _ _)); refine wp_ldWg (by rfl) _ rfl _ rfl V RW.out ?_))
  refine (mailTake_any V p a b w1 (HV.out.below BW.out) HP.out).mono ?_
  rintro q u1 ⟨X1, rfl, hF, hb⟩
  have hX := hF.v0
  have TN := hid (there_new u1 #[.slice none 0 0, .slice none 0 0, .slice none 0 0, .slice none 0 0, .slice none 0 0, .slice none 0 0, .slice none 0 0, .slice none 0 0, .slice none 0 0, .slice none 0 0, .int .i64 0] 28 u1.heap.size 11 rfl (by decide))
  have one := hid (world_one hX)
  have D3 := hid (show Below u1.heap.size u1 ((u1.alloc (.cells #[.slice none 0 0, .slice none 0 0, .slice none 0 0, .slice none 0 0, .slice none 0 0, .slice none 0 0, .slice none 0 0, .slice none 0 0, .slice none 0 0, .slice none 0 0, .int .i64 0] 28)).setCells u1.heap.size 0 (arr11 X1).toList) from below_setCells (bal (Below.refl _ u1) (.cells #[.slice none 0 0, .slice none 0 0, .slice none 0 0, .slice none 0 0, .slice none 0 0, .slice none 0 0, .slice none 0 0, .slice none 0 0, .slice none 0 0, .slice none 0 0, .int .i64 0] 28)) (Nat.le_refl _) _ 0)
  have D5 := hid (btr hb D3.out)
  have RX1 := hid (World.rangeAt_setCells_same (u1.alloc (.cells #[.slice none 0 0, .slice none 0 0, .slice none 0 0, .slice none 0 0, .slice none 0 0, .slice none 0 0, .slice none 0 0, .slice none 0 0, .slice none 0 0, .slice none 0 0, .int .i64 0] 28)) u1.heap.size 0 (arr11 X1).toList TN.out)
  have WX1 := hid (hX.below D3.out)
  replace RW := hid (range_below RW.out D5.out)
  replace CW := hid (CW.out.below D5.out)
  replace BW := hid (btr BW.out D5.out)
  clear hX hF hb D5 z1 z2 z3
  go_upto_region 4 with (first | ((with_reducible (show wpList _ _ _ (⟨_, Op.store 28 _ _, _, _, _, _⟩ :: _) _ _)); refine wpList_store_mid rfl 28 _ _ rfl u1.heap.size 0 (arr11 X1) rfl rfl TN.out infoW one.out ?_))
  generalize World.setCells _ _ _ _ = W1 at *
  generalize u1.heap.size = xb1 at RX1 ⊢
  clear TN one D3
  have z1 := CW.out ((w.heap.size + 1), .int .i64 a) (by simp)
  have z2 := CW.out ((w.heap.size + 2), .int .i64 b) (by simp)
  have z3 := CW.out ((w.heap.size + 3), .int .i64 c) (by simp)
  go_wp2_with (first | ((with_reducible (show wpList _ _ _ (⟨_, Op.load 28 _, _, _, _, _⟩ :: _) _ _)); refine wp_ldWg (by rfl) _ rfl _ rfl V RW.out ?_))
  refine (mailAnswer_any V p a c W1 (HV.out.below BW.out) HP.out).mono ?_
  rintro q u2 ⟨X2, rfl, hF, hb⟩
  have hX := hF.v0
  have TN := hid (there_new u2 #[.slice none 0 0, .slice none 0 0, .slice none 0 0, .slice none 0 0, .slice none 0 0, .slice none 0 0, .slice none 0 0, .slice none 0 0, .slice none 0 0, .slice none 0 0, .int .i64 0] 28 u2.heap.size 11 rfl (by decide))
  have one := hid (world_one hX)
  have D3 := hid (show Below u2.heap.size u2 ((u2.alloc (.cells #[.slice none 0 0, .slice none 0 0, .slice none 0 0, .slice none 0 0, .slice none 0 0, .slice none 0 0, .slice none 0 0, .slice none 0 0, .slice none 0 0, .slice none 0 0, .int .i64 0] 28)).setCells u2.heap.size 0 (arr11 X2).toList) from below_setCells (bal (Below.refl _ u2) (.cells #[.slice none 0 0, .slice none 0 0, .slice none 0 0, .slice none 0 0, .slice none 0 0, .slice none 0 0, .slice none 0 0, .slice none 0 0, .slice none 0 0, .slice none 0 0, .int .i64 0] 28)) (Nat.le_refl _) _ 0)
  have D5 := hid (btr hb D3.out)
  have RX2 := hid (World.rangeAt_setCells_same (u2.alloc (.cells #[.slice none 0 0, .slice none 0 0, .slice none 0 0, .slice none 0 0, .slice none 0 0, .slice none 0 0, .slice none 0 0, .slice none 0 0, .slice none 0 0, .slice none 0 0, .int .i64 0] 28)) u2.heap.size 0 (arr11 X2).toList TN.out)
  have WX2 := hid (hX.below D3.out)
  replace RX1 := hid (range_below RX1.out D5.out)
  replace WX1 := hid (WX1.out.below D5.out)
  replace RW := hid (range_below RW.out D5.out)
  replace CW := hid (CW.out.below D5.out)
  replace BW := hid (btr BW.out D5.out)
  clear hX hF hb D5 z1 z2 z3
  go_upto_region 5 with (first | ((with_reducible (show wpList _ _ _ (⟨_, Op.store 28 _ _, _, _, _, _⟩ :: _) _ _)); refine wpList_store_mid rfl 28 _ _ rfl u2.heap.size 0 (arr11 X2) rfl rfl TN.out infoW one.out ?_))
  generalize World.setCells _ _ _ _ = W2 at *
  generalize u2.heap.size = xb2 at RX2 ⊢
  clear TN one D3
  have BD : Hid (Below W2.heap.size W2 W2.drew) := hid (below_drew W2 1)
  have KS := hid (show ∀ Y, Below W2.heap.size W2 Y → Y.rangeAt xb1 0 (arr11 X1).toList ∧ Y.rangeAt w.heap.size 0 (arr11 V).toList from fun Y h => ⟨range_below RX1.out h, range_below RW.out h⟩)
  have HSO := hid (fun Y (h : Below W2.heap.size W2 Y) => sound_law V p Y (HV.out.below (btr BW.out h)) HP.out)
  have HDI := hid (fun Y (h : Below W2.heap.size W2 Y) => did_any 38 #[ptr (w.heap.size + 1), ptr (w.heap.size + 2)] (Caps [((w.heap.size + 1), .int .i64 a), ((w.heap.size + 2), .int .i64 b)]) V X1 p (tkP p a b) (tkE p a b) Y (HV.out.below (btr BW.out h)) HP.out (tk_fits HP.out HSM.out.next HSM.out.line _ _) (WX1.out.below h) cf_g1 (fun Z hz x hx => (CW.out.below (btr h hz)) x (by simp only [List.mem_cons, List.not_mem_nil, or_false] at hx ⊢; rcases hx with rfl | rfl <;> simp)) (fun h => (takeRef_deed _ _ a b p HP.out h).caps (by rw [tk_tlbs]; exact HL.out)) (HG.out.below (btr BW.out h)))
  unfold ptr at HDI
  generalize eV (dE p (tkE p a b)) = ev at HDI ⊢
  generalize sndE p = se at HSO HDI
  refine wp_region_held_drew (S := fun Y => Y.rangeAt xb1 0 (arr11 X1).toList ∧ Y.rangeAt w.heap.size 0 (arr11 V).toList) (by kernel_rfl) (KS.out _ BD.out) (fun hH0 => ?_)
  have hH := hid hH0
  clear hH0
  refine wpAnyH_take (i := 0) (v := .agg (arr11 X1)) rfl (by kernel_rfl) (by kernel_rfl) (by kernel_rfl) (fun _ _ _ h => h) (yieldsIf_load_mid (by rfl) _ _ rfl _ _ rfl ((arr11 X1).toList) _ (fun _ h => h.1) Tryz.underlying28 rfl infoW) hH.out ?_
  simp only [Act.put, List.getElem_toArray, List.getElem_cons_zero, List.setIfInBounds_toArray, List.set_cons_zero, List.set_cons_succ]
  refine wpAnyH_take (i := 1) (v := ev) rfl (by kernel_rfl) (by kernel_rfl) (by kernel_rfl) (fun _ _ _ h => h) (Or.inl ⟨by rfl, fun W h => by clear h; go_simp⟩) hH.out ?_
  simp only [Act.put, List.getElem_toArray, List.getElem_cons_succ, List.getElem_cons_zero, List.setIfInBounds_toArray, List.set_cons_zero, List.set_cons_succ]
  refine wpAnyH_take (i := 2) (v := .agg (arr11 V)) rfl (by kernel_rfl) (by kernel_rfl) (by kernel_rfl) (fun _ _ _ h => h) (yieldsIf_load_mid (by rfl) _ _ rfl _ _ rfl ((arr11 V).toList) _ (fun _ h => h.2) Tryz.underlying28 rfl infoW) hH.out ?_
  simp only [Act.put, List.getElem_toArray, List.getElem_cons_succ, List.getElem_cons_zero, List.setIfInBounds_toArray, List.set_cons_zero, List.set_cons_succ]
  refine wpAnyH_take (i := 3) (v := .agg (arr11 V)) rfl (by kernel_rfl) (by kernel_rfl) (by kernel_rfl) (fun _ _ _ h => h) (yieldsIf_load_mid (by rfl) _ _ rfl _ _ rfl ((arr11 V).toList) _ (fun _ h => h.2) Tryz.underlying28 rfl infoW) hH.out ?_
  simp only [Act.put, List.getElem_toArray, List.getElem_cons_succ, List.getElem_cons_zero, List.setIfInBounds_toArray, List.set_cons_zero, List.set_cons_succ]
  refine wpAnyH_take (i := 5) (v := .func (.func 38) #[] #[.pointer (some ⟨w.heap.size + 1, 0, none⟩), .pointer (some ⟨w.heap.size + 2, 0, none⟩)]) rfl (by kernel_rfl) (by kernel_rfl) (by kernel_rfl) (fun _ _ _ h => h) (Or.inl ⟨by rfl, fun W h => by clear h; go_simp⟩) hH.out ?_
  simp only [Act.put, List.getElem_toArray, List.getElem_cons_succ, List.getElem_cons_zero, List.setIfInBounds_toArray, List.set_cons_zero, List.set_cons_succ]
  refine wpAnyH_ready (rs := [4]) (by kernel_rfl) (by simp) (AllReadyH.cons rfl (fun K hK => ?_) AllReadyH.nil)
  go_simp
  refine (HSO.out _ BD.out).mono ?_
  rintro q w4 ⟨rfl, hb⟩
  have A4 := hid (btr BD.out hb)
  clear hb
  go_wp2_with fail
  refine hK.out _ _ (KS.out _ A4.out) (fun hH0 => ?_)
  have hH2 := hid hH0
  clear hK K hH0
  try simp only [Act.put, List.setIfInBounds_toArray, List.set_cons_zero, List.set_cons_succ]
  refine wpAnyH_ready (rs := [6]) (by kernel_rfl) (by simp) (AllReadyH.cons rfl (fun K hK => ?_) AllReadyH.nil)
  go_simp
  refine (HDI.out _ A4.out).mono ?_
  rintro q v1 ⟨rfl, hb⟩
  have A5 := hid (btr A4.out hb)
  clear hb
  go_wp2_with fail
  refine hK.out _ _ (KS.out _ A5.out) (fun hH0 => ?_)
  have hH3 := hid hH0
  clear hK K hH0
  try simp only [Act.put, List.setIfInBounds_toArray, List.set_cons_zero, List.set_cons_succ]
  refine wpAnyH_take (i := 7) (v := .bool true) rfl (by kernel_rfl) (by kernel_rfl) (by kernel_rfl) (fun _ _ _ h => h) (Or.inl ⟨by rfl, fun W h => by clear h; go_simp⟩) hH3.out ?_
  simp only [Act.put, List.getElem_toArray, List.getElem_cons_succ, List.getElem_cons_zero, List.setIfInBounds_toArray, List.set_cons_zero, List.set_cons_succ]
  refine wpAnyH_done (by kernel_rfl) ?_ _
  clear hH hH2 hH3 KS HSO HDI BD A4
  replace RX2 := hid (range_below RX2.out A5.out)
  replace WX2 := hid (WX2.out.below A5.out)
  replace RW := hid (range_below RW.out A5.out)
  replace CW := hid (CW.out.below A5.out)
  replace BW := hid (btr BW.out A5.out)
  clear A5
  go_upto_region 6 with fail
  have BD : Hid (Below v1.heap.size v1 v1.drew) := hid (below_drew v1 1)
  have KS := hid (show ∀ Y, Below v1.heap.size v1 Y → Y.rangeAt xb2 0 (arr11 X2).toList ∧ Y.rangeAt w.heap.size 0 (arr11 V).toList from fun Y h => ⟨range_below RX2.out h, range_below RW.out h⟩)
  have HSO := hid (fun Y (h : Below v1.heap.size v1 Y) => sound_law V p Y (HV.out.below (btr BW.out h)) HP.out)
  have HDI := hid (fun Y (h : Below v1.heap.size v1 Y) => did_any 41 #[ptr (w.heap.size + 1), ptr (w.heap.size + 3)] (Caps [((w.heap.size + 1), .int .i64 a), ((w.heap.size + 3), .int .i64 c)]) V X2 p (anP p a c) (anE p a c) Y (HV.out.below (btr BW.out h)) HP.out (an_fits HP.out HSM.out.next _ _) (WX2.out.below h) cf_g2 (fun Z hz x hx => (CW.out.below (btr h hz)) x (by simp only [List.mem_cons, List.not_mem_nil, or_false] at hx ⊢; rcases hx with rfl | rfl <;> simp)) (fun h => (answerRef_deed _ _ a c p HP.out h).caps (by rw [an_tlbs]; exact HL.out)) (HG.out.below (btr BW.out h)))
  unfold ptr at HDI
  generalize eV (dE p (anE p a c)) = ev at HDI ⊢
  generalize sndE p = se at HSO HDI
  refine wp_region_held_drew (S := fun Y => Y.rangeAt xb2 0 (arr11 X2).toList ∧ Y.rangeAt w.heap.size 0 (arr11 V).toList) (by kernel_rfl) (KS.out _ BD.out) (fun hH0 => ?_)
  have hH := hid hH0
  clear hH0
  refine wpAnyH_take (i := 0) (v := .agg (arr11 X2)) rfl (by kernel_rfl) (by kernel_rfl) (by kernel_rfl) (fun _ _ _ h => h) (yieldsIf_load_mid (by rfl) _ _ rfl _ _ rfl ((arr11 X2).toList) _ (fun _ h => h.1) Tryz.underlying28 rfl infoW) hH.out ?_
  simp only [Act.put, List.getElem_toArray, List.getElem_cons_zero, List.setIfInBounds_toArray, List.set_cons_zero, List.set_cons_succ]
  refine wpAnyH_take (i := 1) (v := ev) rfl (by kernel_rfl) (by kernel_rfl) (by kernel_rfl) (fun _ _ _ h => h) (Or.inl ⟨by rfl, fun W h => by clear h; go_simp⟩) hH.out ?_
  simp only [Act.put, List.getElem_toArray, List.getElem_cons_succ, List.getElem_cons_zero, List.setIfInBounds_toArray, List.set_cons_zero, List.set_cons_succ]
  refine wpAnyH_take (i := 2) (v := .agg (arr11 V)) rfl (by kernel_rfl) (by kernel_rfl) (by kernel_rfl) (fun _ _ _ h => h) (yieldsIf_load_mid (by rfl) _ _ rfl _ _ rfl ((arr11 V).toList) _ (fun _ h => h.2) Tryz.underlying28 rfl infoW) hH.out ?_
  simp only [Act.put, List.getElem_toArray, List.getElem_cons_succ, List.getElem_cons_zero, List.setIfInBounds_toArray, List.set_cons_zero, List.set_cons_succ]
  refine wpAnyH_take (i := 3) (v := .agg (arr11 V)) rfl (by kernel_rfl) (by kernel_rfl) (by kernel_rfl) (fun _ _ _ h => h) (yieldsIf_load_mid (by rfl) _ _ rfl _ _ rfl ((arr11 V).toList) _ (fun _ h => h.2) Tryz.underlying28 rfl infoW) hH.out ?_
  simp only [Act.put, List.getElem_toArray, List.getElem_cons_succ, List.getElem_cons_zero, List.setIfInBounds_toArray, List.set_cons_zero, List.set_cons_succ]
  refine wpAnyH_take (i := 5) (v := .func (.func 41) #[] #[.pointer (some ⟨w.heap.size + 1, 0, none⟩), .pointer (some ⟨w.heap.size + 3, 0, none⟩)]) rfl (by kernel_rfl) (by kernel_rfl) (by kernel_rfl) (fun _ _ _ h => h) (Or.inl ⟨by rfl, fun W h => by clear h; go_simp⟩) hH.out ?_
  simp only [Act.put, List.getElem_toArray, List.getElem_cons_succ, List.getElem_cons_zero, List.setIfInBounds_toArray, List.set_cons_zero, List.set_cons_succ]
  refine wpAnyH_ready (rs := [4]) (by kernel_rfl) (by simp) (AllReadyH.cons rfl (fun K hK => ?_) AllReadyH.nil)
  go_simp
  refine (HSO.out _ BD.out).mono ?_
  rintro q w4 ⟨rfl, hb⟩
  have A4 := hid (btr BD.out hb)
  clear hb
  go_wp2_with fail
  refine hK.out _ _ (KS.out _ A4.out) (fun hH0 => ?_)
  have hH2 := hid hH0
  clear hK K hH0
  try simp only [Act.put, List.setIfInBounds_toArray, List.set_cons_zero, List.set_cons_succ]
  refine wpAnyH_ready (rs := [6]) (by kernel_rfl) (by simp) (AllReadyH.cons rfl (fun K hK => ?_) AllReadyH.nil)
  go_simp
  refine (HDI.out _ A4.out).mono ?_
  rintro q v2 ⟨rfl, hb⟩
  have A5 := hid (btr A4.out hb)
  clear hb
  go_wp2_with fail
  refine hK.out _ _ (KS.out _ A5.out) (fun hH0 => ?_)
  have hH3 := hid hH0
  clear hK K hH0
  try simp only [Act.put, List.setIfInBounds_toArray, List.set_cons_zero, List.set_cons_succ]
  refine wpAnyH_take (i := 7) (v := .bool true) rfl (by kernel_rfl) (by kernel_rfl) (by kernel_rfl) (fun _ _ _ h => h) (Or.inl ⟨by rfl, fun W h => by clear h; go_simp⟩) hH3.out ?_
  simp only [Act.put, List.getElem_toArray, List.getElem_cons_succ, List.getElem_cons_zero, List.setIfInBounds_toArray, List.set_cons_zero, List.set_cons_succ]
  refine wpAnyH_done (by kernel_rfl) ?_ _
  clear hH hH2 hH3 KS HSO HDI BD A4
  replace RW := hid (range_below RW.out A5.out)
  replace CW := hid (CW.out.below A5.out)
  replace BW := hid (btr BW.out A5.out)
  clear A5
  clear RW CW
  go_wp2_with fail
  go_ret
  exact ⟨rfl, BW.out⟩
end Go.Proofs.YtefibbhcikgniaaGreatDoor.Wd
