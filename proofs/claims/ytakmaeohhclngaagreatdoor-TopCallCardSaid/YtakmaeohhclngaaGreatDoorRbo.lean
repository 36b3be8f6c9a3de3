/- mail.Send and keyholdlaw.MailSends, walked. (Written by mk_send3.py.) -/
import Derived.Deep.RegionHeld3
import Derived.Test.YtakmaeohhclngaaGreatDoorRbn
import Derived.Test.YtakmaeohhclngaaGreatDoorRau
namespace Go.Proofs.YtakmaeohhclngaaGreatDoor.Wd
open Go.RowKit Go.Proofs.YtakmaeohhclngaaGreatDoor.Mem Go.Proofs.YtakmaeohhclngaaGreatDoor.Bw Go.Proofs.YtakmaeohhclngaaGreatDoor.Nums Go.Proofs.YtakmaeohhclngaaGreatDoor.Mmu
theorem cf_s1 (args : Array Value) (W : World) : (callFunc 31 args).run Tryz.prog W = .ok (.enter 31 args) W := by
 go_simp
set_option maxRecDepth 100000 in
set_option maxHeartbeats 4000000 in
theorem mailSend_any (V : Nat → Value) (p : PW) (a b c d : Int) (e : Bool) (w : World) (hv : WorldV w V p) (hp : p.Fits) (hn : ∀ l ∈ p.ready, l.length ≤ 50) :
  Calls Tryz.prog 10 #[.agg (arr11 V), .int .i64 a, .int .i64 b, .int .i64 c, .int .i64 d, .bool e] w fun x w' => ∃ X, x = .returned (.tuple #[.agg (arr11 X), eV (dE p (snE p a b c d))]) ∧ FarV w' w.heap.size X (dP p (snP p a b c d e) (snE p a b c d)) ∧ Below w.heap.size w w' := by
 have RG0 := boxed w V 28
 have RG1 := range_below RG0 (bal (Below.refl _ (w.alloc (.cells (arr11 V) 28))) (.cells #[.int .i64 a] 3))
 have RG2 := range_below RG1 (bal (Below.refl _ ((w.alloc (.cells (arr11 V) 28)).alloc (.cells #[.int .i64 a] 3))) (.cells #[.int .i64 b] 3))
 have RG3 := range_below RG2 (bal (Below.refl _ (((w.alloc (.cells (arr11 V) 28)).alloc (.cells #[.int .i64 a] 3)).alloc (.cells #[.int .i64 b] 3))) (.cells #[.int .i64 c] 3))
 have RG4 := range_below RG3 (bal (Below.refl _ ((((w.alloc (.cells (arr11 V) 28)).alloc (.cells #[.int .i64 a] 3)).alloc (.cells #[.int .i64 b] 3)).alloc (.cells #[.int .i64 c] 3))) (.cells #[.int .i64 d] 3))
 have RG5 := range_below RG4 (bal (Below.refl _ (((((w.alloc (.cells (arr11 V) 28)).alloc (.cells #[.int .i64 a] 3)).alloc (.cells #[.int .i64 b] 3)).alloc (.cells #[.int .i64 c] 3)).alloc (.cells #[.int .i64 d] 3))) (.cells #[.bool e] 4))
 have RG6 := range_below RG5 (bal (Below.refl _ ((((((w.alloc (.cells (arr11 V) 28)).alloc (.cells #[.int .i64 a] 3)).alloc (.cells #[.int .i64 b] 3)).alloc (.cells #[.int .i64 c] 3)).alloc (.cells #[.int .i64 d] 3)).alloc (.cells #[.bool e] 4))) (.cells #[.slice none 0 0, .slice none 0 0, .slice none 0 0, .slice none 0 0, .slice none 0 0, .slice none 0 0, .slice none 0 0, .slice none 0 0, .slice none 0 0, .slice none 0 0, .int .i64 0] 28))
 have RG := hid RG6
 have B0 := hid (bal (bal (bal (bal (bal (bal (bal (Below.refl w.heap.size w) (.cells (arr11 V) 28)) (.cells #[.int .i64 a] 3)) (.cells #[.int .i64 b] 3)) (.cells #[.int .i64 c] 3)) (.cells #[.int .i64 d] 3)) (.cells #[.bool e] 4)) (.cells #[.slice none 0 0, .slice none 0 0, .slice none 0 0, .slice none 0 0, .slice none 0 0, .slice none 0 0, .slice none 0 0, .slice none 0 0, .slice none 0 0, .slice none 0 0, .int .i64 0] 28))
 have y1 := (cells_alloc (cells_alloc (cells_alloc (cells_alloc (cells_alloc (cells_at (w.alloc (.cells (arr11 V) 28)) #[.int .i64 a] 3 (w.heap.size + 1) (by simp)) (by simp) (.cells #[.int .i64 b] 3)) (by simp) (.cells #[.int .i64 c] 3)) (by simp) (.cells #[.int .i64 d] 3)) (by simp) (.cells #[.bool e] 4)) (by simp) (.cells #[.slice none 0 0, .slice none 0 0, .slice none 0 0, .slice none 0 0, .slice none 0 0, .slice none 0 0, .slice none 0 0, .slice none 0 0, .slice none 0 0, .slice none 0 0, .int .i64 0] 28)) 0
 have y2 := (cells_alloc (cells_alloc (cells_alloc (cells_alloc (cells_at ((w.alloc (.cells (arr11 V) 28)).alloc (.cells #[.int .i64 a] 3)) #[.int .i64 b] 3 (w.heap.size + 2) (by simp)) (by simp) (.cells #[.int .i64 c] 3)) (by simp) (.cells #[.int .i64 d] 3)) (by simp) (.cells #[.bool e] 4)) (by simp) (.cells #[.slice none 0 0, .slice none 0 0, .slice none 0 0, .slice none 0 0, .slice none 0 0, .slice none 0 0, .slice none 0 0, .slice none 0 0, .slice none 0 0, .slice none 0 0, .int .i64 0] 28)) 0
 have y3 := (cells_alloc (cells_alloc (cells_alloc (cells_at (((w.alloc (.cells (arr11 V) 28)).alloc (.cells #[.int .i64 a] 3)).alloc (.cells #[.int .i64 b] 3)) #[.int .i64 c] 3 (w.heap.size + 3) (by simp)) (by simp) (.cells #[.int .i64 d] 3)) (by simp) (.cells #[.bool e] 4)) (by simp) (.cells #[.slice none 0 0, .slice none 0 0, .slice none 0 0, .slice none 0 0, .slice none 0 0, .slice none 0 0, .slice none 0 0, .slice none 0 0, .slice none 0 0, .slice none 0 0, .int .i64 0] 28)) 0
 have y4 := (cells_alloc (cells_alloc (cells_at ((((w.alloc (.cells (arr11 V) 28)).alloc (.cells #[.int .i64 a] 3)).alloc (.cells #[.int .i64 b] 3)).alloc (.cells #[.int .i64 c] 3)) #[.int .i64 d] 3 (w.heap.size + 4) (by simp)) (by simp) (.cells #[.bool e] 4)) (by simp) (.cells #[.slice none 0 0, .slice none 0 0, .slice none 0 0, .slice none 0 0, .slice none 0 0, .slice none 0 0, .slice none 0 0, .slice none 0 0, .slice none 0 0, .slice none 0 0, .int .i64 0] 28)) 0
 have y5 := (cells_alloc (cells_at (((((w.alloc (.cells (arr11 V) 28)).alloc (.cells #[.int .i64 a] 3)).alloc (.cells #[.int .i64 b] 3)).alloc (.cells #[.int .i64 c] 3)).alloc (.cells #[.int .i64 d] 3)) #[.bool e] 4 (w.heap.size + 5) (by simp)) (by simp) (.cells #[.slice none 0 0, .slice none 0 0, .slice none 0 0, .slice none 0 0, .slice none 0 0, .slice none 0 0, .slice none 0 0, .slice none 0 0, .slice none 0 0, .slice none 0 0, .int .i64 0] 28)) 0
 have HC := hid (show Caps [((w.heap.size + 1), .int .i64 a), ((w.heap.size + 2), .int .i64 b), ((w.heap.size + 3), .int .i64 c), ((w.heap.size + 4), .int .i64 d), ((w.heap.size + 5), .bool e)] (((((((w.alloc (.cells (arr11 V) 28)).alloc (.cells #[.int .i64 a] 3)).alloc (.cells #[.int .i64 b] 3)).alloc (.cells #[.int .i64 c] 3)).alloc (.cells #[.int .i64 d] 3)).alloc (.cells #[.bool e] 4)).alloc (.cells #[.slice none 0 0, .slice none 0 0, .slice none 0 0, .slice none 0 0, .slice none 0 0, .slice none 0 0, .slice none 0 0, .slice none 0 0, .slice none 0 0, .slice none 0 0, .int .i64 0] 28)) from fun x hx => by
  simp only [List.mem_cons, List.not_mem_nil, or_false] at hx
  rcases hx with rfl | rfl | rfl | rfl | rfl
  ·exact y1
  ·exact y2
  ·exact y3
  ·exact y4
  ·exact y5)
 have SZ := hid (show (((((((w.alloc (.cells (arr11 V) 28)).alloc (.cells #[.int .i64 a] 3)).alloc (.cells #[.int .i64 b] 3)).alloc (.cells #[.int .i64 c] 3)).alloc (.cells #[.int .i64 d] 3)).alloc (.cells #[.bool e] 4)).alloc (.cells #[.slice none 0 0, .slice none 0 0, .slice none 0 0, .slice none 0 0, .slice none 0 0, .slice none 0 0, .slice none 0 0, .slice none 0 0, .slice none 0 0, .slice none 0 0, .int .i64 0] 28)).heap.size = w.heap.size + 7 by simp)
 have TR := hid (there_new ((((((w.alloc (.cells (arr11 V) 28)).alloc (.cells #[.int .i64 a] 3)).alloc (.cells #[.int .i64 b] 3)).alloc (.cells #[.int .i64 c] 3)).alloc (.cells #[.int .i64 d] 3)).alloc (.cells #[.bool e] 4)) #[.slice none 0 0, .slice none 0 0, .slice none 0 0, .slice none 0 0, .slice none 0 0, .slice none 0 0, .slice none 0 0, .slice none 0 0, .slice none 0 0, .slice none 0 0, .int .i64 0] 28 (w.heap.size + 6) 11 (by simp) (by decide))
 clear RG0 RG1 RG2 RG3 RG4 RG5 RG6
 have HL := hid (tlbs_le hv.tlbs)
 have HD := hid (do_far 31 #[ptr (w.heap.size + 1), ptr (w.heap.size + 2), ptr (w.heap.size + 3), ptr (w.heap.size + 4), ptr (w.heap.size + 5)] (Caps [((w.heap.size + 1), .int .i64 a), ((w.heap.size + 2), .int .i64 b), ((w.heap.size + 3), .int .i64 c), ((w.heap.size + 4), .int .i64 d), ((w.heap.size + 5), .bool e)]) V p (snP p a b c d e) (snE p a b c d) (((((((w.alloc (.cells (arr11 V) 28)).alloc (.cells #[.int .i64 a] 3)).alloc (.cells #[.int .i64 b] 3)).alloc (.cells #[.int .i64 c] 3)).alloc (.cells #[.int .i64 d] 3)).alloc (.cells #[.bool e] 4)).alloc (.cells #[.slice none 0 0, .slice none 0 0, .slice none 0 0, .slice none 0 0, .slice none 0 0, .slice none 0 0, .slice none 0 0, .slice none 0 0, .slice none 0 0, .slice none 0 0, .int .i64 0] 28)) (hv.below B0.out) hp cf_s1 (fun X h => HC.out.below h) (fun h => (send_deed _ _ _ _ _ a b c d e p hp hn HL.out h).caps (by rw [sn_tlbs]; exact HL.out)))
 unfold ptr at HD
 generalize dE p (snE p a b c d) = de at HD ⊢
 generalize dP p (snP p a b c d e) (snE p a b c d) = dp at HD ⊢
 clear hv hp hn HL y1 y2 y3 y4 y5
 go_enter Tryz.func10, Tryz.ntmps10
 go_wp2_with (first | ((with_reducible (show wpList _ _ _ (⟨_, Op.load 28 _, _, _, _, _⟩ :: _) _ _)); refine wp_ldWg (by rfl) _ rfl _ rfl V RG.out ?_))
 generalize World.alloc _ _ = W0 at *
 refine HD.out.mono ?_
 rintro q w1 ⟨X, rfl, hF, hb⟩
 have T1 := hid (there_belowO TR.out hb)
 have one := hid (world_one hF.v0)
 have RX := hid (World.rangeAt_setCells_same w1 (w.heap.size + 6) 0 (arr11 X).toList T1.out)
 have BX := hid (below_setCells (btr B0.out hb) (show w.heap.size ≤ w.heap.size + 6 by omega) (arr11 X).toList 0)
 have WX := hid ((hF.put (w.heap.size + 6) 0 (arr11 X).toList (by rw [SZ.out]; omega)).mono (show w.heap.size ≤ _ by rw [SZ.out]; omega))
 clear hF hb HD
 go_wp2_with (first | ((with_reducible (show wpList _ _ _ (⟨_, Op.store 28 _ _, _, _, _, _⟩ :: _) _ _)); refine wpList_store_mid rfl 28 _ _ rfl (w.heap.size + 6) 0 (arr11 X) rfl rfl T1.out infoW one.out ?_))
 exact bodyPost_ret (v := .tuple #[.agg (arr11 X), eV de]) (results_d2 rfl rfl (run_loadVar_mid _ (w.heap.size + 6) 0 28 (arr11 X).toList _ RX.out Tryz.underlying28 rfl infoW) rfl) rfl ⟨X, rfl, WX.out, BX.out⟩
end Go.Proofs.YtakmaeohhclngaaGreatDoor.Wd
