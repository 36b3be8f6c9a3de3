/- keyholdref.NewWorld, where there is no world. -/
import Derived.Test.YtfpkbfhaipgibaaDoorWdNw
namespace Go.Proofs.YtfpkbfhaipgibaaDoor.Wd
open Go.RowKit Go.Proofs.YtfpkbfhaipgibaaDoor.Mem Go.Proofs.YtfpkbfhaipgibaaDoor.Bw Go.Proofs.YtfpkbfhaipgibaaDoor.Nums Go.Proofs.YtfpkbfhaipgibaaDoor.Mmu

theorem fin7 {at_ : Int} {w W7 : World} {a : Act} (t7 : W7.there (w.heap.size + 1) 0 2) (r6 : W7.rangeAt w.heap.size 0 (#[.slice none 0 0, .slice none 0 0, .slice none 0 0, .slice none 0 0, .slice none 0 0, .slice none 0 0, .slice none 0 0, .slice none 0 0, .slice none 0 0, .slice none 0 0, .int .i64 0] : Array Value).toList) (b7 : Below w.heap.size w W7)
    (e6 : a.tmps.getD 6 undef = .pointer (some ⟨w.heap.size, 0, none⟩)) (e7 : a.tmps.getD 7 undef = .pointer (some ⟨w.heap.size + 1, 0, none⟩)) (ed : a.defers = []) :
    bodyPost Tryd.prog Tryd.f29 (fun r w' => r = .returned (.tuple #[.agg (arr11 zeroV), .agg #[.int .i64 2, .int .i64 at_]]) ∧ Below w.heap.size w w') .ret a (W7.setCells (w.heap.size + 1) 0 [.int .i64 2, .int .i64 at_]) := by
  have q6 := World.rangeAt_setCells_apart r6 (w.heap.size + 1) 0 [.int .i64 2, .int .i64 at_] (.inl (by omega))
  have p7 := World.rangeAt_setCells_same W7 (w.heap.size + 1) 0 [.int .i64 2, .int .i64 at_] t7
  exact bodyPost_ret (v := .tuple #[.agg (arr11 zeroV), .agg #[.int .i64 2, .int .i64 at_]]) (results_cc rfl e6 (run_loadVar_mid _ w.heap.size 0 68 _ _ q6 Tryd.underlying68 rfl info11) e7 (run_loadVar_mid _ (w.heap.size + 1) 0 25 _ _ p7 Tryd.underlying25 rfl infoBad)) ed ⟨rfl, below_setCells b7 (show w.heap.size ≤ w.heap.size + 1 by omega) _ _⟩
set_option maxRecDepth 100000 in
set_option maxHeartbeats 2000000 in
theorem newWorld_range (f c : Int) (dv : Value) (zs : List Int) (w : World) (hd : IntsIn w dv zs) (hl : zs.length ≤ 100) (hc : ¬ ((1 ≤ f ∧ f ≤ 24) ∧ (1 ≤ c ∧ c ≤ 4) ∧ (1 ≤ (zs.length : Int) ∧ (zs.length : Int) ≤ 8))) :
    Calls Tryd.prog 29 #[.int .i64 f, .int .i64 c, dv] w fun r w' => r = .returned (.tuple #[.agg (arr11 zeroV), .agg #[.int .i64 2, .int .i64 (-1)]]) ∧ Below w.heap.size w w' := by
  obtain ⟨q, b, off, cap, rfl, -, -⟩ := hd
  have zl : (zs.length : Int) ≤ 100 := by omega
  have B0 := hid (bal (bal (Below.refl w.heap.size w) (.cells #[.slice none 0 0, .slice none 0 0, .slice none 0 0, .slice none 0 0, .slice none 0 0, .slice none 0 0, .slice none 0 0, .slice none 0 0, .slice none 0 0, .slice none 0 0, .int .i64 0] 68)) (.cells #[.int .i64 0, .int .i64 0] 25))
  have Z6 := hid (there_belowO (there_new w #[.slice none 0 0, .slice none 0 0, .slice none 0 0, .slice none 0 0, .slice none 0 0, .slice none 0 0, .slice none 0 0, .slice none 0 0, .slice none 0 0, .slice none 0 0, .int .i64 0] 68 w.heap.size 11 rfl (by decide)) (bal (Below.refl _ _) (.cells #[.int .i64 0, .int .i64 0] 25)))
  have Z7 := hid (there_new (w.alloc (.cells #[.slice none 0 0, .slice none 0 0, .slice none 0 0, .slice none 0 0, .slice none 0 0, .slice none 0 0, .slice none 0 0, .slice none 0 0, .slice none 0 0, .slice none 0 0, .int .i64 0] 68)) #[.int .i64 0, .int .i64 0] 25 (w.heap.size + 1) 2 (by simp) (by decide))
  by_cases f0 : f < 1
  · clear hc
    go_enter Tryd.func29, Tryd.ntmps29
    go_wp2_with fail
    generalize World.alloc _ _ = W0 at B0 Z6 Z7 ⊢
    refine (err_anyW 2 W0).mono ?_
    rintro e w6 ⟨rfl, hb⟩
    have T6 := hid (there_belowO Z6.out hb)
    have T7 := hid (there_belowO Z7.out hb)
    have BX := hid (btr B0.out hb)
    clear hb
    have W7F := hid (show (w6.setCells w.heap.size 0 (#[.slice none 0 0, .slice none 0 0, .slice none 0 0, .slice none 0 0, .slice none 0 0, .slice none 0 0, .slice none 0 0, .slice none 0 0, .slice none 0 0, .slice none 0 0, .int .i64 0] : Array Value).toList).there (w.heap.size + 1) 0 2 ∧ (w6.setCells w.heap.size 0 (#[.slice none 0 0, .slice none 0 0, .slice none 0 0, .slice none 0 0, .slice none 0 0, .slice none 0 0, .slice none 0 0, .slice none 0 0, .slice none 0 0, .slice none 0 0, .int .i64 0] : Array Value).toList).rangeAt w.heap.size 0 (#[.slice none 0 0, .slice none 0 0, .slice none 0 0, .slice none 0 0, .slice none 0 0, .slice none 0 0, .slice none 0 0, .slice none 0 0, .slice none 0 0, .slice none 0 0, .int .i64 0] : Array Value).toList ∧ Below w.heap.size w (w6.setCells w.heap.size 0 (#[.slice none 0 0, .slice none 0 0, .slice none 0 0, .slice none 0 0, .slice none 0 0, .slice none 0 0, .slice none 0 0, .slice none 0 0, .slice none 0 0, .slice none 0 0, .int .i64 0] : Array Value).toList) from
      ⟨World.there_setCells T7.out _ _ _, World.rangeAt_setCells_same w6 w.heap.size 0 (#[.slice none 0 0, .slice none 0 0, .slice none 0 0, .slice none 0 0, .slice none 0 0, .slice none 0 0, .slice none 0 0, .slice none 0 0, .slice none 0 0, .slice none 0 0, .int .i64 0] : Array Value).toList T6.out, below_setCells BX.out (Nat.le_refl _) _ _⟩)
    go_wp2_with (first
      | ((with_reducible (show wpList _ _ _ (⟨_, Op.store 68 _ _, _, _, _, _⟩ :: _) _ _)); refine wpList_store_mid rfl 68 _ _ rfl w.heap.size 0 #[.slice none 0 0, .slice none 0 0, .slice none 0 0, .slice none 0 0, .slice none 0 0, .slice none 0 0, .slice none 0 0, .slice none 0 0, .slice none 0 0, .slice none 0 0, .int .i64 0] rfl rfl T6.out info11 zOne ?_; generalize HW7 : World.setCells _ _ _ _ = W7 at W7F ⊢; clear HW7)
      | ((with_reducible (show wpList _ _ _ (⟨_, Op.store 25 _ _, _, _, _, _⟩ :: _) _ _)); refine wpList_store_mid rfl 25 _ _ rfl (w.heap.size + 1) 0 #[.int .i64 2, .int .i64 (-1)] rfl rfl W7F.out.1 infoBad (by simp [Value.oneCell']) ?_))
    refine fin7 W7F.out.1 W7F.out.2.1 W7F.out.2.2 ?_ ?_ ?_ <;> rfl
  · have g0 := f0
    by_cases f1 : 24 < f
    · clear hc
      go_enter Tryd.func29, Tryd.ntmps29
      go_wp2_with fail
      generalize World.alloc _ _ = W0 at B0 Z6 Z7 ⊢
      refine (err_anyW 2 W0).mono ?_
      rintro e w6 ⟨rfl, hb⟩
      have T6 := hid (there_belowO Z6.out hb)
      have T7 := hid (there_belowO Z7.out hb)
      have BX := hid (btr B0.out hb)
      clear hb
      have W7F := hid (show (w6.setCells w.heap.size 0 (#[.slice none 0 0, .slice none 0 0, .slice none 0 0, .slice none 0 0, .slice none 0 0, .slice none 0 0, .slice none 0 0, .slice none 0 0, .slice none 0 0, .slice none 0 0, .int .i64 0] : Array Value).toList).there (w.heap.size + 1) 0 2 ∧ (w6.setCells w.heap.size 0 (#[.slice none 0 0, .slice none 0 0, .slice none 0 0, .slice none 0 0, .slice none 0 0, .slice none 0 0, .slice none 0 0, .slice none 0 0, .slice none 0 0, .slice none 0 0, .int .i64 0] : Array Value).toList).rangeAt w.heap.size 0 (#[.slice none 0 0, .slice none 0 0, .slice none 0 0, .slice none 0 0, .slice none 0 0, .slice none 0 0, .slice none 0 0, .slice none 0 0, .slice none 0 0, .slice none 0 0, .int .i64 0] : Array Value).toList ∧ Below w.heap.size w (w6.setCells w.heap.size 0 (#[.slice none 0 0, .slice none 0 0, .slice none 0 0, .slice none 0 0, .slice none 0 0, .slice none 0 0, .slice none 0 0, .slice none 0 0, .slice none 0 0, .slice none 0 0, .int .i64 0] : Array Value).toList) from
        ⟨World.there_setCells T7.out _ _ _, World.rangeAt_setCells_same w6 w.heap.size 0 (#[.slice none 0 0, .slice none 0 0, .slice none 0 0, .slice none 0 0, .slice none 0 0, .slice none 0 0, .slice none 0 0, .slice none 0 0, .slice none 0 0, .slice none 0 0, .int .i64 0] : Array Value).toList T6.out, below_setCells BX.out (Nat.le_refl _) _ _⟩)
      go_wp2_with (first
        | ((with_reducible (show wpList _ _ _ (⟨_, Op.store 68 _ _, _, _, _, _⟩ :: _) _ _)); refine wpList_store_mid rfl 68 _ _ rfl w.heap.size 0 #[.slice none 0 0, .slice none 0 0, .slice none 0 0, .slice none 0 0, .slice none 0 0, .slice none 0 0, .slice none 0 0, .slice none 0 0, .slice none 0 0, .slice none 0 0, .int .i64 0] rfl rfl T6.out info11 zOne ?_; generalize HW7 : World.setCells _ _ _ _ = W7 at W7F ⊢; clear HW7)
        | ((with_reducible (show wpList _ _ _ (⟨_, Op.store 25 _ _, _, _, _, _⟩ :: _) _ _)); refine wpList_store_mid rfl 25 _ _ rfl (w.heap.size + 1) 0 #[.int .i64 2, .int .i64 (-1)] rfl rfl W7F.out.1 infoBad (by simp [Value.oneCell']) ?_))
      refine fin7 W7F.out.1 W7F.out.2.1 W7F.out.2.2 ?_ ?_ ?_ <;> rfl
    · have g1 := f1
      by_cases c0 : c < 1
      · clear hc
        go_enter Tryd.func29, Tryd.ntmps29
        go_wp2_with fail
        generalize World.alloc _ _ = W0 at B0 Z6 Z7 ⊢
        refine (err_anyW 2 W0).mono ?_
        rintro e w6 ⟨rfl, hb⟩
        have T6 := hid (there_belowO Z6.out hb)
        have T7 := hid (there_belowO Z7.out hb)
        have BX := hid (btr B0.out hb)
        clear hb
        have W7F := hid (show (w6.setCells w.heap.size 0 (#[.slice none 0 0, .slice none 0 0, .slice none 0 0, .slice none 0 0, .slice none 0 0, .slice none 0 0, .slice none 0 0, .slice none 0 0, .slice none 0 0, .slice none 0 0, .int .i64 0] : Array Value).toList).there (w.heap.size + 1) 0 2 ∧ (w6.setCells w.heap.size 0 (#[.slice none 0 0, .slice none 0 0, .slice none 0 0, .slice none 0 0, .slice none 0 0, .slice none 0 0, .slice none 0 0, .slice none 0 0, .slice none 0 0, .slice none 0 0, .int .i64 0] : Array Value).toList).rangeAt w.heap.size 0 (#[.slice none 0 0, .slice none 0 0, .slice none 0 0, .slice none 0 0, .slice none 0 0, .slice none 0 0, .slice none 0 0, .slice none 0 0, .slice none 0 0, .slice none 0 0, .int .i64 0] : Array Value).toList ∧ Below w.heap.size w (w6.setCells w.heap.size 0 (#[.slice none 0 0, .slice none 0 0, .slice none 0 0, .slice none 0 0, .slice none 0 0, .slice none 0 0, .slice none 0 0, .slice none 0 0, .slice none 0 0, .slice none 0 0, .int .i64 0] : Array Value).toList) from
          ⟨World.there_setCells T7.out _ _ _, World.rangeAt_setCells_same w6 w.heap.size 0 (#[.slice none 0 0, .slice none 0 0, .slice none 0 0, .slice none 0 0, .slice none 0 0, .slice none 0 0, .slice none 0 0, .slice none 0 0, .slice none 0 0, .slice none 0 0, .int .i64 0] : Array Value).toList T6.out, below_setCells BX.out (Nat.le_refl _) _ _⟩)
        go_wp2_with (first
          | ((with_reducible (show wpList _ _ _ (⟨_, Op.store 68 _ _, _, _, _, _⟩ :: _) _ _)); refine wpList_store_mid rfl 68 _ _ rfl w.heap.size 0 #[.slice none 0 0, .slice none 0 0, .slice none 0 0, .slice none 0 0, .slice none 0 0, .slice none 0 0, .slice none 0 0, .slice none 0 0, .slice none 0 0, .slice none 0 0, .int .i64 0] rfl rfl T6.out info11 zOne ?_; generalize HW7 : World.setCells _ _ _ _ = W7 at W7F ⊢; clear HW7)
          | ((with_reducible (show wpList _ _ _ (⟨_, Op.store 25 _ _, _, _, _, _⟩ :: _) _ _)); refine wpList_store_mid rfl 25 _ _ rfl (w.heap.size + 1) 0 #[.int .i64 2, .int .i64 (-1)] rfl rfl W7F.out.1 infoBad (by simp [Value.oneCell']) ?_))
        refine fin7 W7F.out.1 W7F.out.2.1 W7F.out.2.2 ?_ ?_ ?_ <;> rfl
      · have g2 := c0
        by_cases c1 : 4 < c
        · clear hc
          go_enter Tryd.func29, Tryd.ntmps29
          go_wp2_with fail
          generalize World.alloc _ _ = W0 at B0 Z6 Z7 ⊢
          refine (err_anyW 2 W0).mono ?_
          rintro e w6 ⟨rfl, hb⟩
          have T6 := hid (there_belowO Z6.out hb)
          have T7 := hid (there_belowO Z7.out hb)
          have BX := hid (btr B0.out hb)
          clear hb
          have W7F := hid (show (w6.setCells w.heap.size 0 (#[.slice none 0 0, .slice none 0 0, .slice none 0 0, .slice none 0 0, .slice none 0 0, .slice none 0 0, .slice none 0 0, .slice none 0 0, .slice none 0 0, .slice none 0 0, .int .i64 0] : Array Value).toList).there (w.heap.size + 1) 0 2 ∧ (w6.setCells w.heap.size 0 (#[.slice none 0 0, .slice none 0 0, .slice none 0 0, .slice none 0 0, .slice none 0 0, .slice none 0 0, .slice none 0 0, .slice none 0 0, .slice none 0 0, .slice none 0 0, .int .i64 0] : Array Value).toList).rangeAt w.heap.size 0 (#[.slice none 0 0, .slice none 0 0, .slice none 0 0, .slice none 0 0, .slice none 0 0, .slice none 0 0, .slice none 0 0, .slice none 0 0, .slice none 0 0, .slice none 0 0, .int .i64 0] : Array Value).toList ∧ Below w.heap.size w (w6.setCells w.heap.size 0 (#[.slice none 0 0, .slice none 0 0, .slice none 0 0, .slice none 0 0, .slice none 0 0, .slice none 0 0, .slice none 0 0, .slice none 0 0, .slice none 0 0, .slice none 0 0, .int .i64 0] : Array Value).toList) from
            ⟨World.there_setCells T7.out _ _ _, World.rangeAt_setCells_same w6 w.heap.size 0 (#[.slice none 0 0, .slice none 0 0, .slice none 0 0, .slice none 0 0, .slice none 0 0, .slice none 0 0, .slice none 0 0, .slice none 0 0, .slice none 0 0, .slice none 0 0, .int .i64 0] : Array Value).toList T6.out, below_setCells BX.out (Nat.le_refl _) _ _⟩)
          go_wp2_with (first
            | ((with_reducible (show wpList _ _ _ (⟨_, Op.store 68 _ _, _, _, _, _⟩ :: _) _ _)); refine wpList_store_mid rfl 68 _ _ rfl w.heap.size 0 #[.slice none 0 0, .slice none 0 0, .slice none 0 0, .slice none 0 0, .slice none 0 0, .slice none 0 0, .slice none 0 0, .slice none 0 0, .slice none 0 0, .slice none 0 0, .int .i64 0] rfl rfl T6.out info11 zOne ?_; generalize HW7 : World.setCells _ _ _ _ = W7 at W7F ⊢; clear HW7)
            | ((with_reducible (show wpList _ _ _ (⟨_, Op.store 25 _ _, _, _, _, _⟩ :: _) _ _)); refine wpList_store_mid rfl 25 _ _ rfl (w.heap.size + 1) 0 #[.int .i64 2, .int .i64 (-1)] rfl rfl W7F.out.1 infoBad (by simp [Value.oneCell']) ?_))
          refine fin7 W7F.out.1 W7F.out.2.1 W7F.out.2.2 ?_ ?_ ?_ <;> rfl
        · have g3 := c1
          by_cases z0 : (zs.length : Int) < 1
          · clear hc
            go_enter Tryd.func29, Tryd.ntmps29
            go_wp2_with fail
            generalize World.alloc _ _ = W0 at B0 Z6 Z7 ⊢
            refine (err_anyW 2 W0).mono ?_
            rintro e w6 ⟨rfl, hb⟩
            have T6 := hid (there_belowO Z6.out hb)
            have T7 := hid (there_belowO Z7.out hb)
            have BX := hid (btr B0.out hb)
            clear hb
            have W7F := hid (show (w6.setCells w.heap.size 0 (#[.slice none 0 0, .slice none 0 0, .slice none 0 0, .slice none 0 0, .slice none 0 0, .slice none 0 0, .slice none 0 0, .slice none 0 0, .slice none 0 0, .slice none 0 0, .int .i64 0] : Array Value).toList).there (w.heap.size + 1) 0 2 ∧ (w6.setCells w.heap.size 0 (#[.slice none 0 0, .slice none 0 0, .slice none 0 0, .slice none 0 0, .slice none 0 0, .slice none 0 0, .slice none 0 0, .slice none 0 0, .slice none 0 0, .slice none 0 0, .int .i64 0] : Array Value).toList).rangeAt w.heap.size 0 (#[.slice none 0 0, .slice none 0 0, .slice none 0 0, .slice none 0 0, .slice none 0 0, .slice none 0 0, .slice none 0 0, .slice none 0 0, .slice none 0 0, .slice none 0 0, .int .i64 0] : Array Value).toList ∧ Below w.heap.size w (w6.setCells w.heap.size 0 (#[.slice none 0 0, .slice none 0 0, .slice none 0 0, .slice none 0 0, .slice none 0 0, .slice none 0 0, .slice none 0 0, .slice none 0 0, .slice none 0 0, .slice none 0 0, .int .i64 0] : Array Value).toList) from
              ⟨World.there_setCells T7.out _ _ _, World.rangeAt_setCells_same w6 w.heap.size 0 (#[.slice none 0 0, .slice none 0 0, .slice none 0 0, .slice none 0 0, .slice none 0 0, .slice none 0 0, .slice none 0 0, .slice none 0 0, .slice none 0 0, .slice none 0 0, .int .i64 0] : Array Value).toList T6.out, below_setCells BX.out (Nat.le_refl _) _ _⟩)
            go_wp2_with (first
              | ((with_reducible (show wpList _ _ _ (⟨_, Op.store 68 _ _, _, _, _, _⟩ :: _) _ _)); refine wpList_store_mid rfl 68 _ _ rfl w.heap.size 0 #[.slice none 0 0, .slice none 0 0, .slice none 0 0, .slice none 0 0, .slice none 0 0, .slice none 0 0, .slice none 0 0, .slice none 0 0, .slice none 0 0, .slice none 0 0, .int .i64 0] rfl rfl T6.out info11 zOne ?_; generalize HW7 : World.setCells _ _ _ _ = W7 at W7F ⊢; clear HW7)
              | ((with_reducible (show wpList _ _ _ (⟨_, Op.store 25 _ _, _, _, _, _⟩ :: _) _ _)); refine wpList_store_mid rfl 25 _ _ rfl (w.heap.size + 1) 0 #[.int .i64 2, .int .i64 (-1)] rfl rfl W7F.out.1 infoBad (by simp [Value.oneCell']) ?_))
            refine fin7 W7F.out.1 W7F.out.2.1 W7F.out.2.2 ?_ ?_ ?_ <;> rfl
          · have g4 := z0
            have z1 : 8 < (zs.length : Int) := by omega
            clear hc
            go_enter Tryd.func29, Tryd.ntmps29
            go_wp2_with fail
            generalize World.alloc _ _ = W0 at B0 Z6 Z7 ⊢
            refine (err_anyW 2 W0).mono ?_
            rintro e w6 ⟨rfl, hb⟩
            have T6 := hid (there_belowO Z6.out hb)
            have T7 := hid (there_belowO Z7.out hb)
            have BX := hid (btr B0.out hb)
            clear hb
            have W7F := hid (show (w6.setCells w.heap.size 0 (#[.slice none 0 0, .slice none 0 0, .slice none 0 0, .slice none 0 0, .slice none 0 0, .slice none 0 0, .slice none 0 0, .slice none 0 0, .slice none 0 0, .slice none 0 0, .int .i64 0] : Array Value).toList).there (w.heap.size + 1) 0 2 ∧ (w6.setCells w.heap.size 0 (#[.slice none 0 0, .slice none 0 0, .slice none 0 0, .slice none 0 0, .slice none 0 0, .slice none 0 0, .slice none 0 0, .slice none 0 0, .slice none 0 0, .slice none 0 0, .int .i64 0] : Array Value).toList).rangeAt w.heap.size 0 (#[.slice none 0 0, .slice none 0 0, .slice none 0 0, .slice none 0 0, .slice none 0 0, .slice none 0 0, .slice none 0 0, .slice none 0 0, .slice none 0 0, .slice none 0 0, .int .i64 0] : Array Value).toList ∧ Below w.heap.size w (w6.setCells w.heap.size 0 (#[.slice none 0 0, .slice none 0 0, .slice none 0 0, .slice none 0 0, .slice none 0 0, .slice none 0 0, .slice none 0 0, .slice none 0 0, .slice none 0 0, .slice none 0 0, .int .i64 0] : Array Value).toList) from
              ⟨World.there_setCells T7.out _ _ _, World.rangeAt_setCells_same w6 w.heap.size 0 (#[.slice none 0 0, .slice none 0 0, .slice none 0 0, .slice none 0 0, .slice none 0 0, .slice none 0 0, .slice none 0 0, .slice none 0 0, .slice none 0 0, .slice none 0 0, .int .i64 0] : Array Value).toList T6.out, below_setCells BX.out (Nat.le_refl _) _ _⟩)
            go_wp2_with (first
              | ((with_reducible (show wpList _ _ _ (⟨_, Op.store 68 _ _, _, _, _, _⟩ :: _) _ _)); refine wpList_store_mid rfl 68 _ _ rfl w.heap.size 0 #[.slice none 0 0, .slice none 0 0, .slice none 0 0, .slice none 0 0, .slice none 0 0, .slice none 0 0, .slice none 0 0, .slice none 0 0, .slice none 0 0, .slice none 0 0, .int .i64 0] rfl rfl T6.out info11 zOne ?_; generalize HW7 : World.setCells _ _ _ _ = W7 at W7F ⊢; clear HW7)
              | ((with_reducible (show wpList _ _ _ (⟨_, Op.store 25 _ _, _, _, _, _⟩ :: _) _ _)); refine wpList_store_mid rfl 25 _ _ rfl (w.heap.size + 1) 0 #[.int .i64 2, .int .i64 (-1)] rfl rfl W7F.out.1 infoBad (by simp [Value.oneCell']) ?_))
            refine fin7 W7F.out.1 W7F.out.2.1 W7F.out.2.2 ?_ ?_ ?_ <;> rfl
set_option maxRecDepth 100000 in
set_option maxHeartbeats 2000000 in
theorem newWorld_bad (f c : Int) (dv : Value) (zs : List Int) (w : World) (hd : IntsIn w dv zs) (hc : (1 ≤ f ∧ f ≤ 24) ∧ (1 ≤ c ∧ c ≤ 4) ∧ (1 ≤ (zs.length : Int) ∧ (zs.length : Int) ≤ 8)) (hz : zs.findIdx nd < zs.length) :
    Calls Tryd.prog 29 #[.int .i64 f, .int .i64 c, dv] w fun r w' => r = .returned (.tuple #[.agg (arr11 zeroV), .agg #[.int .i64 2, .int .i64 (zs.findIdx nd)]]) ∧ Below w.heap.size w w' := by
  obtain ⟨q, b, off, cap, rfl, hq, hi⟩ := hd
  have HQ := hid hq
  have HI := hid hi
  obtain ⟨⟨f3, f2⟩, ⟨c3, c2⟩, z3, z2⟩ := hc
  have HF := hid (show ∀ j (hj : j < zs.length), decide (zs[j] < 0 ∨ 3 < zs[j]) = nd zs[j] from fun j hj => by
    unfold nd
    rw [Bool.eq_iff_iff]
    simp <;> omega)
  have HB := hid (show nd zs[zs.findIdx nd] = true from List.findIdx_getElem)
  have HE := hid (show ∀ j (h1 : j < zs.length), j < zs.findIdx nd → nd zs[j] = false from fun j h1 h2 => by simpa using List.not_of_lt_findIdx h2)
  generalize zs.findIdx nd = m at hz HB HE ⊢
  clear hq hi
  have B0 := hid (bal (bal (Below.refl w.heap.size w) (.cells #[.slice none 0 0, .slice none 0 0, .slice none 0 0, .slice none 0 0, .slice none 0 0, .slice none 0 0, .slice none 0 0, .slice none 0 0, .slice none 0 0, .slice none 0 0, .int .i64 0] 68)) (.cells #[.int .i64 0, .int .i64 0] 25))
  have Z6 := hid (there_belowO (there_new w #[.slice none 0 0, .slice none 0 0, .slice none 0 0, .slice none 0 0, .slice none 0 0, .slice none 0 0, .slice none 0 0, .slice none 0 0, .slice none 0 0, .slice none 0 0, .int .i64 0] 68 w.heap.size 11 rfl (by decide)) (bal (Below.refl _ _) (.cells #[.int .i64 0, .int .i64 0] 25)))
  have Z7 := hid (there_new (w.alloc (.cells #[.slice none 0 0, .slice none 0 0, .slice none 0 0, .slice none 0 0, .slice none 0 0, .slice none 0 0, .slice none 0 0, .slice none 0 0, .slice none 0 0, .slice none 0 0, .int .i64 0] 68)) #[.int .i64 0, .int .i64 0] 25 (w.heap.size + 1) 2 (by simp) (by decide))
  go_enter Tryd.func29, Tryd.ntmps29
  go_wp2_with fail
  generalize World.alloc _ _ = W0 at B0 Z6 Z7 ⊢
  go_loopw [8] (fun i wr => ∃ k : Nat, k ≤ m ∧ i = .int .i64 k ∧ Hid (W0 = wr)) (fun i _ => m - (intOf i).toNat)
  case atStart => exact ⟨0, by omega, rfl, hid rfl⟩
  case round =>
    obtain ⟨k, hk, rfl, HW⟩ := hrel
    obtain rfl := HW.out
    clear HW
    have hlt2 : (k : Int) < (zs.length : Int) := by omega
    have hqe := HQ.out (by omega)
    subst hqe
    have c9 := (HI.out.below B0.out) k (by omega)
    by_cases hlt : k < m
    · have HN := hid ((HF.out k (by omega)).trans (HE.out k (by omega) hlt))
      generalize zs[k] = z at c9 HN
      go_wp2_with fail
      refine (Isa.far_any z 3 W0).mono ?_
      rintro e w1 ⟨rfl, rfl⟩
      rw [HN.out]
      go_wp2_with fail
      exact ⟨⟨k + 1, by omega, by go_num, hid trivial⟩, by simp [intOf]; omega⟩
    · obtain rfl : k = m := by omega
      have HN := hid ((HF.out k (by omega)).trans HB.out)
      clear HB HE HF
      generalize zs[k] = z at c9 HN
      go_wp2_with fail
      refine (Isa.far_any z 3 W0).mono ?_
      rintro e w1 ⟨rfl, rfl⟩
      rw [HN.out]
      have T6 := Z6
      have T7 := Z7
      have BX := B0
      have W7F := hid (show (W0.setCells w.heap.size 0 (#[.slice none 0 0, .slice none 0 0, .slice none 0 0, .slice none 0 0, .slice none 0 0, .slice none 0 0, .slice none 0 0, .slice none 0 0, .slice none 0 0, .slice none 0 0, .int .i64 0] : Array Value).toList).there (w.heap.size + 1) 0 2 ∧ (W0.setCells w.heap.size 0 (#[.slice none 0 0, .slice none 0 0, .slice none 0 0, .slice none 0 0, .slice none 0 0, .slice none 0 0, .slice none 0 0, .slice none 0 0, .slice none 0 0, .slice none 0 0, .int .i64 0] : Array Value).toList).rangeAt w.heap.size 0 (#[.slice none 0 0, .slice none 0 0, .slice none 0 0, .slice none 0 0, .slice none 0 0, .slice none 0 0, .slice none 0 0, .slice none 0 0, .slice none 0 0, .slice none 0 0, .int .i64 0] : Array Value).toList ∧ Below w.heap.size w (W0.setCells w.heap.size 0 (#[.slice none 0 0, .slice none 0 0, .slice none 0 0, .slice none 0 0, .slice none 0 0, .slice none 0 0, .slice none 0 0, .slice none 0 0, .slice none 0 0, .slice none 0 0, .int .i64 0] : Array Value).toList) from
        ⟨World.there_setCells T7.out _ _ _, World.rangeAt_setCells_same W0 w.heap.size 0 (#[.slice none 0 0, .slice none 0 0, .slice none 0 0, .slice none 0 0, .slice none 0 0, .slice none 0 0, .slice none 0 0, .slice none 0 0, .slice none 0 0, .slice none 0 0, .int .i64 0] : Array Value).toList T6.out, below_setCells BX.out (Nat.le_refl _) _ _⟩)
      go_wp2_with (first
        | ((with_reducible (show wpList _ _ _ (⟨_, Op.store 68 _ _, _, _, _, _⟩ :: _) _ _)); refine wpList_store_mid rfl 68 _ _ rfl w.heap.size 0 #[.slice none 0 0, .slice none 0 0, .slice none 0 0, .slice none 0 0, .slice none 0 0, .slice none 0 0, .slice none 0 0, .slice none 0 0, .slice none 0 0, .slice none 0 0, .int .i64 0] rfl rfl T6.out info11 zOne ?_; generalize HW7 : World.setCells _ _ _ _ = W7 at W7F ⊢; clear HW7)
        | ((with_reducible (show wpList _ _ _ (⟨_, Op.store 25 _ _, _, _, _, _⟩ :: _) _ _)); refine wpList_store_mid rfl 25 _ _ rfl (w.heap.size + 1) 0 #[.int .i64 2, .int .i64 k] rfl rfl W7F.out.1 infoBad (by simp [Value.oneCell']) ?_))
      refine fin7 W7F.out.1 W7F.out.2.1 W7F.out.2.2 ?_ ?_ ?_ <;> rfl
end Go.Proofs.YtfpkbfhaipgibaaDoor.Wd
