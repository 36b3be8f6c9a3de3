/- world.New, where there is no world. -/
import Derived.Test.YtfpkbfhaipgibaaDoorWdNew
namespace Go.Proofs.YtfpkbfhaipgibaaDoor.Wd
open Go.RowKit Go.Proofs.YtfpkbfhaipgibaaDoor.Mem Go.Proofs.YtfpkbfhaipgibaaDoor.Bw Go.Proofs.YtfpkbfhaipgibaaDoor.Nums Go.Proofs.YtfpkbfhaipgibaaDoor.Mmu

theorem zOne : (#[.slice none 0 0, .slice none 0 0, .slice none 0 0, .slice none 0 0, .slice none 0 0, .slice none 0 0, .slice none 0 0, .slice none 0 0, .slice none 0 0, .slice none 0 0, .int .i64 0] : Array Value).all (·.oneCell') = true := by simp [Value.oneCell']
set_option maxRecDepth 100000 in
set_option maxHeartbeats 400000 in
theorem new_range (f c : Int) (dv : Value) (zs : List Int) (w : World) (hd : IntsIn w dv zs) (hl : zs.length ≤ 100) (hc : ¬ ((1 ≤ f ∧ f ≤ 24) ∧ (1 ≤ c ∧ c ≤ 4) ∧ (1 ≤ (zs.length : Int) ∧ (zs.length : Int) ≤ 8))) :
    Calls Tryd.prog 30 #[.int .i64 f, .int .i64 c, dv] w fun r w' => r = .returned (.tuple #[.agg (arr11 zeroV), .iface 23 (.int .i64 2)]) ∧ Below w.heap.size w w' := by
  obtain ⟨q, b, off, cap, rfl, -, -⟩ := hd
  have HC := hid (decide_eq_false hc)
  have z2 : (zs.length : Int) ≤ 100 := by omega
  have B0 := hid (bal (Below.refl w.heap.size w) (.cells #[.slice none 0 0, .slice none 0 0, .slice none 0 0, .slice none 0 0, .slice none 0 0, .slice none 0 0, .slice none 0 0, .slice none 0 0, .slice none 0 0, .slice none 0 0, .int .i64 0] 68))
  clear hc
  go_enter Tryd.func30, Tryd.ntmps30
  go_wp2_with fail
  refine (countsFit_any f c zs.length _).mono ?_
  rintro r wx ⟨rfl, rfl⟩
  rw [HC.out]
  go_wp2_with fail
  have RG := range_newA w (#[.slice none 0 0, .slice none 0 0, .slice none 0 0, .slice none 0 0, .slice none 0 0, .slice none 0 0, .slice none 0 0, .slice none 0 0, .slice none 0 0, .slice none 0 0, .int .i64 0] : Array Value).toList #[.slice none 0 0, .slice none 0 0, .slice none 0 0, .slice none 0 0, .slice none 0 0, .slice none 0 0, .slice none 0 0, .slice none 0 0, .slice none 0 0, .slice none 0 0, .int .i64 0] 68 w.heap.size rfl rfl
  refine bodyPost_ret (v := .tuple #[.agg #[.slice none 0 0, .slice none 0 0, .slice none 0 0, .slice none 0 0, .slice none 0 0, .slice none 0 0, .slice none 0 0, .slice none 0 0, .slice none 0 0, .slice none 0 0, .int .i64 0], .iface 23 (.int .i64 2)]) (results_d2 rfl rfl (run_loadVar_mid _ w.heap.size 0 68 _ _ RG Tryd.underlying68 rfl info11) rfl) rfl ⟨rfl, B0.out⟩
set_option maxRecDepth 100000 in
set_option maxHeartbeats 400000 in
theorem new_bad (f c : Int) (dv : Value) (zs : List Int) (w : World) (hd : IntsIn w dv zs) (hc : (1 ≤ f ∧ f ≤ 24) ∧ (1 ≤ c ∧ c ≤ 4) ∧ (1 ≤ (zs.length : Int) ∧ (zs.length : Int) ≤ 8)) (hz : zs.findIdx nd < zs.length) :
    Calls Tryd.prog 30 #[.int .i64 f, .int .i64 c, dv] w fun r w' => ∃ b, r = .returned (.tuple #[.agg (arr11 zeroV), .iface 95 (.pointer (some ⟨b, 0, none⟩))]) ∧ w'.cell? ⟨b, 0, none⟩ = some (.int .i64 (zs.findIdx nd)) ∧ w'.cell? ⟨b, 1, none⟩ = some (.iface 23 (.int .i64 2)) ∧ Below w.heap.size w w' := by
  have HD := hid hd
  obtain ⟨q, b, off, cap, rfl, -, -⟩ := hd
  have HC := hid (decide_eq_true hc)
  have z2 : (zs.length : Int) ≤ 8 := by omega
  have z1 : zs.length ≤ 8 := by omega
  have HZ := hid hz
  have C0 := hid (there_new w #[.slice none 0 0, .slice none 0 0, .slice none 0 0, .slice none 0 0, .slice none 0 0, .slice none 0 0, .slice none 0 0, .slice none 0 0, .slice none 0 0, .slice none 0 0, .int .i64 0] 68 w.heap.size 11 rfl (by decide))
  have B0 := hid (bal (Below.refl w.heap.size w) (.cells #[.slice none 0 0, .slice none 0 0, .slice none 0 0, .slice none 0 0, .slice none 0 0, .slice none 0 0, .slice none 0 0, .slice none 0 0, .slice none 0 0, .slice none 0 0, .int .i64 0] 68))
  have C1x := hid (cells_new w #[.slice none 0 0, .slice none 0 0, .slice none 0 0, .slice none 0 0, .slice none 0 0, .slice none 0 0, .slice none 0 0, .slice none 0 0, .slice none 0 0, .slice none 0 0, .int .i64 0] 68 0)
  have S0 := hid (show w.heap.size < (w.alloc (.cells #[.slice none 0 0, .slice none 0 0, .slice none 0 0, .slice none 0 0, .slice none 0 0, .slice none 0 0, .slice none 0 0, .slice none 0 0, .slice none 0 0, .slice none 0 0, .int .i64 0] 68)).heap.size by simp)
  clear hc hz
  go_enter Tryd.func30, Tryd.ntmps30
  go_wp2_with fail
  refine (countsFit_any f c zs.length _).mono ?_
  rintro r wx ⟨rfl, rfl⟩
  rw [HC.out]
  go_wp2_with fail
  generalize World.alloc _ _ = W0 at B0 C0 S0 C1x ⊢
  refine (look_doms _ zs W0 (HD.out.below B0.out) (by omega)).mono ?_
  rintro r w1 ⟨e, rfl, hL, hb⟩
  rcases hL with ⟨he, _⟩ | ⟨b, -, rfl, x0, x1⟩
  · have := HZ.out
    omega
  · have B1 := hid (btr B0.out hb)
    have TH := hid (there_belowO C0.out hb)
    have hne : b ≠ w.heap.size := by
      rintro rfl
      have h2 := hb.cell (p := ⟨w.heap.size, 0, none⟩) S0.out
      have h3 := C1x.out
      rw [x0, h3] at h2
      cases h2
    have X0 := hid x0
    have X1 := hid x1
    clear x0 x1 hb
    go_wp2_with (first
      | ((with_reducible (show wpList _ _ _ (⟨_, Op.store 68 _ _, _, _, _, _⟩ :: _) _ _)); refine wpList_store_mid rfl 68 _ _ rfl w.heap.size 0 #[.slice none 0 0, .slice none 0 0, .slice none 0 0, .slice none 0 0, .slice none 0 0, .slice none 0 0, .slice none 0 0, .slice none 0 0, .slice none 0 0, .slice none 0 0, .int .i64 0] rfl rfl TH.out info11 zOne ?_))
    have RG := World.rangeAt_setCells_same _ w.heap.size 0 (#[.slice none 0 0, .slice none 0 0, .slice none 0 0, .slice none 0 0, .slice none 0 0, .slice none 0 0, .slice none 0 0, .slice none 0 0, .slice none 0 0, .slice none 0 0, .int .i64 0] : Array Value).toList TH.out
    refine bodyPost_ret (v := .tuple #[.agg #[.slice none 0 0, .slice none 0 0, .slice none 0 0, .slice none 0 0, .slice none 0 0, .slice none 0 0, .slice none 0 0, .slice none 0 0, .slice none 0 0, .slice none 0 0, .int .i64 0], .iface 95 (.pointer (some ⟨b, 0, none⟩))]) (results_d2 rfl rfl (run_loadVar_mid _ w.heap.size 0 68 _ _ RG Tryd.underlying68 rfl info11) rfl) rfl ⟨b, rfl, ?_, ?_, below_setCells B1.out (Nat.le_refl _) _ _⟩
    · rw [cell_setCells hne]
      exact X0.out
    · rw [cell_setCells hne]
      exact X1.out
end Go.Proofs.YtfpkbfhaipgibaaDoor.Wd
