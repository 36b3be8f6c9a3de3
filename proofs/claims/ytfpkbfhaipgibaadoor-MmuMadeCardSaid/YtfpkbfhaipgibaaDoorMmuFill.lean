/- mmu.Fill walked: it remembers what keyholdref.Filled remembers. -/
import Derived.Test.YtfpkbfhaipgibaaDoorMmuFill0
import Derived.Deep.MidRow
import Derived.Deep.RegionHeld3
import Derived.Deep.DeepCutAuto
namespace Go.Proofs.YtfpkbfhaipgibaaDoor.Mmu
open Go.RowKit Go.Proofs.YtfpkbfhaipgibaaDoor.Mem Go.Proofs.YtfpkbfhaipgibaaDoor.Bw Go.Proofs.YtfpkbfhaipgibaaDoor.Nums

theorem news_below {W w1 : World} {a b c d : Value} {e : TypeId} (hb : Below (W.alloc (.cells #[a, b, c, d] e)).heap.size (W.alloc (.cells #[a, b, c, d] e)) w1) : ∀ (j : Nat) (x : Value), [a, b, c, d][j]? = some x → w1.cell? ((⟨W.heap.size, 0, none⟩ : Addr).add j) = some x := by
  intro j x h
  have := fourE_new W a b c d e j x h
  rw [add_none] at this ⊢
  exact (hb.cell (World.block_lt_of_cell? _ _ this)).trans this
set_option maxRecDepth 100000 in
set_option maxHeartbeats 8000000 in
theorem fill_any (v : Value) (l : List Ent) (e0 : Int) (e1 : Int) (e2 : Int) (e3 : Bool) (w : World) (hv : TlbIn w v l) :
    Calls Tryd.prog 21 #[v, .agg #[.int .i64 e0, .int .i64 e1, .int .i64 e2, .bool e3]] w fun r w' => ∃ u, r = .returned u ∧ TlbNew w.heap.size w' u (fillR l (e0, e1, e2, e3)) ∧ Below w.heap.size w w' := by
  obtain ⟨i0, hi, hz0, hz1, hz2⟩ := info_get infoEnt
  have hl : l.length ≤ 100 := by obtain ⟨_, _, _, _, _, _, _, h⟩ := hv; exact h
  have HV := hid hv
  clear hv
  have B0 := hid (bal (Below.refl w.heap.size w) (.cells #[.int .i64 e0, .int .i64 e1, .int .i64 e2, .bool e3] 39))
  have C0 := hid (cells_new w #[.int .i64 e0, .int .i64 e1, .int .i64 e2, .bool e3] 39)
  have S0 := hid (show (w.alloc (.cells #[.int .i64 e0, .int .i64 e1, .int .i64 e2, .bool e3] 39)).heap.size = w.heap.size + 1 by simp)
  obtain ⟨W0, hW⟩ : ∃ W, W = w.alloc (.cells #[.int .i64 e0, .int .i64 e1, .int .i64 e2, .bool e3] 39) := ⟨_, rfl⟩
  rw [← hW] at B0 C0 S0
  have HW := hid hW
  have L0 := drop_len l e0 e1
  have L1 : (dropR l e0 e1).length + 1 ≤ maxLen := by unfold maxLen; omega
  have L2 : ((dropR l e0 e1).length + 1) * 32 ≤ 140737488355328 := by omega
  clear hW
  go_enter Tryd.func21, Tryd.ntmps21
  go_upto_region 1 with fail
  rw [← HW.out]
  go_cut [5] (fun x wx => ∃ m : List Ent, Hid (m = dropR l e0 e1 ++ [(e0, e1, e2, e3)]) ∧ Hid (wx.ownsRow W0.heap.size 39 4 x m.length (cellsE m)) ∧ Hid (Below W0.heap.size W0 wx))
  case first =>
    have BD := hid (below_drew W0 1)
    have KS := hid (show ∀ W, Below W0.heap.size W0 W → W.cell? ⟨w.heap.size, 0, none⟩ = some (.int .i64 e0) ∧ W.cell? ⟨w.heap.size, 1, none⟩ = some (.int .i64 e1) ∧ W.cell? ⟨w.heap.size, 2, none⟩ = some (.int .i64 e2) ∧ W.cell? ⟨w.heap.size, 3, none⟩ = some (.bool e3) from fun W hb => by
      have hs : w.heap.size < W0.heap.size := by have := S0.out; omega
      exact ⟨(hb.cell hs).trans (C0.out 0), (hb.cell hs).trans (C0.out 1), (hb.cell hs).trans (C0.out 2), (hb.cell hs).trans (C0.out 3)⟩)
    go_region_held3 (fun W => W.cell? ⟨w.heap.size, 0, none⟩ = some (.int .i64 e0) ∧ W.cell? ⟨w.heap.size, 1, none⟩ = some (.int .i64 e1) ∧ W.cell? ⟨w.heap.size, 2, none⟩ = some (.int .i64 e2) ∧ W.cell? ⟨w.heap.size, 3, none⟩ = some (.bool e3))
      (first
        | exact KS.out _ B3.out
        | exact KS.out _ (bal B1.out _)
        | exact KS.out _ B1.out
        | exact KS.out _ (bal BD.out _)
        | exact KS.out _ BD.out)
      (first
        | (refine step_append_own rfl (.tmp 11) (.tmp 13) 37 rfl W0.heap.size 39 i0 (.agg #[.int .i64 0, .int .i64 0, .int .i64 0, .bool false]) 4 32 Tryd.underlying37 hi hz0 hz1 hz2 rfl (by decide) _ _ _ rfl O1.out ⟨_, 0, none⟩ 1 1 [.int .i64 e0, .int .i64 e1, .int .i64 e2, .bool e3] rfl rfl N1.out (fourE_cell _ _ _ _) L1 L2 B1.out.size ?_; intro v' w3 hown hgrow; have B3 := hid (B1.out.grown hgrow B1.out.size (fun k hk => (O1.out.lt k hk).1)); have O3 := hid hown; clear hown hgrow)
        | (refine step_append_own rfl (.tmp 11) (.tmp 13) 37 rfl W0.heap.size 39 i0 (.agg #[.int .i64 0, .int .i64 0, .int .i64 0, .bool false]) 4 32 Tryd.underlying37 hi hz0 hz1 hz2 rfl (by decide) _ _ _ rfl (O1.out.alloc _) ⟨_, 0, none⟩ 1 1 [.int .i64 e0, .int .i64 e1, .int .i64 e2, .bool e3] rfl rfl (fourE_new _ _ _ _ _ _) (fourE_cell _ _ _ _) L1 L2 (bal B1.out _).size ?_; intro v' w3 hown hgrow; have B3 := hid ((bal B1.out _).grown hgrow (bal B1.out _).size (fun k hk => (O1.out.lt k hk).1)); have O3 := hid hown; clear hown hgrow)
        | (go_at_call 19; refine (drop_any v l e0 e1 _ (HV.out.below (btr B0.out BD.out))).mono ?_; rintro r w1 ⟨u, rfl, hO, hb⟩; have B1 := hid (btr BD.out hb); have O1 := hid (own_lower hO BD.out.size); clear hO hb)
        | (go_at_call 19; refine (drop_any v l e0 e1 _ (HV.out.below (btr B0.out (bal BD.out _)))).mono ?_; rintro r w1 ⟨u, rfl, hO, hb⟩; have B1 := hid (btr (bal BD.out _) hb); have O1 := hid (own_lower hO (bal BD.out _).size); have N1 := hid (news_below hb); clear hO hb))
    all_goals (go_wp2_with fail; go_meet; exact ⟨_, hid rfl, hid (by rw [cellsE_snoc, List.length_append]; exact O3.out), B3⟩)
  case rest =>
    obtain ⟨m, HM, HO, HB⟩ := hcut
    have hm0 : 0 < m.length := by rw [HM.out, List.length_append]; simp
    have hm1 : m.length ≤ 101 := by rw [HM.out, List.length_append]; simp; omega
    obtain ⟨g, cap, rfl, hcap, hg, hE⟩ := own_tail HO.out hm0
    have HR := hid (show fillR l (e0, e1, e2, e3) = last4 m by rw [HM.out]; rfl)
    have HT := hid (tlb_tail (w := wc) (cap := cap - (m.length - 4)) (Nat.le_trans B0.out.size hg) (hE (m.length - 4) (by omega)))
    have HF := hid (btr B0.out HB.out)
    clear hE HM HO HB hg
    by_cases h4 : m.length ≤ 4
    · have t0 : m.length - 4 = 0 := by omega
      have t1 : (m.length : Int) - 4 ≤ 0 := by omega
      rw [t0] at HT
      go_wp2_with fail
      go_ret
      refine ⟨_, rfl, ?_, HF.out⟩
      rw [HR.out]
      exact HT.out
    · go_wp2_with fail
      go_ret
      refine ⟨_, rfl, ?_, HF.out⟩
      rw [HR.out]
      exact HT.out
end Go.Proofs.YtfpkbfhaipgibaaDoor.Mmu
