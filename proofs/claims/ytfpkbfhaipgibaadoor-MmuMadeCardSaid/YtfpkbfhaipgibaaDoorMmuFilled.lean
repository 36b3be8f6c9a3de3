/- keyholdref.Filled walked. -/
import Derived.Test.YtfpkbfhaipgibaaDoorMmuFill
namespace Go.Proofs.YtfpkbfhaipgibaaDoor.Mmu
open Go.RowKit Go.Proofs.YtfpkbfhaipgibaaDoor.Mem Go.Proofs.YtfpkbfhaipgibaaDoor.Bw Go.Proofs.YtfpkbfhaipgibaaDoor.Nums

def lenS : Value → Nat
  | .slice _ n _ => n
  | _ => 0
set_option maxRecDepth 100000 in
set_option maxHeartbeats 16000000 in
theorem filled_any (v : Value) (l : List Ent) (e0 : Int) (e1 : Int) (e2 : Int) (e3 : Bool) (w : World) (hv : TlbIn w v l) :
    Calls Tryd.prog 22 #[v, .agg #[.int .i64 e0, .int .i64 e1, .int .i64 e2, .bool e3]] w fun r w' => ∃ u, r = .returned u ∧ TlbNew w.heap.size w' u (fillR l (e0, e1, e2, e3)) ∧ Below w.heap.size w w' := by
  obtain ⟨i0, hi, hz0, hz1, hz2⟩ := info_get infoEnt
  have hl : l.length ≤ 100 := by obtain ⟨_, _, _, _, _, _, _, h⟩ := hv; exact h
  have HV := hid hv
  clear hv
  have B0 := hid (bal (Below.refl w.heap.size w) (.cells #[.int .i64 e0, .int .i64 e1, .int .i64 e2, .bool e3] 39))
  have C0 := hid (cells_new w #[.int .i64 e0, .int .i64 e1, .int .i64 e2, .bool e3] 39)
  have S0 := hid (show (w.alloc (.cells #[.int .i64 e0, .int .i64 e1, .int .i64 e2, .bool e3] 39)).heap.size = w.heap.size + 1 by simp)
  obtain ⟨W0, hW⟩ : ∃ W, W = w.alloc (.cells #[.int .i64 e0, .int .i64 e1, .int .i64 e2, .bool e3] 39) := ⟨_, rfl⟩
  rw [← hW] at B0 C0 S0
  have HW := hid hW
  have L0 := drop_len l e0 e1
  have L1 : (dropR l e0 e1).length + 1 ≤ maxLen := by unfold maxLen; omega
  have L2 : ((dropR l e0 e1).length + 1) * 32 ≤ 140737488355328 := by omega
  clear hW
  go_enter Tryd.func22, Tryd.ntmps22
  go_upto_region 1 with fail
  rw [← HW.out]
  go_cut [5] (fun x wx => ∃ m : List Ent, Hid (m = dropR l e0 e1 ++ [(e0, e1, e2, e3)]) ∧ Hid (wx.ownsRow W0.heap.size 39 4 x m.length (cellsE m)) ∧ Hid (Below W0.heap.size W0 wx))
  case first =>
    have BD := hid (below_drew W0 1)
    have KS := hid (show ∀ W, Below W0.heap.size W0 W → W.cell? ⟨w.heap.size, 0, none⟩ = some (.int .i64 e0) ∧ W.cell? ⟨w.heap.size, 1, none⟩ = some (.int .i64 e1) ∧ W.cell? ⟨w.heap.size, 2, none⟩ = some (.int .i64 e2) ∧ W.cell? ⟨w.heap.size, 3, none⟩ = some (.bool e3) from fun W hb => by
      have hs : w.heap.size < W0.heap.size := by have := S0.out; omega
      exact ⟨(hb.cell hs).trans (C0.out 0), (hb.cell hs).trans (C0.out 1), (hb.cell hs).trans (C0.out 2), (hb.cell hs).trans (C0.out 3)⟩)
    go_region_held3 (fun W => W.cell? ⟨w.heap.size, 0, none⟩ = some (.int .i64 e0) ∧ W.cell? ⟨w.heap.size, 1, none⟩ = some (.int .i64 e1) ∧ W.cell? ⟨w.heap.size, 2, none⟩ = some (.int .i64 e2) ∧ W.cell? ⟨w.heap.size, 3, none⟩ = some (.bool e3))
      (first
        | exact KS.out _ B3.out
        | exact KS.out _ (bal B1.out _)
        | exact KS.out _ B1.out
        | exact KS.out _ (bal BD.out _)
        | exact KS.out _ BD.out)
      (first
        | (refine step_append_own rfl (.tmp 11) (.tmp 13) 37 rfl W0.heap.size 39 i0 (.agg #[.int .i64 0, .int .i64 0, .int .i64 0, .bool false]) 4 32 Tryd.underlying37 hi hz0 hz1 hz2 rfl (by decide) _ _ _ rfl O1.out ⟨_, 0, none⟩ 1 1 [.int .i64 e0, .int .i64 e1, .int .i64 e2, .bool e3] rfl rfl N1.out (fourE_cell _ _ _ _) L1 L2 B1.out.size ?_; intro v' w3 hown hgrow; have B3 := hid (B1.out.grown hgrow B1.out.size (fun k hk => (O1.out.lt k hk).1)); have O3 := hid hown; clear hown hgrow)
        | (refine step_append_own rfl (.tmp 11) (.tmp 13) 37 rfl W0.heap.size 39 i0 (.agg #[.int .i64 0, .int .i64 0, .int .i64 0, .bool false]) 4 32 Tryd.underlying37 hi hz0 hz1 hz2 rfl (by decide) _ _ _ rfl (O1.out.alloc _) ⟨_, 0, none⟩ 1 1 [.int .i64 e0, .int .i64 e1, .int .i64 e2, .bool e3] rfl rfl (fourE_new _ _ _ _ _ _) (fourE_cell _ _ _ _) L1 L2 (bal B1.out _).size ?_; intro v' w3 hown hgrow; have B3 := hid ((bal B1.out _).grown hgrow (bal B1.out _).size (fun k hk => (O1.out.lt k hk).1)); have O3 := hid hown; clear hown hgrow)
        | (go_at_call 20; refine (dropped_any v l e0 e1 _ (HV.out.below (btr B0.out BD.out))).mono ?_; rintro r w1 ⟨u, rfl, hO, hb⟩; have B1 := hid (btr BD.out hb); have O1 := hid (own_lower hO BD.out.size); clear hO hb)
        | (go_at_call 20; refine (dropped_any v l e0 e1 _ (HV.out.below (btr B0.out (bal BD.out _)))).mono ?_; rintro r w1 ⟨u, rfl, hO, hb⟩; have B1 := hid (btr (bal BD.out _) hb); have O1 := hid (own_lower hO (bal BD.out _).size); have N1 := hid (news_below hb); clear hO hb))
    all_goals (go_wp2_with fail; go_meet; exact ⟨_, hid rfl, hid (by rw [cellsE_snoc, List.length_append]; exact O3.out), B3⟩)
  case rest =>
    obtain ⟨m, HM, HO, HB⟩ := hcut
    have S1 := hid (show w.heap.size < wc.heap.size by have := S0.out; have := HB.out.size; omega)
    have D0 := hid (fun o => (HB.out.cell (p := ⟨w.heap.size, o, none⟩) (by have := S0.out; simp only; omega)).trans (C0.out o))
    have c1 : wc.cell? ⟨w.heap.size, 1, none⟩ = some (.int .i64 e1) := D0.out 1
    have B01 := hid (btr B0.out HB.out)
    go_upto_if 17 with fail
    go_cut [5] (fun x wx => ∃ m : List Ent, Hid (m = dropR l e0 e1 ++ [(e0, e1, e2, e3)]) ∧ Hid (wx.ownsRow W0.heap.size 39 4 x m.length (cellsE m)) ∧ Hid (Below W0.heap.size W0 wx))
    case first =>
      by_cases he : e1 < 0
      · have N0 := drop_len l e0 (-1)
        have M1 : (dropR l e0 (-1)).length + 1 ≤ maxLen := by unfold maxLen; omega
        have M2 : ((dropR l e0 (-1)).length + 1) * 32 ≤ 140737488355328 := by omega
        go_wp2_with fail
        have BD := hid (below_drew wc 1)
        have KS := hid (show ∀ W, Below wc.heap.size wc W → W.cell? ⟨w.heap.size, 0, none⟩ = some (.int .i64 e0) ∧ W.cell? ⟨w.heap.size, 1, none⟩ = some (.int .i64 e1) ∧ W.cell? ⟨w.heap.size, 2, none⟩ = some (.int .i64 e2) ∧ W.cell? ⟨w.heap.size, 3, none⟩ = some (.bool e3) from fun W hb => by
          have hs : w.heap.size < wc.heap.size := by have := S1.out; omega
          exact ⟨(hb.cell hs).trans (D0.out 0), (hb.cell hs).trans (D0.out 1), (hb.cell hs).trans (D0.out 2), (hb.cell hs).trans (D0.out 3)⟩)
        go_region_held3 (fun W => W.cell? ⟨w.heap.size, 0, none⟩ = some (.int .i64 e0) ∧ W.cell? ⟨w.heap.size, 1, none⟩ = some (.int .i64 e1) ∧ W.cell? ⟨w.heap.size, 2, none⟩ = some (.int .i64 e2) ∧ W.cell? ⟨w.heap.size, 3, none⟩ = some (.bool e3))
          (first
            | exact KS.out _ B3.out
            | exact KS.out _ (bal B1.out _)
            | exact KS.out _ B1.out
            | exact KS.out _ (bal BD.out _)
            | exact KS.out _ BD.out)
          (first
            | (refine step_append_own rfl (.tmp 21) (.tmp 23) 37 rfl wc.heap.size 39 i0 (.agg #[.int .i64 0, .int .i64 0, .int .i64 0, .bool false]) 4 32 Tryd.underlying37 hi hz0 hz1 hz2 rfl (by decide) _ _ _ rfl O1.out ⟨_, 0, none⟩ 1 1 [.int .i64 e0, .int .i64 e1, .int .i64 e2, .bool e3] rfl rfl N1.out (fourE_cell _ _ _ _) M1 M2 B1.out.size ?_; intro v' w3 hown hgrow; have B3 := hid (B1.out.grown hgrow B1.out.size (fun k hk => (O1.out.lt k hk).1)); have O3 := hid hown; clear hown hgrow)
            | (refine step_append_own rfl (.tmp 21) (.tmp 23) 37 rfl wc.heap.size 39 i0 (.agg #[.int .i64 0, .int .i64 0, .int .i64 0, .bool false]) 4 32 Tryd.underlying37 hi hz0 hz1 hz2 rfl (by decide) _ _ _ rfl (O1.out.alloc _) ⟨_, 0, none⟩ 1 1 [.int .i64 e0, .int .i64 e1, .int .i64 e2, .bool e3] rfl rfl (fourE_new _ _ _ _ _ _) (fourE_cell _ _ _ _) M1 M2 (bal B1.out _).size ?_; intro v' w3 hown hgrow; have B3 := hid ((bal B1.out _).grown hgrow (bal B1.out _).size (fun k hk => (O1.out.lt k hk).1)); have O3 := hid hown; clear hown hgrow)
            | (go_at_call 20; refine (dropped_any v l e0 (-1) _ (HV.out.below (btr B01.out BD.out))).mono ?_; rintro r w1 ⟨u, rfl, hO, hb⟩; have B1 := hid (btr BD.out hb); have O1 := hid (own_lower hO BD.out.size); clear hO hb)
            | (go_at_call 20; refine (dropped_any v l e0 (-1) _ (HV.out.below (btr B01.out (bal BD.out _)))).mono ?_; rintro r w1 ⟨u, rfl, hO, hb⟩; have B1 := hid (btr (bal BD.out _) hb); have O1 := hid (own_lower hO (bal BD.out _).size); have N1 := hid (news_below hb); clear hO hb))
        all_goals (go_wp2_with fail; go_meet; exact ⟨dropR l e0 (-1) ++ [(e0, e1, e2, e3)], hid (by rw [drop_neg l e0 e1 he]), hid (by rw [cellsE_snoc, List.length_append]; exact own_lower O3.out HB.out.size), hid (btr HB.out B3.out)⟩)
      · go_wp2_with fail
        go_meet
        exact ⟨_, HM, HO, HB⟩
    case rest =>
      clear HM HO HB B01 D0 S1 c1 m
      obtain ⟨m, HM, HO, HB⟩ := hcut
      have hm0 : 0 < m.length := by rw [HM.out, List.length_append]; simp
      have hm1 : m.length ≤ 101 := by rw [HM.out, List.length_append]; simp; omega
      obtain ⟨g, cap, rfl, hcap, hg, hE⟩ := own_tail HO.out hm0
      have HR := hid (show fillR l (e0, e1, e2, e3) = last4 m by rw [HM.out]; rfl)
      have HE := hid (show ∀ c, TlbNew w.heap.size wc (.slice (some ⟨g, (m.length - 4) * 4, none⟩) (m.length - (m.length - 4)) c) (last4 m) from fun c => tlb_tail (Nat.le_trans B0.out.size hg) (hE (m.length - 4) (by omega)))
      have HF := hid (btr B0.out HB.out)
      clear hE HM HO HB hg
      go_wp2_with fail
      go_loopw [5] (fun x wr => ∃ k : Nat, k ≤ m.length - 4 ∧ x = .slice (some ⟨g, k * 4, none⟩) (m.length - k) (cap - k) ∧ Hid (wc = wr)) (fun x _ => lenS x)
      case atStart => exact ⟨0, by omega, by simp, hid rfl⟩
      case round =>
        obtain ⟨k, hk, rfl, hW1⟩ := hrel
        obtain rfl := hW1.out
        clear hW1
        by_cases hlt : 4 < m.length - k
        · have hlt2 : 4 < ((m.length - k : Nat) : Int) := by omega
          have hc2 : m.length - k ≤ cap - k := by omega
          have e1 : k * 4 + 4 = (k + 1) * 4 := by omega
          have e2 : m.length - k - 1 = m.length - (k + 1) := by omega
          have e3 : cap - k - 1 = cap - (k + 1) := by omega
          have E := hid (show (Value.slice (some ⟨g, k * 4 + 4, none⟩) (m.length - k - 1) (cap - k - 1)) = Value.slice (some ⟨g, (k + 1) * 4, none⟩) (m.length - (k + 1)) (cap - (k + 1)) by rw [e1, e2, e3])
          clear e1 e2 e3
          go_wp2_with fail
          exact ⟨⟨k + 1, by omega, E.out, hid trivial⟩, by simp only [lenS]; omega⟩
        · obtain rfl : k = m.length - 4 := by omega
          have hlt2 : ¬ 4 < ((m.length - (m.length - 4) : Nat) : Int) := by omega
          go_wp2_with fail
          go_ret
          refine ⟨_, rfl, ?_, HF.out⟩
          rw [HR.out]
          exact HE.out _
end Go.Proofs.YtfpkbfhaipgibaaDoor.Mmu
