/- slices.DeleteFunc over entries that the call owns, walked, with ofPage's closure. -/
import Derived.Test.YtfpkbfhaipgibaaDoorMmuDelete
namespace Go.Proofs.YtfpkbfhaipgibaaDoor.Mmu
open Go.RowKit Go.Proofs.YtfpkbfhaipgibaaDoor.Mem Go.Proofs.YtfpkbfhaipgibaaDoor.Bw Go.Proofs.YtfpkbfhaipgibaaDoor.Nums

set_option maxRecDepth 100000 in
set_option maxHeartbeats 8000000 in
theorem delete_page (v : Value) (l : List Ent) (B h : Nat) (s p : Int) (w : World) (hB : B ≤ w.heap.size) (hh : h + 1 < B) (hO : w.ownsRow B 39 4 v l.length (cellsE l)) (hl : l.length ≤ 100) (hc : PgAt w h s p) :
    Calls Tryd.prog 53 #[v, .func (.func 85) #[] #[.pointer (some ⟨h, 0, none⟩), .pointer (some ⟨h + 1, 0, none⟩)]] w fun r w' => ∃ u, r = .returned u ∧ w'.ownsRow B 39 4 u (goneR (pg s p) l).length (cellsE (goneR (pg s p) l)) ∧ Below B w w' := by
  have hl2 : (l.length : Int) ≤ 100 := by omega
  have HX := hid (index_page v l h s p w (own_ents hO hl) hc)
  have HP := hid (fun (e : Ent) (W : World) (hb : Below B w W) => isPage e h s p W ⟨(hb.cell (p := ⟨h, 0, none⟩) (by simp; omega)).trans hc.1, (hb.cell (p := ⟨h + 1, 0, none⟩) (by simp; omega)).trans hc.2⟩)
  have HO := hid hO
  clear hO hc
  go_enter Tryd.func53, Tryd.ntmps53
  go_wp2_with fail
  refine HX.out.mono ?_
  rintro r w1 ⟨rfl, hb1⟩
  have O1 := hid (own_below HO.out hb1)
  have B1 := hid (hb1.mono hB)
  clear hb1 HX HO
  by_cases hlt : l.findIdx (pg s p) < l.length
  · have HI := hid (show ixV (pg s p) l = (l.findIdx (pg s p) : Int) by unfold ixV; rw [if_pos hlt])
    have HM := hid (Mid.start hlt)
    rw [HI.out]
    clear HI
    generalize l.findIdx (pg s p) = k at *
    have hk0 : ¬ ((k : Int) = -1) := by omega
    have hk1 : ((k : Int) == -1) = false := by simp
    obtain ⟨g, cap, rfl⟩ : ∃ g cap, v = .slice (some ⟨g, 0, none⟩) l.length cap := by
      rcases O1.out.2 with ⟨_, h1⟩ | ⟨g, cap, cur, h1, _⟩
      · omega
      · exact ⟨g, cap, h1⟩
    go_wp2_with fail
    go_loopw [5, 6] (fun a b wr => ∃ (i j : Nat) (m : List Ent), a = .int .i64 i ∧ b = .int .i64 j ∧ Hid (Mid (pg s p) l m i j) ∧ Hid (wr.ownsRow B 39 4 (.slice (some ⟨g, 0, none⟩) l.length cap) l.length (cellsE m)) ∧ Hid (Below B w wr)) (fun _ b _ => l.length - (intOf b).toNat)
    case atStart => exact ⟨k, k + 1, l, rfl, by go_num, HM, O1, B1⟩
    case round =>
      obtain ⟨i, j, m, rfl, rfl, HM, HO, HB⟩ := hrel
      have hij := HM.out.lt
      have hjl := HM.out.le
      have HL := hid HM.out.len
      have hi3 : ¬ ((i : Int) < 0) := by omega
      have hj3 : ¬ ((j : Int) < 0) := by omega
      have hil : (i : Int) < (l.length : Int) := by omega
      by_cases hj : j < l.length
      · have hj2 : (j : Int) < (l.length : Int) := by omega
        have HJ := hid (cellsE_at m j (by rw [HL.out]; exact hj))
        have HS := hid (show pg s p l[j] = true → Mid (pg s p) l m i (j + 1) from HM.out.skip hj)
        have HK := hid (show pg s p l[j] = false → Mid (pg s p) l (m.set i l[j]) (i + 1) (j + 1) from HM.out.keep hj)
        have HA := hid (HM.out.at hj (by rw [HL.out]; exact hj))
        rw [HA.out] at HJ
        clear HA
        generalize l[j] = e at HJ HS HK
        obtain ⟨x, y, z, u⟩ := e
        have c0 := (HO.out.cellAt (j * 4) (by omega)).trans HJ.out.1
        have c1 := (HO.out.cellAt (j * 4 + 1) (by omega)).trans HJ.out.2.1
        have c2 := (HO.out.cellAt (j * 4 + 2) (by omega)).trans HJ.out.2.2.1
        have c3 := (HO.out.cellAt (j * 4 + 3) (by omega)).trans HJ.out.2.2.2
        simp only at c0 c1 c2 c3
        have hBr : B ≤ wr.heap.size := Nat.le_trans hB HB.out.size
        obtain ⟨W, hW⟩ : ∃ W, W = wr.alloc (.cells #[.int .i64 x, .int .i64 y, .int .i64 z, .bool u] 39) := ⟨_, rfl⟩
        have BW := hid (show Below B w W by rw [hW]; exact HB.out.alloc hBr _)
        have XW := hid (show ∀ o, W.cell? ⟨wr.heap.size, o, none⟩ = (#[.int .i64 x, .int .i64 y, .int .i64 z, .bool u] : Array Value)[o]? by rw [hW]; exact cells_new wr _ _)
        have OW := hid (show W.ownsRow B 39 4 (.slice (some ⟨g, 0, none⟩) l.length cap) l.length (cellsE m) by rw [hW]; exact HO.out.alloc _)
        have sW : W.heap.size = wr.heap.size + 1 := by rw [hW]; simp
        go_wp2_with fail
        rw [← hW]
        clear hW c0 c1 c2 c3 HJ
        refine (HP.out (x, y, z, u) W BW.out).mono ?_
        rintro r w2 ⟨rfl, hb2⟩
        have B2 := hid (BW.out.trans (hb2.mono (by omega)))
        have O2 := hid (own_below OW.out hb2)
        have X2 := cells_next XW.out (by omega) hb2
        have hBs := hb2.size
        clear hb2 BW XW OW
        cases hpe : pg s p (x, y, z, u) with
        | true =>
          have HN := hid (HS.out hpe)
          go_wp2_with fail
          exact ⟨⟨i, j + 1, m, rfl, by go_num, HN, O2, B2⟩, by simp [intOf]; omega⟩
        | false =>
          have HN := hid (HK.out hpe)
          have z0 := O2.out.frozenAt (i * 4)
          have z1 := O2.out.frozenAt (i * 4 + 1)
          have z2 := O2.out.frozenAt (i * 4 + 2)
          have z3 := O2.out.frozenAt (i * 4 + 3)
          have HI4 := hid (cellsE_at m i (by rw [HL.out]; omega))
          have d0 := (O2.out.cellAt (i * 4) (by omega)).trans HI4.out.1
          have d1 := (O2.out.cellAt (i * 4 + 1) (by omega)).trans HI4.out.2.1
          have d2 := (O2.out.cellAt (i * 4 + 2) (by omega)).trans HI4.out.2.2.1
          have d3 := (O2.out.cellAt (i * 4 + 3) (by omega)).trans HI4.out.2.2.2
          go_wp2_with fail
          have hgB : B ≤ g := (O2.out.lt g rfl).1
          refine ⟨⟨i + 1, j + 1, m.set i (x, y, z, u), by go_num, by go_num, HN, hid ?_, hid ((((B2.out.setCell hgB _).setCell hgB _).setCell hgB _).setCell hgB _)⟩, by simp [intOf]; omega⟩
          rw [← cellsE_set m i (by rw [HL.out]; omega)]
          exact ((((O2.out.stored _ _).1.stored _ _).1.stored _ _).1.stored _ _).1
      · obtain rfl : j = l.length := by omega
        have hge : ¬ ((l.length : Int) < (l.length : Int)) := by omega
        have HD := hid HM.out.done
        have hcap : l.length ≤ cap := by
          rcases HO.out.2 with ⟨h1, _⟩ | ⟨_, _, _, h1, _, _, h2, _⟩
          · cases h1
          · cases h1; exact h2
        have hcap2 : (l.length : Int) ≤ (cap : Int) := by omega
        have hcap3 : (i : Int) ≤ (cap : Int) := by omega
        have hile : (i : Int) ≤ (l.length : Int) := by omega
        obtain ⟨w3, hrun, hO3, hG3⟩ := clear_own HO.out i hij 0 (cap - i)
        have O3 := hid hO3
        have hBr : B ≤ wr.heap.size := Nat.le_trans hB HB.out.size
        have B3 := hid (HB.out.grown hG3 hBr (fun k hk => (HO.out.lt k hk).1))
        have HL2 := hid (show (goneR (pg s p) l).length = i by rw [HD.out, List.length_take, HL.out]; omega)
        clear hO3 hG3 hBr
        go_wp2_with fail
        go_ret
        refine ⟨_, rfl, ?_, B3.out⟩
        have := O3.out
        rw [cellsE_take, ← HD.out] at this
        rw [HL2.out]
        exact this
  · have HI := hid (show ixV (pg s p) l = -1 by unfold ixV; rw [if_neg hlt])
    have HG := hid (gone_all hlt)
    rw [HI.out]
    clear hlt
    go_wp2_with fail
    go_ret
    refine ⟨_, rfl, ?_, B1.out⟩
    rw [HG.out]
    exact O1.out
end Go.Proofs.YtfpkbfhaipgibaaDoor.Mmu
