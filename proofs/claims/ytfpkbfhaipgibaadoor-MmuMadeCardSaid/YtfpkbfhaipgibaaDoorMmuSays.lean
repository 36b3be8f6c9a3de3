/- keyholdlaw.MmuSays, walked. -/
import Derived.Test.YtfpkbfhaipgibaaDoorMmuLook
import Derived.Test.YtfpkbfhaipgibaaDoorMmuSame
import Derived.Test.YtfpkbfhaipgibaaDoorTell
namespace Go.Proofs.YtfpkbfhaipgibaaDoor.Mmu
open Go.RowKit Go.Proofs.YtfpkbfhaipgibaaDoor.Mem Go.Proofs.YtfpkbfhaipgibaaDoor.Bw Go.Proofs.YtfpkbfhaipgibaaDoor.Nums

theorem hugeRam_any (q q2 : Option Addr) (n m c c2 : Nat) (w : World) (hn : n ≤ 9223372036854775807) (hm : m ≤ 9223372036854775807) :
    Calls Tryd.prog 11 #[.slice q n c, .slice q2 m c2] w fun e w' => e = .returned (.bool (decide (600 < n ∨ 50 < m))) ∧ w = w' := by
  have h63 : (n : Int) ≤ 9223372036854775807 := by omega
  have h64 : (m : Int) ≤ 9223372036854775807 := by omega
  by_cases h1 : 600 < n
  · have t1 : (600 : Int) < (n : Int) := by omega
    go_enter Tryd.func11, Tryd.ntmps11
    go_wp2_with fail
    go_ret
    exact ⟨ret_bool (by rw [decide_eq_true (Or.inl h1)]), rfl⟩
  · have t1 : ¬ (600 : Int) < (n : Int) := by omega
    go_enter Tryd.func11, Tryd.ntmps11
    go_wp2_with fail
    go_ret
    exact ⟨ret_bool (by rw [Bool.eq_iff_iff]; simp; omega), rfl⟩
theorem own_ram {w : World} {B : Nat} {v : Value} {zs : List Int} (h : w.ownsRow B 3 1 v zs.length (ints (wordsL zs))) (hl : zs.length ≤ 600) : RamAt w v (wordsL zs) := by
  have e : (wordsL zs).length = zs.length := by unfold wordsL; simp
  refine ⟨?_, wordsL_word zs, by omega⟩
  rcases h.2 with ⟨rfl, h1⟩ | ⟨g, cap, cur, rfl, h1, _⟩
  · exact ⟨none, 0, 0, by rw [e, h1], fun k => by omega, fun j hj => by omega⟩
  · refine ⟨some ⟨g, 0, none⟩, g, cap, by rw [e], fun _ => rfl, fun j hj => ?_⟩
    rw [Nat.zero_add, h.cellAt j (by omega)]
    unfold ints
    rw [List.getElem?_map, List.getElem?_eq_getElem hj]
    rfl
theorem tells_errV (w : World) (k : Int) : Tells w (errV k) k (-1) := by
  by_cases hk : k = 0
  · subst hk
    rw [errV0]
    exact .inl ⟨rfl, rfl, rfl⟩
  · rw [errVk hk]
    exact .inr (.inl ⟨rfl, rfl⟩)
theorem err_any (n : Int) (w : World) :
    Calls Tryd.prog 15 #[.int .i64 n] w fun e w' => e = .returned (.agg #[.int .i64 n, .int .i64 (-1)]) ∧ Below w.heap.size w w' := by
  go_enter Tryd.func15, Tryd.ntmps15
  go_wp2
  refine bodyPost_ret (v := .agg #[.int .i64 n, .int .i64 (-1)]) (by simp [results, Tryd.results15, go_sem]) rfl ⟨rfl, ?_⟩
  exact bal (Below.refl _ _) _
set_option maxRecDepth 100000 in
set_option maxHeartbeats 2000000 in
theorem mmuSays_main (u v : Value) (rs : List Int) (l : List Ent) (s a : Int) (wr : Bool) (e0 e1 e2 : Int) (e3 : Bool) (w : World) (hu : RawIn w u rs) (hv : TlbIn w v l) (hg : ETok w) (hr : rs.length ≤ 600) (hl : l.length ≤ 50) :
    Calls Tryd.prog 4 #[u, v, .int .i64 s, .int .i64 a, .bool wr, .agg #[.int .i64 e0, .int .i64 e1, .int .i64 e2, .bool e3]] w fun r w' => r = .returned (.bool true) ∧ Below w.heap.size w w' := by
  have HU := hid hu
  have HV := hid hv
  have HG := hid hg
  obtain ⟨q0, b0, f0, c0, rfl, -, -, -⟩ := hu
  obtain ⟨q1, b1, f1, c1, rfl, -, -, -⟩ := hv
  have HN := hid (show decide (600 < rs.length ∨ 50 < l.length) = false from decide_eq_false (by omega))
  have B0 := hid (bal (Below.refl w.heap.size w) (.cells #[.int .i64 e0, .int .i64 e1, .int .i64 e2, .bool e3] 39))
  have C0 := hid (cells_new w #[.int .i64 e0, .int .i64 e1, .int .i64 e2, .bool e3] 39)
  clear hg
  go_enter Tryd.func4, Tryd.ntmps4
  go_wp2_with fail
  refine (hugeRam_any _ _ _ _ _ _ _ (by omega) (by omega)).mono ?_
  rintro r w0 ⟨rfl, rfl⟩
  rw [HN.out]
  go_wp2_with fail
  generalize World.alloc _ _ = W0 at B0 C0 ⊢
  refine (words_any _ rs W0 (HU.out.below B0.out) (by omega)).mono ?_
  rintro r w1 ⟨u1, rfl, hO, hb1⟩
  have BW := hid (btr B0.out hb1)
  have R1 := hid (own_ram hO hr)
  have V1 := hid (HV.out.below BW.out)
  have G1 := hid (HG.out.below BW.out)
  have C1 := hid (cells_next C0.out (World.block_lt_of_cell? W0 ⟨w.heap.size, 0, none⟩ (C0.out 0)) hb1)
  clear hO hb1 B0 C0 HU HV HG HN
  generalize wordsL rs = zs at R1
  go_wp2_with fail
  refine (walked_any u1 zs s a w1 R1.out).mono ?_
  rintro r wx ⟨rfl, rfl⟩
  go_wp2_with fail
  refine (walk_any u1 zs s a w1 R1.out).mono ?_
  rintro r wx ⟨rfl, rfl⟩
  generalize walkR zs s a = f
  obtain ⟨t, b, k⟩ := f
  simp only
  go_wp2_with fail
  refine (err_any k w1).mono ?_
  rintro r w2 ⟨rfl, B2⟩
  have B2 := hid B2
  go_wp2_with fail
  refine (is_yes _ k (-1) w2 (G1.out.below B2.out) (tells_errV _ k)).mono ?_
  rintro r w3 ⟨rfl, hb⟩
  have B3 := hid (btr B2.out hb)
  clear hb B2
  go_wp2_with fail
  refine (find_any _ l s a w3 (V1.out.below B3.out)).mono ?_
  rintro r w4 ⟨rfl, hb⟩
  have B4 := hid (btr B3.out hb)
  clear hb B3
  obtain ⟨g, hg⟩ : ∃ g, findR l s a = g := ⟨_, rfl⟩
  rw [hg]
  obtain ⟨⟨x, y, z, d⟩, ok⟩ := g
  have HF := hid hg
  clear hg
  unfold foundV
  simp only
  have B5 := hid (bal B4.out (.cells #[.int .i64 x, .int .i64 y, .int .i64 z, .bool d] 39))
  have X5 := hid (cells_new w4 #[.int .i64 x, .int .i64 y, .int .i64 z, .bool d] 39)
  clear B4
  go_wp2_with fail
  generalize World.alloc _ _ = W5 at B5 X5 ⊢
  refine (found_any _ l s a W5 (V1.out.below B5.out)).mono ?_
  rintro r w6 ⟨rfl, hb⟩
  rw [HF.out]
  have B6 := hid (bal (btr B5.out hb) (.cells #[.int .i64 x, .int .i64 y, .int .i64 z, .bool d] 39))
  have X6 := hid (cells_alloc (cells_next X5.out (World.block_lt_of_cell? W5 ⟨w4.heap.size, 0, none⟩ (X5.out 0)) hb) (Nat.lt_of_lt_of_le (World.block_lt_of_cell? W5 ⟨w4.heap.size, 0, none⟩ (X5.out 0)) hb.size) (.cells #[.int .i64 x, .int .i64 y, .int .i64 z, .bool d] 39))
  have Y6 := hid (cells_new w6 #[.int .i64 x, .int .i64 y, .int .i64 z, .bool d] 39)
  clear hb B5 X5
  unfold foundV
  simp only
  go_upto_region 10 with fail
  generalize World.alloc _ _ = W6 at B6 X6 Y6 ⊢
  have C6 := hid (cells_next C1.out (World.block_lt_of_cell? w1 ⟨w.heap.size, 0, none⟩ (C1.out 0)) B6.out)
  have KS := hid (show ∀ W, Below W6.heap.size W6 W → W.cell? ⟨w.heap.size, 0, none⟩ = some (.int .i64 e0) ∧ W.cell? ⟨w.heap.size, 1, none⟩ = some (.int .i64 e1) ∧ W.cell? ⟨w.heap.size, 2, none⟩ = some (.int .i64 e2) ∧ W.cell? ⟨w.heap.size, 3, none⟩ = some (.bool e3) ∧ W.cell? ⟨w4.heap.size, 0, none⟩ = some (.int .i64 x) ∧ W.cell? ⟨w4.heap.size, 1, none⟩ = some (.int .i64 y) ∧ W.cell? ⟨w4.heap.size, 2, none⟩ = some (.int .i64 z) ∧ W.cell? ⟨w4.heap.size, 3, none⟩ = some (.bool d) ∧ W.cell? ⟨w6.heap.size, 0, none⟩ = some (.int .i64 x) ∧ W.cell? ⟨w6.heap.size, 1, none⟩ = some (.int .i64 y) ∧ W.cell? ⟨w6.heap.size, 2, none⟩ = some (.int .i64 z) ∧ W.cell? ⟨w6.heap.size, 3, none⟩ = some (.bool d) from fun W hb =>
    ⟨(hb.cell (World.block_lt_of_cell? W6 ⟨w.heap.size, 0, none⟩ (C6.out 0))).trans (C6.out 0), (hb.cell (World.block_lt_of_cell? W6 ⟨w.heap.size, 1, none⟩ (C6.out 1))).trans (C6.out 1), (hb.cell (World.block_lt_of_cell? W6 ⟨w.heap.size, 2, none⟩ (C6.out 2))).trans (C6.out 2), (hb.cell (World.block_lt_of_cell? W6 ⟨w.heap.size, 3, none⟩ (C6.out 3))).trans (C6.out 3), (hb.cell (World.block_lt_of_cell? W6 ⟨w4.heap.size, 0, none⟩ (X6.out 0))).trans (X6.out 0), (hb.cell (World.block_lt_of_cell? W6 ⟨w4.heap.size, 1, none⟩ (X6.out 1))).trans (X6.out 1), (hb.cell (World.block_lt_of_cell? W6 ⟨w4.heap.size, 2, none⟩ (X6.out 2))).trans (X6.out 2), (hb.cell (World.block_lt_of_cell? W6 ⟨w4.heap.size, 3, none⟩ (X6.out 3))).trans (X6.out 3), (hb.cell (World.block_lt_of_cell? W6 ⟨w6.heap.size, 0, none⟩ (Y6.out 0))).trans (Y6.out 0), (hb.cell (World.block_lt_of_cell? W6 ⟨w6.heap.size, 1, none⟩ (Y6.out 1))).trans (Y6.out 1), (hb.cell (World.block_lt_of_cell? W6 ⟨w6.heap.size, 2, none⟩ (Y6.out 2))).trans (Y6.out 2), (hb.cell (World.block_lt_of_cell? W6 ⟨w6.heap.size, 3, none⟩ (Y6.out 3))).trans (Y6.out 3)⟩)
  have FV := hid (show ∀ W, Below W6.heap.size W6 W → TlbIn W (.slice q1 l.length c1) l from fun W hb => (V1.out.below B6.out).below hb)
  have BE : Hid (Below W6.heap.size W6 W6.drew) := hid (below_drew W6 1)
  have HL : (dropR l s a).length ≤ 100 := Nat.le_trans (drop_len l s a) (by omega)
  clear X6 Y6 C6
  go_cut [108] (fun r wx => Hid (r = .bool false) ∧ Hid (Below W6.heap.size W6 wx))
  case first =>
    go_region_held3 (fun W => W.cell? ⟨w.heap.size, 0, none⟩ = some (.int .i64 e0) ∧ W.cell? ⟨w.heap.size, 1, none⟩ = some (.int .i64 e1) ∧ W.cell? ⟨w.heap.size, 2, none⟩ = some (.int .i64 e2) ∧ W.cell? ⟨w.heap.size, 3, none⟩ = some (.bool e3) ∧ W.cell? ⟨w4.heap.size, 0, none⟩ = some (.int .i64 x) ∧ W.cell? ⟨w4.heap.size, 1, none⟩ = some (.int .i64 y) ∧ W.cell? ⟨w4.heap.size, 2, none⟩ = some (.int .i64 z) ∧ W.cell? ⟨w4.heap.size, 3, none⟩ = some (.bool d) ∧ W.cell? ⟨w6.heap.size, 0, none⟩ = some (.int .i64 x) ∧ W.cell? ⟨w6.heap.size, 1, none⟩ = some (.int .i64 y) ∧ W.cell? ⟨w6.heap.size, 2, none⟩ = some (.int .i64 z) ∧ W.cell? ⟨w6.heap.size, 3, none⟩ = some (.bool d))
      (first
        | (with_reducible exact KS.out _ A6.out)
        | (with_reducible exact KS.out _ A5.out)
        | (with_reducible exact KS.out _ A4.out)
        | (with_reducible exact KS.out _ A3.out)
        | (with_reducible exact KS.out _ A2.out)
        | (with_reducible exact KS.out _ A1.out)
        | (with_reducible exact KS.out _ BE.out))
      (first
        | (go_at_call 18; refine (sameTlb_yes _ _ (fillR l (e0, e1, e2, e3)) _ TF2.out TG2.out).mono ?_; rintro r w12 ⟨rfl, hb⟩; have A6 : Hid (Below W6.heap.size W6 w12) := hid (btr A5.out hb); clear hb)
        | (go_at_call 18; refine (sameTlb_yes _ _ (dropR l s a) _ TA2.out TB2.out).mono ?_; rintro r w9 ⟨rfl, hb⟩; have A3 : Hid (Below W6.heap.size W6 w9) := hid (btr A2.out hb); clear hb TA2 TB2)
        | (go_at_call 19; refine (drop_any _ l s a _ (FV.out _ A1.out)).mono ?_; rintro r w8 ⟨u8, rfl, hO, hb⟩; have A2 : Hid (Below W6.heap.size W6 w8) := hid (btr A1.out hb); have TA2 := hid (own_ents hO HL); have TB2 := hid (TB.out.below hb); clear hO hb)
        | (go_at_call 20; refine (dropped_any _ l s a _ (FV.out _ A1.out)).mono ?_; rintro r w8 ⟨u8, rfl, hO, hb⟩; have A2 : Hid (Below W6.heap.size W6 w8) := hid (btr A1.out hb); have TB2 := hid (own_ents hO HL); have TA2 := hid (TA.out.below hb); clear hO hb)
        | (go_at_call 19; refine (drop_any _ l s a _ (FV.out _ BE.out)).mono ?_; rintro r w7 ⟨u7, rfl, hO, hb⟩; have A1 : Hid (Below W6.heap.size W6 w7) := hid (btr BE.out hb); have TA := hid (own_ents hO HL); clear hO hb)
        | (go_at_call 20; refine (dropped_any _ l s a _ (FV.out _ BE.out)).mono ?_; rintro r w7 ⟨u7, rfl, hO, hb⟩; have A1 : Hid (Below W6.heap.size W6 w7) := hid (btr BE.out hb); have TB := hid (own_ents hO HL); clear hO hb)
        | (go_at_call 21; refine (fill_any _ l e0 e1 e2 e3 _ (FV.out _ A4.out)).mono ?_; rintro r w11 ⟨u11, rfl, hO, hb⟩; have A5 : Hid (Below W6.heap.size W6 w11) := hid (btr A4.out hb); have TF2 := hid hO.tlb; have TG2 := hid (TG.out.below hb); clear hO hb)
        | (go_at_call 22; refine (filled_any _ l e0 e1 e2 e3 _ (FV.out _ A4.out)).mono ?_; rintro r w11 ⟨u11, rfl, hO, hb⟩; have A5 : Hid (Below W6.heap.size W6 w11) := hid (btr A4.out hb); have TG2 := hid hO.tlb; have TF2 := hid (TF.out.below hb); clear hO hb)
        | (go_at_call 21; refine (fill_any _ l e0 e1 e2 e3 _ (FV.out _ A3.out)).mono ?_; rintro r w10 ⟨u10, rfl, hO, hb⟩; have A4 : Hid (Below W6.heap.size W6 w10) := hid (btr A3.out hb); have TF := hid hO.tlb; clear hO hb)
        | (go_at_call 22; refine (filled_any _ l e0 e1 e2 e3 _ (FV.out _ A3.out)).mono ?_; rintro r w10 ⟨u10, rfl, hO, hb⟩; have A4 : Hid (Below W6.heap.size W6 w10) := hid (btr A3.out hb); have TG := hid hO.tlb; clear hO hb))
    all_goals (go_wp2_with fail; go_meet; exact ⟨hid rfl, A6⟩)
  case rest =>
    obtain ⟨hx, BX⟩ := hcut
    obtain rfl := hx.out
    have BY := hid (btr B6.out BX.out)
    clear BX B6 BE FV KS HF
    go_wp2_with fail
    refine (looked_any u1 _ zs l s a wr wc (R1.out.below BY.out) (V1.out.below BY.out)).mono ?_
    rintro r w7 ⟨uu, rfl, hT, hb⟩
    have B7 := hid (btr BY.out hb)
    have T7 := hid hT
    clear hT hb BY
    go_wp2_with fail
    refine (look_any u1 _ zs l s a wr w7 (R1.out.below B7.out) (V1.out.below B7.out)).mono ?_
    rintro r w8 ⟨u8, rfl, hT, hb⟩
    have B8 := hid (btr B7.out hb)
    have T8 := hid (T7.out.below hb)
    have S8 := hid hT
    clear hT hb B7 T7
    generalize lookR zs l s a wr = g at T8 S8 ⊢
    obtain ⟨q, m, k2⟩ := g
    simp only at T8 S8 ⊢
    go_wp2_with fail
    refine (err_any k2 w8).mono ?_
    rintro r w9 ⟨rfl, hb⟩
    have B9 := hid (btr B8.out hb)
    have T9 := hid (T8.out.below hb)
    have S9 := hid (S8.out.below hb)
    clear hb B8 T8 S8
    go_wp2_with fail
    refine (is_yes _ k2 (-1) w9 (G1.out.below B9.out) (tells_errV _ k2)).mono ?_
    rintro r w10 ⟨rfl, hb⟩
    have B10 := hid (btr B9.out hb)
    have T10 := hid (T9.out.below hb)
    have S10 := hid (S9.out.below hb)
    clear hb B9 T9 S9
    go_wp2_with fail
    refine (sameTlb_yes _ _ m w10 S10.out T10.out).mono ?_
    rintro r w11 ⟨rfl, hb⟩
    have B11 := hid (btr B10.out hb)
    clear hb B10 T10 S10
    go_wp2_with fail
    refine (entry_word s wr w11).mono ?_
    rintro r w12 ⟨rfl, rfl⟩
    by_cases h : 0 ≤ s ∧ s ≤ 23
    · rw [if_pos h, if_pos h]
      have HD := hid (show decide (s < 0 ∨ 23 < s) = false from decide_eq_false (by omega))
      obtain ⟨h0, h1⟩ := h
      cases wr with
      | true =>
        rw [if_pos rfl]
        go_wp2_with fail
        refine (Isa.far_any s 23 w11).mono ?_
        rintro r w12 ⟨rfl, rfl⟩
        rw [HD.out]
        go_wp2_with fail
        refine (err_any 0 w11).mono ?_
        rintro r w12 ⟨rfl, hb⟩
        have B12 := hid (btr B11.out hb)
        clear hb B11
        go_wp2_with fail
        refine (is_yes _ 0 (-1) w12 (G1.out.below B12.out) (tells_errV _ 0)).mono ?_
        rintro r w13 ⟨rfl, hb⟩
        have B13 := hid (btr BW.out (btr B12.out hb))
        clear hb B12
        go_wp2_with fail
        go_ret
        exact ⟨rfl, B13.out⟩
      | false =>
        rw [if_neg Bool.false_ne_true]
        go_wp2_with fail
        refine (Isa.far_any s 23 w11).mono ?_
        rintro r w12 ⟨rfl, rfl⟩
        rw [HD.out]
        go_wp2_with fail
        refine (err_any 0 w11).mono ?_
        rintro r w12 ⟨rfl, hb⟩
        have B12 := hid (btr B11.out hb)
        clear hb B11
        go_wp2_with fail
        refine (is_yes _ 0 (-1) w12 (G1.out.below B12.out) (tells_errV _ 0)).mono ?_
        rintro r w13 ⟨rfl, hb⟩
        have B13 := hid (btr BW.out (btr B12.out hb))
        clear hb B12
        go_wp2_with fail
        go_ret
        exact ⟨rfl, B13.out⟩
    · rw [if_neg h, if_neg h]
      have HD := hid (show decide (s < 0 ∨ 23 < s) = true from decide_eq_true (by omega))
      clear h
      go_wp2_with fail
      refine (Isa.far_any s 23 w11).mono ?_
      rintro r w12 ⟨rfl, rfl⟩
      rw [HD.out]
      go_wp2_with fail
      refine (err_any 2 w11).mono ?_
      rintro r w12 ⟨rfl, hb⟩
      have B12 := hid (btr B11.out hb)
      clear hb B11
      go_wp2_with fail
      refine (is_yes _ 2 (-1) w12 (G1.out.below B12.out) (tells_errV _ 2)).mono ?_
      rintro r w13 ⟨rfl, hb⟩
      have B13 := hid (btr BW.out (btr B12.out hb))
      clear hb B12
      go_wp2_with fail
      go_ret
      exact ⟨rfl, B13.out⟩
end Go.Proofs.YtfpkbfhaipgibaaDoor.Mmu
