/- keyholdref.insRead, walked. -/
import Derived.Test.YtfpkbfhaipgibaaDoorPrsLine
import Derived.Test.YtfpkbfhaipgibaaDoorPrsImm2
namespace Go.Proofs.YtfpkbfhaipgibaaDoor.Prs
open Go.RowKit Go.Maps Go.Proofs.YtfpkbfhaipgibaaDoor.Mem Go.Proofs.YtfpkbfhaipgibaaDoor.Hex Go.Proofs.YtfpkbfhaipgibaaDoor.Txt Go.Proofs.YtfpkbfhaipgibaaDoor.Isa

/-- What the reference's table of names holds. -/
def RN (w : World) : Prop := ∃ b o c, w.cell? ⟨0, 0, none⟩ = some (.slice (some ⟨b, o, none⟩) 15 c) ∧ ∀ k, k < 15 → w.cell? ⟨b, o + k, none⟩ = some (.string ⟨(nameL k).toArray⟩)
theorem RN.below {w w' : World} (h : RN w) (hb : Below w.heap.size w w') : RN w' := by
  obtain ⟨b, o, c, h1, h2⟩ := h
  exact ⟨b, o, c, cellB h1 hb, fun k hk => cellB (h2 k hk) hb⟩
set_option maxHeartbeats 8000000 in
theorem insRead_any (x : ByteArray) (rs : List ByteArray) (N wb off cap b n : Nat) (D : DataW Unit) (w : World) (hN : N = rs.length + 1) (hN2 : N ≤ 100000) (hS : StrsAt w wb off (x :: rs)) (hD : MapAt w b n D) (hR : RN w) (hZ : ∀ y ∈ x :: rs, y.size ≤ 100000) :
    Calls Tryd.prog 39 #[.slice (some ⟨wb, off, none⟩) N cap, .map (some b)] w fun e w' => e = .returned (.tuple #[insA (lineR regV (immR D) (x :: rs)).2, .int .i64 (lineR regV (immR D) (x :: rs)).1]) ∧ Below w.heap.size w w' := by
  have HD := hid hD
  have HS := hid hS
  have HR := hid hR
  have HZ := hid hZ
  have HN := hid hN
  have hN1 : (1 : Int) ≤ (N : Int) := by omega
  have hN0 : (0 : Int) < (N : Int) := by omega
  have hwb : wb < w.heap.size := World.block_lt_of_cell? _ _ (hS 0 (by simp))
  clear hD hS hR hZ hN
  go_enter Tryd.func39, Tryd.ntmps39
  go_wp2_with fail
  go_loopw [6] (fun i wr => ∃ k : Nat, k ≤ 15 ∧ i = .int .i64 k ∧ (∀ j, j < k → nameL j ≠ x.data.toList) ∧ (∀ o, wr.cell? ⟨w.heap.size, o, none⟩ = (#[.int .i64 0, .int .i64 0, .int .i64 0, .int .i64 0] : Array Value)[o]?) ∧ (∀ o, wr.frozen? ⟨w.heap.size, o, none⟩ = false) ∧ Below w.heap.size w wr ∧ w.heap.size < wr.heap.size) (fun i _ => 15 - (intOf i).toNat)
  case atStart => exact ⟨0, by omega, rfl, fun j h => by omega, cells_new _ _ _, fun o => World.frozen?_alloc_at _ _ _ _ rfl, bal (Below.refl _ _) _, by simp⟩
  case round =>
    obtain ⟨k, hk, rfl, hg, hc, hf, hB, hs⟩ := hrel
    have HG := hid hg
    have HB := hid hB
    clear hg hB
    obtain ⟨nb, no, nc, n0, n1⟩ := HR.out.below HB.out
    have s0 := (HS.out.below HB.out) 0 (by simp)
    rw [Nat.add_zero] at s0
    by_cases hlt : k < 15
    · have hlt2 : (k : Int) < 15 := by omega
      have n2 := n1 k hlt
      clear n1
      by_cases he : nameL k = x.data.toList
      · have hq : (nameL k == x.toList) = true := by rw [ByteArray.toList_eq, he]; simp
        go_wp2_with fail
        go_quiet (fail)
        have HOP := hid (show opN x = k by
          have h1 := opN_le x
          have h3 : ¬ k < opN x := fun e => opN_ne e he
          by_cases h5 : opN x < k
          · exact absurd (opN_eq (by omega)) (HG.out _ h5)
          · omega)
        have c1 : ∀ o, (wr.drewN nq).cell? ⟨w.heap.size, o, none⟩ = (#[.int .i64 0, .int .i64 0, .int .i64 0, .int .i64 0] : Array Value)[o]? := hc
        have f1 : ∀ o, (wr.drewN nq).frozen? ⟨w.heap.size, o, none⟩ = false := hf
        have B1 := hid (below_drewN HB.out nq)
        have z1 : w.heap.size < (wr.drewN nq).heap.size := hs
        have m0 : (wr.drewN nq).cell? ⟨0, 0, none⟩ = some (.slice (some ⟨nb, no, none⟩) 15 nc) := n0
        clear hc hf hs n0 n2 s0 he hq HG HB
        generalize wr.drewN nq = W1 at *
        go_wp2_with fail
        refine (has_any _ _).mono ?_
        rintro e w' ⟨rfl, rfl⟩
        rcases shapes k with ⟨h1, h2, h3⟩ | ⟨h1, h2, h3⟩ | ⟨h1, h2, h3⟩ | ⟨h1, h2, h3⟩ | ⟨h1, h2, h3⟩
        all_goals rw [h1, h2, h3]
        · have HA := hid h1
          have HB2 := hid h2
          have HC := hid h3
          have h15 : k ≠ 15 := by omega
          clear h1 h2 h3
          have ci2 := cells_alloc (cells_new W1 #[.int .i64 (k : Int), .int .i64 0, .int .i64 0, .int .i64 0] 34) (by simp) (.cells #[.bool false, .bool false] 4)
          have fi2 := froz_alloc (W := W1.alloc (.cells #[.int .i64 (k : Int), .int .i64 0, .int .i64 0, .int .i64 0] 34)) (C := W1.heap.size) (fun o => World.frozen?_alloc_at _ _ _ _ rfl) (by simp) (.cells #[.bool false, .bool false] 4)
          have cg2 := cells_at (W1.alloc (.cells #[.int .i64 (k : Int), .int .i64 0, .int .i64 0, .int .i64 0] 34)) #[.bool false, .bool false] 4 (W1.heap.size + 1) (by simp)
          have c2 := cells_alloc (cells_alloc c1 z1 (.cells #[.int .i64 (k : Int), .int .i64 0, .int .i64 0, .int .i64 0] 34)) (by simp; omega) (.cells #[.bool false, .bool false] 4)
          have f2 := froz_alloc (froz_alloc f1 z1 (.cells #[.int .i64 (k : Int), .int .i64 0, .int .i64 0, .int .i64 0] 34)) (by simp; omega) (.cells #[.bool false, .bool false] 4)
          have B2 := hid (show Below w.heap.size w ((W1.alloc (.cells #[.int .i64 (k : Int), .int .i64 0, .int .i64 0, .int .i64 0] 34)).alloc (.cells #[.bool false, .bool false] 4)) from bal (bal B1.out _) _)
          have z2 : ((W1.alloc (.cells #[.int .i64 (k : Int), .int .i64 0, .int .i64 0, .int .i64 0] 34)).alloc (.cells #[.bool false, .bool false] 4)).heap.size = W1.heap.size + 2 := by simp
          clear c1 f1 m0
          go_wp2_with fail
          generalize (W1.alloc (.cells #[.int .i64 (k : Int), .int .i64 0, .int .i64 0, .int .i64 0] 34)).alloc (.cells #[.bool false, .bool false] 4) = W2 at *
          refine wp_loop_rounds 3 ?_
          rw [rounds_succ]
          go_wp2_with fail
          rw [rounds_succ]
          go_wp2_with fail
          rw [rounds_succ]
          cases rs with
          | nil =>
            have hNe : ¬ ((1 : Int) < (N : Int)) := by have := HN.out; simp at this; omega
            have HV := hid (line_ok (f := regV) (m := immR D) HOP.out h15 (show partsR regV (immR D) (IP.hA k) (IP.hB k) (IP.hC k) [] = ⟨0, 0, 0, 0, []⟩ by rw [HA.out, HB2.out, HC.out]; simp [partsR, stepW]) rfl rfl)
            go_wp2_with fail
            have q := four_set (v0 := .int .i64 (k : Int)) (v1 := .int .i64 0) (v2 := .int .i64 0) (v3 := .int .i64 0) c2
            exact bodyPost_ret (v := .tuple #[insA ((k : Int), 0, 0, 0), .int .i64 0]) (by simp [results, Tryd.results39, go_sem, q 0, q 1, q 2, q 3, insA]) rfl ⟨by rw [HV.out], bset (bset (bset (bset B2.out (Nat.le_refl _) _) (Nat.le_refl _) _) (Nat.le_refl _) _) (Nat.le_refl _) _⟩
          | cons y1 r1 =>
            have hNe : (1 : Int) < (N : Int) := by have := HN.out; simp at this; omega
            have HV := hid (line_left (f := regV) (m := immR D) HOP.out h15 (show partsR regV (immR D) (IP.hA k) (IP.hB k) (IP.hC k) (y1 :: r1) = ⟨0, 0, 0, 0, y1 :: r1⟩ by rw [HA.out, HB2.out, HC.out]; simp [partsR, stepW]) rfl (by simp))
            go_wp2_with fail
            have q := four_set (v0 := .int .i64 0) (v1 := .int .i64 0) (v2 := .int .i64 0) (v3 := .int .i64 0) c2
            exact bodyPost_ret (v := .tuple #[insA (0, 0, 0, 0), .int .i64 1]) (by simp [results, Tryd.results39, go_sem, q 0, q 1, q 2, q 3, insA]) rfl ⟨by rw [HV.out], bset (bset (bset (bset B2.out (Nat.le_refl _) _) (Nat.le_refl _) _) (Nat.le_refl _) _) (Nat.le_refl _) _⟩
        · have HA := hid h1
          have HB2 := hid h2
          have HC := hid h3
          have h15 : k ≠ 15 := by omega
          clear h1 h2 h3
          have ci2 := cells_alloc (cells_new W1 #[.int .i64 (k : Int), .int .i64 0, .int .i64 0, .int .i64 0] 34) (by simp) (.cells #[.bool true, .bool false] 4)
          have fi2 := froz_alloc (W := W1.alloc (.cells #[.int .i64 (k : Int), .int .i64 0, .int .i64 0, .int .i64 0] 34)) (C := W1.heap.size) (fun o => World.frozen?_alloc_at _ _ _ _ rfl) (by simp) (.cells #[.bool true, .bool false] 4)
          have cg2 := cells_at (W1.alloc (.cells #[.int .i64 (k : Int), .int .i64 0, .int .i64 0, .int .i64 0] 34)) #[.bool true, .bool false] 4 (W1.heap.size + 1) (by simp)
          have c2 := cells_alloc (cells_alloc c1 z1 (.cells #[.int .i64 (k : Int), .int .i64 0, .int .i64 0, .int .i64 0] 34)) (by simp; omega) (.cells #[.bool true, .bool false] 4)
          have f2 := froz_alloc (froz_alloc f1 z1 (.cells #[.int .i64 (k : Int), .int .i64 0, .int .i64 0, .int .i64 0] 34)) (by simp; omega) (.cells #[.bool true, .bool false] 4)
          have B2 := hid (show Below w.heap.size w ((W1.alloc (.cells #[.int .i64 (k : Int), .int .i64 0, .int .i64 0, .int .i64 0] 34)).alloc (.cells #[.bool true, .bool false] 4)) from bal (bal B1.out _) _)
          have z2 : ((W1.alloc (.cells #[.int .i64 (k : Int), .int .i64 0, .int .i64 0, .int .i64 0] 34)).alloc (.cells #[.bool true, .bool false] 4)).heap.size = W1.heap.size + 2 := by simp
          clear c1 f1 m0
          go_wp2_with fail
          generalize (W1.alloc (.cells #[.int .i64 (k : Int), .int .i64 0, .int .i64 0, .int .i64 0] 34)).alloc (.cells #[.bool true, .bool false] 4) = W2 at *
          refine wp_loop_rounds 3 ?_
          rw [rounds_succ]
          cases rs with
          | nil =>
            have hNe : ¬ ((1 : Int) < (N : Int)) := by have := HN.out; simp at this; omega
            have HV := hid (line_err (f := regV) (m := immR D) HOP.out h15 (show partsR regV (immR D) (IP.hA k) (IP.hB k) (IP.hC k) [] = ⟨10, 0, 0, 0, []⟩ by rw [HA.out, HB2.out, HC.out]; simp [partsR, stepW]) (by decide))
            go_wp2_with fail
            have q := four_set (v0 := .int .i64 0) (v1 := .int .i64 0) (v2 := .int .i64 0) (v3 := .int .i64 0) c2
            exact bodyPost_ret (v := .tuple #[insA (0, 0, 0, 0), .int .i64 10]) (by simp [results, Tryd.results39, go_sem, q 0, q 1, q 2, q 3, insA]) rfl ⟨by rw [HV.out], bset (bset (bset (bset B2.out (Nat.le_refl _) _) (Nat.le_refl _) _) (Nat.le_refl _) _) (Nat.le_refl _) _⟩
          | cons y1 r1 =>
            have hNe : (1 : Int) < (N : Int) := by have := HN.out; simp at this; omega
            have s1 : W2.cell? ⟨wb, off + 1, none⟩ = some (.string y1) := (HS.out.below B2.out) 1 (by simp)
            by_cases h2 : y1.size = 2
            · have h2i : (y1.size : Int) = 2 := by omega
              have p0 : 0 < y1.size := by omega
              have p1 : 1 < y1.size := by omega
              have hq : (y1[0].toNat : Int) ≠ 114 ∨ ((y1[0].toNat : Int) = 114 ∧ (y1[1].toNat : Int) < 48) ∨ ((y1[0].toNat : Int) = 114 ∧ ¬ (y1[1].toNat : Int) < 48 ∧ (55 : Int) < y1[1].toNat) ∨ ((y1[0].toNat : Int) = 114 ∧ ¬ (y1[1].toNat : Int) < 48 ∧ ¬ (55 : Int) < y1[1].toNat) := by omega
              rcases hq with hq | ⟨hq, hq1⟩ | ⟨hq, hq1, hq2⟩ | ⟨hq, hq1, hq2⟩
              · have HR1 := hid (reg_no (t := y1) (fun e => by obtain ⟨_, e, _⟩ := e; omega))
                have HV := hid (line_err (f := regV) (m := immR D) HOP.out h15 (show partsR regV (immR D) (IP.hA k) (IP.hB k) (IP.hC k) (y1 :: r1) = ⟨1, 0, 0, 0, []⟩ by rw [HA.out, HB2.out, HC.out]; simp [partsR, stepW, HR1.out]) (by decide))
                go_wp2_with fail
                have q := four_set (v0 := .int .i64 0) (v1 := .int .i64 0) (v2 := .int .i64 0) (v3 := .int .i64 0) c2
                exact bodyPost_ret (v := .tuple #[insA (0, 0, 0, 0), .int .i64 1]) (by simp [results, Tryd.results39, go_sem, q 0, q 1, q 2, q 3, insA]) rfl ⟨by rw [HV.out], bset (bset (bset (bset B2.out (Nat.le_refl _) _) (Nat.le_refl _) _) (Nat.le_refl _) _) (Nat.le_refl _) _⟩
              · have HR1 := hid (reg_no (t := y1) (fun e => by obtain ⟨_, _, e, _⟩ := e; omega))
                have HV := hid (line_err (f := regV) (m := immR D) HOP.out h15 (show partsR regV (immR D) (IP.hA k) (IP.hB k) (IP.hC k) (y1 :: r1) = ⟨1, 0, 0, 0, []⟩ by rw [HA.out, HB2.out, HC.out]; simp [partsR, stepW, HR1.out]) (by decide))
                go_wp2_with fail
                have q := four_set (v0 := .int .i64 0) (v1 := .int .i64 0) (v2 := .int .i64 0) (v3 := .int .i64 0) c2
                exact bodyPost_ret (v := .tuple #[insA (0, 0, 0, 0), .int .i64 1]) (by simp [results, Tryd.results39, go_sem, q 0, q 1, q 2, q 3, insA]) rfl ⟨by rw [HV.out], bset (bset (bset (bset B2.out (Nat.le_refl _) _) (Nat.le_refl _) _) (Nat.le_refl _) _) (Nat.le_refl _) _⟩
              · have HR1 := hid (reg_no (t := y1) (fun e => by obtain ⟨_, _, _, e⟩ := e; omega))
                have HV := hid (line_err (f := regV) (m := immR D) HOP.out h15 (show partsR regV (immR D) (IP.hA k) (IP.hB k) (IP.hC k) (y1 :: r1) = ⟨1, 0, 0, 0, []⟩ by rw [HA.out, HB2.out, HC.out]; simp [partsR, stepW, HR1.out]) (by decide))
                go_wp2_with fail
                have q := four_set (v0 := .int .i64 0) (v1 := .int .i64 0) (v2 := .int .i64 0) (v3 := .int .i64 0) c2
                exact bodyPost_ret (v := .tuple #[insA (0, 0, 0, 0), .int .i64 1]) (by simp [results, Tryd.results39, go_sem, q 0, q 1, q 2, q 3, insA]) rfl ⟨by rw [HV.out], bset (bset (bset (bset B2.out (Nat.le_refl _) _) (Nat.le_refl _) _) (Nat.le_refl _) _) (Nat.le_refl _) _⟩
              · have HR1 := hid (reg_yes h2 ⟨by omega, by omega, by omega⟩)
                go_wp2_with fail
                clear hq hq1 hq2 hNe s1
                have ci3 := cells_set ci2 1 (by simp) (.int .i64 ((y1[1].toNat : Int) - 48))
                have fi3 : ∀ o, (W2.setCell ⟨W1.heap.size, 1, none⟩ (.int .i64 ((y1[1].toNat : Int) - 48))).frozen? ⟨W1.heap.size, o, none⟩ = false := fun o => by simpa using fi2 o
                have cg3 := cells_far (i := 1) cg2 (show W1.heap.size ≠ W1.heap.size + 1 by omega) (.int .i64 ((y1[1].toNat : Int) - 48))
                have c3 := cells_far (i := 1) c2 (show W1.heap.size ≠ w.heap.size by omega) (.int .i64 ((y1[1].toNat : Int) - 48))
                have f3 : ∀ o, (W2.setCell ⟨W1.heap.size, 1, none⟩ (.int .i64 ((y1[1].toNat : Int) - 48))).frozen? ⟨w.heap.size, o, none⟩ = false := fun o => by simpa using f2 o
                have B3 := hid (bset B2.out (b := W1.heap.size) (o := 1) (by omega) (.int .i64 ((y1[1].toNat : Int) - 48)))
                have z3 : (W2.setCell ⟨W1.heap.size, 1, none⟩ (.int .i64 ((y1[1].toNat : Int) - 48))).heap.size = W2.heap.size := size_one _ _ _
                generalize W2.setCell ⟨W1.heap.size, 1, none⟩ (.int .i64 ((y1[1].toNat : Int) - 48)) = W3 at *
                rw [rounds_succ]
                go_wp2_with fail
                rw [rounds_succ]
                cases r1 with
                | nil =>
                  have hNe : ¬ ((2 : Int) < (N : Int)) := by have := HN.out; simp at this; omega
                  have HV := hid (line_err (f := regV) (m := immR D) HOP.out h15 (show partsR regV (immR D) (IP.hA k) (IP.hB k) (IP.hC k) (y1 :: []) = ⟨10, 0, 0, 0, []⟩ by rw [HA.out, HB2.out, HC.out]; simp [partsR, stepW, HR1.out]) (by decide))
                  go_wp2_with fail
                  have q := four_set (v0 := .int .i64 0) (v1 := .int .i64 0) (v2 := .int .i64 0) (v3 := .int .i64 0) c3
                  exact bodyPost_ret (v := .tuple #[insA (0, 0, 0, 0), .int .i64 10]) (by simp [results, Tryd.results39, go_sem, q 0, q 1, q 2, q 3, insA]) rfl ⟨by rw [HV.out], bset (bset (bset (bset B3.out (Nat.le_refl _) _) (Nat.le_refl _) _) (Nat.le_refl _) _) (Nat.le_refl _) _⟩
                | cons y2 r2 =>
                  have hNe : (2 : Int) < (N : Int) := by have := HN.out; simp at this; omega
                  have s2 : W3.cell? ⟨wb, off + 2, none⟩ = some (.string y2) := (HS.out.below B3.out) 2 (by simp)
                  have HIM := hid (immRead_any y2 b n D W3 (HD.out.below B3.out) (HZ.out y2 (by simp)))
                  go_wp2_with fail
                  refine HIM.out.mono ?_
                  rintro e V ⟨rfl, hbV⟩
                  have ci4 := cells_next ci3 (by omega) hbV
                  have fi4 : ∀ o, V.frozen? ⟨W1.heap.size, o, none⟩ = false := fun o => (hbV.frozen (p := ⟨W1.heap.size, o, none⟩) (by show W1.heap.size < _; omega)).trans (fi3 o)
                  have cg4 := cells_next cg3 (by omega) hbV
                  have c4 := cells_next c3 (by omega) hbV
                  have f4 : ∀ o, V.frozen? ⟨w.heap.size, o, none⟩ = false := fun o => (hbV.frozen (p := ⟨w.heap.size, o, none⟩) (by show w.heap.size < _; omega)).trans (f3 o)
                  have B4 := hid (btr B3.out hbV)
                  have z4 : W1.heap.size + 2 ≤ V.heap.size := by have := hbV.size; omega
                  clear hbV HIM ci3 fi3 cg3 c3 f3 s2 hNe
                  generalize V = W4 at *
                  by_cases he : (immR D y2).2 = 0
                  · have HI2 := hid he
                    rw [he]
                    clear he
                    have hW : W1.heap.size ≠ w.heap.size := by omega
                    have ci5 := cells_set ci4 3 (by simp) (.int .i64 (immR D y2).1)
                    have c5 := cells_far (i := 3) c4 (show W1.heap.size ≠ w.heap.size by omega) (.int .i64 (immR D y2).1)
                    have B5 := hid (bset B4.out (b := W1.heap.size) (o := 3) (by omega) (.int .i64 (immR D y2).1))
                    cases r2 with
                    | nil =>
                      have hNe : ¬ ((3 : Int) < (N : Int)) := by have := HN.out; simp at this; omega
                      have HV := hid (line_ok (f := regV) (m := immR D) HOP.out h15 (show partsR regV (immR D) (IP.hA k) (IP.hB k) (IP.hC k) (y1 :: (y2 :: [])) = ⟨0, ((y1[1].toNat : Int) - 48), 0, (immR D y2).1, []⟩ by rw [HA.out, HB2.out, HC.out]; simp [partsR, stepW, HR1.out, HI2.out]) rfl rfl)
                      go_wp2_with fail
                      have q := four_set (v0 := .int .i64 (k : Int)) (v1 := .int .i64 ((y1[1].toNat : Int) - 48)) (v2 := .int .i64 0) (v3 := .int .i64 (immR D y2).1) c5
                      exact bodyPost_ret (v := .tuple #[insA ((k : Int), ((y1[1].toNat : Int) - 48), 0, (immR D y2).1), .int .i64 0]) (by simp [results, Tryd.results39, go_sem, q 0, q 1, q 2, q 3, insA]) rfl ⟨by rw [HV.out], bset (bset (bset (bset B5.out (Nat.le_refl _) _) (Nat.le_refl _) _) (Nat.le_refl _) _) (Nat.le_refl _) _⟩
                    | cons y3 r3 =>
                      have hNe : (3 : Int) < (N : Int) := by have := HN.out; simp at this; omega
                      have HV := hid (line_left (f := regV) (m := immR D) HOP.out h15 (show partsR regV (immR D) (IP.hA k) (IP.hB k) (IP.hC k) (y1 :: (y2 :: (y3 :: r3))) = ⟨0, ((y1[1].toNat : Int) - 48), 0, (immR D y2).1, y3 :: r3⟩ by rw [HA.out, HB2.out, HC.out]; simp [partsR, stepW, HR1.out, HI2.out]) rfl (by simp))
                      go_wp2_with fail
                      have q := four_set (v0 := .int .i64 0) (v1 := .int .i64 0) (v2 := .int .i64 0) (v3 := .int .i64 0) c5
                      exact bodyPost_ret (v := .tuple #[insA (0, 0, 0, 0), .int .i64 1]) (by simp [results, Tryd.results39, go_sem, q 0, q 1, q 2, q 3, insA]) rfl ⟨by rw [HV.out], bset (bset (bset (bset B5.out (Nat.le_refl _) _) (Nat.le_refl _) _) (Nat.le_refl _) _) (Nat.le_refl _) _⟩
                  · have HV := hid (line_err (f := regV) (m := immR D) HOP.out h15 (show partsR regV (immR D) (IP.hA k) (IP.hB k) (IP.hC k) (y1 :: (y2 :: r2)) = ⟨(immR D y2).2, 0, 0, 0, []⟩ by rw [HA.out, HB2.out, HC.out]; simp [partsR, stepW, HR1.out, he]) he)
                    have heb : ((immR D y2).2 != 0) = true := by simpa using he
                    go_wp2_with fail
                    have q := four_set (v0 := .int .i64 0) (v1 := .int .i64 0) (v2 := .int .i64 0) (v3 := .int .i64 0) c4
                    exact bodyPost_ret (v := .tuple #[insA (0, 0, 0, 0), .int .i64 (immR D y2).2]) (by simp [results, Tryd.results39, go_sem, q 0, q 1, q 2, q 3, insA]) rfl ⟨by rw [HV.out], bset (bset (bset (bset B4.out (Nat.le_refl _) _) (Nat.le_refl _) _) (Nat.le_refl _) _) (Nat.le_refl _) _⟩
            · have h2i : (y1.size : Int) ≠ 2 := by omega
              have HR1 := hid (reg_no (t := y1) (fun e => by obtain ⟨e, _⟩ := e; exact h2 e))
              clear h2
              have HV := hid (line_err (f := regV) (m := immR D) HOP.out h15 (show partsR regV (immR D) (IP.hA k) (IP.hB k) (IP.hC k) (y1 :: r1) = ⟨1, 0, 0, 0, []⟩ by rw [HA.out, HB2.out, HC.out]; simp [partsR, stepW, HR1.out]) (by decide))
              go_wp2_with fail
              have q := four_set (v0 := .int .i64 0) (v1 := .int .i64 0) (v2 := .int .i64 0) (v3 := .int .i64 0) c2
              exact bodyPost_ret (v := .tuple #[insA (0, 0, 0, 0), .int .i64 1]) (by simp [results, Tryd.results39, go_sem, q 0, q 1, q 2, q 3, insA]) rfl ⟨by rw [HV.out], bset (bset (bset (bset B2.out (Nat.le_refl _) _) (Nat.le_refl _) _) (Nat.le_refl _) _) (Nat.le_refl _) _⟩
        · have HA := hid h1
          have HB2 := hid h2
          have HC := hid h3
          have h15 : k ≠ 15 := by omega
          clear h1 h2 h3
          have ci2 := cells_alloc (cells_new W1 #[.int .i64 (k : Int), .int .i64 0, .int .i64 0, .int .i64 0] 34) (by simp) (.cells #[.bool true, .bool true] 4)
          have fi2 := froz_alloc (W := W1.alloc (.cells #[.int .i64 (k : Int), .int .i64 0, .int .i64 0, .int .i64 0] 34)) (C := W1.heap.size) (fun o => World.frozen?_alloc_at _ _ _ _ rfl) (by simp) (.cells #[.bool true, .bool true] 4)
          have cg2 := cells_at (W1.alloc (.cells #[.int .i64 (k : Int), .int .i64 0, .int .i64 0, .int .i64 0] 34)) #[.bool true, .bool true] 4 (W1.heap.size + 1) (by simp)
          have c2 := cells_alloc (cells_alloc c1 z1 (.cells #[.int .i64 (k : Int), .int .i64 0, .int .i64 0, .int .i64 0] 34)) (by simp; omega) (.cells #[.bool true, .bool true] 4)
          have f2 := froz_alloc (froz_alloc f1 z1 (.cells #[.int .i64 (k : Int), .int .i64 0, .int .i64 0, .int .i64 0] 34)) (by simp; omega) (.cells #[.bool true, .bool true] 4)
          have B2 := hid (show Below w.heap.size w ((W1.alloc (.cells #[.int .i64 (k : Int), .int .i64 0, .int .i64 0, .int .i64 0] 34)).alloc (.cells #[.bool true, .bool true] 4)) from bal (bal B1.out _) _)
          have z2 : ((W1.alloc (.cells #[.int .i64 (k : Int), .int .i64 0, .int .i64 0, .int .i64 0] 34)).alloc (.cells #[.bool true, .bool true] 4)).heap.size = W1.heap.size + 2 := by simp
          clear c1 f1 m0
          go_wp2_with fail
          generalize (W1.alloc (.cells #[.int .i64 (k : Int), .int .i64 0, .int .i64 0, .int .i64 0] 34)).alloc (.cells #[.bool true, .bool true] 4) = W2 at *
          refine wp_loop_rounds 3 ?_
          rw [rounds_succ]
          cases rs with
          | nil =>
            have hNe : ¬ ((1 : Int) < (N : Int)) := by have := HN.out; simp at this; omega
            have HV := hid (line_err (f := regV) (m := immR D) HOP.out h15 (show partsR regV (immR D) (IP.hA k) (IP.hB k) (IP.hC k) [] = ⟨10, 0, 0, 0, []⟩ by rw [HA.out, HB2.out, HC.out]; simp [partsR, stepW]) (by decide))
            go_wp2_with fail
            have q := four_set (v0 := .int .i64 0) (v1 := .int .i64 0) (v2 := .int .i64 0) (v3 := .int .i64 0) c2
            exact bodyPost_ret (v := .tuple #[insA (0, 0, 0, 0), .int .i64 10]) (by simp [results, Tryd.results39, go_sem, q 0, q 1, q 2, q 3, insA]) rfl ⟨by rw [HV.out], bset (bset (bset (bset B2.out (Nat.le_refl _) _) (Nat.le_refl _) _) (Nat.le_refl _) _) (Nat.le_refl _) _⟩
          | cons y1 r1 =>
            have hNe : (1 : Int) < (N : Int) := by have := HN.out; simp at this; omega
            have s1 : W2.cell? ⟨wb, off + 1, none⟩ = some (.string y1) := (HS.out.below B2.out) 1 (by simp)
            by_cases h2 : y1.size = 2
            · have h2i : (y1.size : Int) = 2 := by omega
              have p0 : 0 < y1.size := by omega
              have p1 : 1 < y1.size := by omega
              have hq : (y1[0].toNat : Int) ≠ 114 ∨ ((y1[0].toNat : Int) = 114 ∧ (y1[1].toNat : Int) < 48) ∨ ((y1[0].toNat : Int) = 114 ∧ ¬ (y1[1].toNat : Int) < 48 ∧ (55 : Int) < y1[1].toNat) ∨ ((y1[0].toNat : Int) = 114 ∧ ¬ (y1[1].toNat : Int) < 48 ∧ ¬ (55 : Int) < y1[1].toNat) := by omega
              rcases hq with hq | ⟨hq, hq1⟩ | ⟨hq, hq1, hq2⟩ | ⟨hq, hq1, hq2⟩
              · have HR1 := hid (reg_no (t := y1) (fun e => by obtain ⟨_, e, _⟩ := e; omega))
                have HV := hid (line_err (f := regV) (m := immR D) HOP.out h15 (show partsR regV (immR D) (IP.hA k) (IP.hB k) (IP.hC k) (y1 :: r1) = ⟨1, 0, 0, 0, []⟩ by rw [HA.out, HB2.out, HC.out]; simp [partsR, stepW, HR1.out]) (by decide))
                go_wp2_with fail
                have q := four_set (v0 := .int .i64 0) (v1 := .int .i64 0) (v2 := .int .i64 0) (v3 := .int .i64 0) c2
                exact bodyPost_ret (v := .tuple #[insA (0, 0, 0, 0), .int .i64 1]) (by simp [results, Tryd.results39, go_sem, q 0, q 1, q 2, q 3, insA]) rfl ⟨by rw [HV.out], bset (bset (bset (bset B2.out (Nat.le_refl _) _) (Nat.le_refl _) _) (Nat.le_refl _) _) (Nat.le_refl _) _⟩
              · have HR1 := hid (reg_no (t := y1) (fun e => by obtain ⟨_, _, e, _⟩ := e; omega))
                have HV := hid (line_err (f := regV) (m := immR D) HOP.out h15 (show partsR regV (immR D) (IP.hA k) (IP.hB k) (IP.hC k) (y1 :: r1) = ⟨1, 0, 0, 0, []⟩ by rw [HA.out, HB2.out, HC.out]; simp [partsR, stepW, HR1.out]) (by decide))
                go_wp2_with fail
                have q := four_set (v0 := .int .i64 0) (v1 := .int .i64 0) (v2 := .int .i64 0) (v3 := .int .i64 0) c2
                exact bodyPost_ret (v := .tuple #[insA (0, 0, 0, 0), .int .i64 1]) (by simp [results, Tryd.results39, go_sem, q 0, q 1, q 2, q 3, insA]) rfl ⟨by rw [HV.out], bset (bset (bset (bset B2.out (Nat.le_refl _) _) (Nat.le_refl _) _) (Nat.le_refl _) _) (Nat.le_refl _) _⟩
              · have HR1 := hid (reg_no (t := y1) (fun e => by obtain ⟨_, _, _, e⟩ := e; omega))
                have HV := hid (line_err (f := regV) (m := immR D) HOP.out h15 (show partsR regV (immR D) (IP.hA k) (IP.hB k) (IP.hC k) (y1 :: r1) = ⟨1, 0, 0, 0, []⟩ by rw [HA.out, HB2.out, HC.out]; simp [partsR, stepW, HR1.out]) (by decide))
                go_wp2_with fail
                have q := four_set (v0 := .int .i64 0) (v1 := .int .i64 0) (v2 := .int .i64 0) (v3 := .int .i64 0) c2
                exact bodyPost_ret (v := .tuple #[insA (0, 0, 0, 0), .int .i64 1]) (by simp [results, Tryd.results39, go_sem, q 0, q 1, q 2, q 3, insA]) rfl ⟨by rw [HV.out], bset (bset (bset (bset B2.out (Nat.le_refl _) _) (Nat.le_refl _) _) (Nat.le_refl _) _) (Nat.le_refl _) _⟩
              · have HR1 := hid (reg_yes h2 ⟨by omega, by omega, by omega⟩)
                go_wp2_with fail
                clear hq hq1 hq2 hNe s1
                have ci3 := cells_set ci2 1 (by simp) (.int .i64 ((y1[1].toNat : Int) - 48))
                have fi3 : ∀ o, (W2.setCell ⟨W1.heap.size, 1, none⟩ (.int .i64 ((y1[1].toNat : Int) - 48))).frozen? ⟨W1.heap.size, o, none⟩ = false := fun o => by simpa using fi2 o
                have cg3 := cells_far (i := 1) cg2 (show W1.heap.size ≠ W1.heap.size + 1 by omega) (.int .i64 ((y1[1].toNat : Int) - 48))
                have c3 := cells_far (i := 1) c2 (show W1.heap.size ≠ w.heap.size by omega) (.int .i64 ((y1[1].toNat : Int) - 48))
                have f3 : ∀ o, (W2.setCell ⟨W1.heap.size, 1, none⟩ (.int .i64 ((y1[1].toNat : Int) - 48))).frozen? ⟨w.heap.size, o, none⟩ = false := fun o => by simpa using f2 o
                have B3 := hid (bset B2.out (b := W1.heap.size) (o := 1) (by omega) (.int .i64 ((y1[1].toNat : Int) - 48)))
                have z3 : (W2.setCell ⟨W1.heap.size, 1, none⟩ (.int .i64 ((y1[1].toNat : Int) - 48))).heap.size = W2.heap.size := size_one _ _ _
                generalize W2.setCell ⟨W1.heap.size, 1, none⟩ (.int .i64 ((y1[1].toNat : Int) - 48)) = W3 at *
                rw [rounds_succ]
                cases r1 with
                | nil =>
                  have hNe : ¬ ((2 : Int) < (N : Int)) := by have := HN.out; simp at this; omega
                  have HV := hid (line_err (f := regV) (m := immR D) HOP.out h15 (show partsR regV (immR D) (IP.hA k) (IP.hB k) (IP.hC k) (y1 :: []) = ⟨10, 0, 0, 0, []⟩ by rw [HA.out, HB2.out, HC.out]; simp [partsR, stepW, HR1.out]) (by decide))
                  go_wp2_with fail
                  have q := four_set (v0 := .int .i64 0) (v1 := .int .i64 0) (v2 := .int .i64 0) (v3 := .int .i64 0) c3
                  exact bodyPost_ret (v := .tuple #[insA (0, 0, 0, 0), .int .i64 10]) (by simp [results, Tryd.results39, go_sem, q 0, q 1, q 2, q 3, insA]) rfl ⟨by rw [HV.out], bset (bset (bset (bset B3.out (Nat.le_refl _) _) (Nat.le_refl _) _) (Nat.le_refl _) _) (Nat.le_refl _) _⟩
                | cons y2 r2 =>
                  have hNe : (2 : Int) < (N : Int) := by have := HN.out; simp at this; omega
                  have s2 : W3.cell? ⟨wb, off + 2, none⟩ = some (.string y2) := (HS.out.below B3.out) 2 (by simp)
                  by_cases h2 : y2.size = 2
                  · have h2i : (y2.size : Int) = 2 := by omega
                    have p0 : 0 < y2.size := by omega
                    have p1 : 1 < y2.size := by omega
                    have hq : (y2[0].toNat : Int) ≠ 114 ∨ ((y2[0].toNat : Int) = 114 ∧ (y2[1].toNat : Int) < 48) ∨ ((y2[0].toNat : Int) = 114 ∧ ¬ (y2[1].toNat : Int) < 48 ∧ (55 : Int) < y2[1].toNat) ∨ ((y2[0].toNat : Int) = 114 ∧ ¬ (y2[1].toNat : Int) < 48 ∧ ¬ (55 : Int) < y2[1].toNat) := by omega
                    rcases hq with hq | ⟨hq, hq1⟩ | ⟨hq, hq1, hq2⟩ | ⟨hq, hq1, hq2⟩
                    · have HR2 := hid (reg_no (t := y2) (fun e => by obtain ⟨_, e, _⟩ := e; omega))
                      have HV := hid (line_err (f := regV) (m := immR D) HOP.out h15 (show partsR regV (immR D) (IP.hA k) (IP.hB k) (IP.hC k) (y1 :: (y2 :: r2)) = ⟨1, 0, 0, 0, []⟩ by rw [HA.out, HB2.out, HC.out]; simp [partsR, stepW, HR1.out, HR2.out]) (by decide))
                      go_wp2_with fail
                      have q := four_set (v0 := .int .i64 0) (v1 := .int .i64 0) (v2 := .int .i64 0) (v3 := .int .i64 0) c3
                      exact bodyPost_ret (v := .tuple #[insA (0, 0, 0, 0), .int .i64 1]) (by simp [results, Tryd.results39, go_sem, q 0, q 1, q 2, q 3, insA]) rfl ⟨by rw [HV.out], bset (bset (bset (bset B3.out (Nat.le_refl _) _) (Nat.le_refl _) _) (Nat.le_refl _) _) (Nat.le_refl _) _⟩
                    · have HR2 := hid (reg_no (t := y2) (fun e => by obtain ⟨_, _, e, _⟩ := e; omega))
                      have HV := hid (line_err (f := regV) (m := immR D) HOP.out h15 (show partsR regV (immR D) (IP.hA k) (IP.hB k) (IP.hC k) (y1 :: (y2 :: r2)) = ⟨1, 0, 0, 0, []⟩ by rw [HA.out, HB2.out, HC.out]; simp [partsR, stepW, HR1.out, HR2.out]) (by decide))
                      go_wp2_with fail
                      have q := four_set (v0 := .int .i64 0) (v1 := .int .i64 0) (v2 := .int .i64 0) (v3 := .int .i64 0) c3
                      exact bodyPost_ret (v := .tuple #[insA (0, 0, 0, 0), .int .i64 1]) (by simp [results, Tryd.results39, go_sem, q 0, q 1, q 2, q 3, insA]) rfl ⟨by rw [HV.out], bset (bset (bset (bset B3.out (Nat.le_refl _) _) (Nat.le_refl _) _) (Nat.le_refl _) _) (Nat.le_refl _) _⟩
                    · have HR2 := hid (reg_no (t := y2) (fun e => by obtain ⟨_, _, _, e⟩ := e; omega))
                      have HV := hid (line_err (f := regV) (m := immR D) HOP.out h15 (show partsR regV (immR D) (IP.hA k) (IP.hB k) (IP.hC k) (y1 :: (y2 :: r2)) = ⟨1, 0, 0, 0, []⟩ by rw [HA.out, HB2.out, HC.out]; simp [partsR, stepW, HR1.out, HR2.out]) (by decide))
                      go_wp2_with fail
                      have q := four_set (v0 := .int .i64 0) (v1 := .int .i64 0) (v2 := .int .i64 0) (v3 := .int .i64 0) c3
                      exact bodyPost_ret (v := .tuple #[insA (0, 0, 0, 0), .int .i64 1]) (by simp [results, Tryd.results39, go_sem, q 0, q 1, q 2, q 3, insA]) rfl ⟨by rw [HV.out], bset (bset (bset (bset B3.out (Nat.le_refl _) _) (Nat.le_refl _) _) (Nat.le_refl _) _) (Nat.le_refl _) _⟩
                    · have HR2 := hid (reg_yes h2 ⟨by omega, by omega, by omega⟩)
                      go_wp2_with fail
                      clear hq hq1 hq2 hNe s2
                      have ci4 := cells_set ci3 2 (by simp) (.int .i64 ((y2[1].toNat : Int) - 48))
                      have fi4 : ∀ o, (W3.setCell ⟨W1.heap.size, 2, none⟩ (.int .i64 ((y2[1].toNat : Int) - 48))).frozen? ⟨W1.heap.size, o, none⟩ = false := fun o => by simpa using fi3 o
                      have cg4 := cells_far (i := 2) cg3 (show W1.heap.size ≠ W1.heap.size + 1 by omega) (.int .i64 ((y2[1].toNat : Int) - 48))
                      have c4 := cells_far (i := 2) c3 (show W1.heap.size ≠ w.heap.size by omega) (.int .i64 ((y2[1].toNat : Int) - 48))
                      have f4 : ∀ o, (W3.setCell ⟨W1.heap.size, 2, none⟩ (.int .i64 ((y2[1].toNat : Int) - 48))).frozen? ⟨w.heap.size, o, none⟩ = false := fun o => by simpa using f3 o
                      have B4 := hid (bset B3.out (b := W1.heap.size) (o := 2) (by omega) (.int .i64 ((y2[1].toNat : Int) - 48)))
                      have z4 : (W3.setCell ⟨W1.heap.size, 2, none⟩ (.int .i64 ((y2[1].toNat : Int) - 48))).heap.size = W3.heap.size := size_one _ _ _
                      generalize W3.setCell ⟨W1.heap.size, 2, none⟩ (.int .i64 ((y2[1].toNat : Int) - 48)) = W4 at *
                      rw [rounds_succ]
                      cases r2 with
                      | nil =>
                        have hNe : ¬ ((3 : Int) < (N : Int)) := by have := HN.out; simp at this; omega
                        have HV := hid (line_err (f := regV) (m := immR D) HOP.out h15 (show partsR regV (immR D) (IP.hA k) (IP.hB k) (IP.hC k) (y1 :: (y2 :: [])) = ⟨10, 0, 0, 0, []⟩ by rw [HA.out, HB2.out, HC.out]; simp [partsR, stepW, HR1.out, HR2.out]) (by decide))
                        go_wp2_with fail
                        have q := four_set (v0 := .int .i64 0) (v1 := .int .i64 0) (v2 := .int .i64 0) (v3 := .int .i64 0) c4
                        exact bodyPost_ret (v := .tuple #[insA (0, 0, 0, 0), .int .i64 10]) (by simp [results, Tryd.results39, go_sem, q 0, q 1, q 2, q 3, insA]) rfl ⟨by rw [HV.out], bset (bset (bset (bset B4.out (Nat.le_refl _) _) (Nat.le_refl _) _) (Nat.le_refl _) _) (Nat.le_refl _) _⟩
                      | cons y3 r3 =>
                        have hNe : (3 : Int) < (N : Int) := by have := HN.out; simp at this; omega
                        have s3 : W4.cell? ⟨wb, off + 3, none⟩ = some (.string y3) := (HS.out.below B4.out) 3 (by simp)
                        have HIM := hid (immRead_any y3 b n D W4 (HD.out.below B4.out) (HZ.out y3 (by simp)))
                        go_wp2_with fail
                        refine HIM.out.mono ?_
                        rintro e V ⟨rfl, hbV⟩
                        have ci5 := cells_next ci4 (by omega) hbV
                        have fi5 : ∀ o, V.frozen? ⟨W1.heap.size, o, none⟩ = false := fun o => (hbV.frozen (p := ⟨W1.heap.size, o, none⟩) (by show W1.heap.size < _; omega)).trans (fi4 o)
                        have cg5 := cells_next cg4 (by omega) hbV
                        have c5 := cells_next c4 (by omega) hbV
                        have f5 : ∀ o, V.frozen? ⟨w.heap.size, o, none⟩ = false := fun o => (hbV.frozen (p := ⟨w.heap.size, o, none⟩) (by show w.heap.size < _; omega)).trans (f4 o)
                        have B5 := hid (btr B4.out hbV)
                        have z5 : W1.heap.size + 2 ≤ V.heap.size := by have := hbV.size; omega
                        clear hbV HIM ci4 fi4 cg4 c4 f4 s3 hNe
                        generalize V = W5 at *
                        by_cases he : (immR D y3).2 = 0
                        · have HI3 := hid he
                          rw [he]
                          clear he
                          have hW : W1.heap.size ≠ w.heap.size := by omega
                          have ci6 := cells_set ci5 3 (by simp) (.int .i64 (immR D y3).1)
                          have c6 := cells_far (i := 3) c5 (show W1.heap.size ≠ w.heap.size by omega) (.int .i64 (immR D y3).1)
                          have B6 := hid (bset B5.out (b := W1.heap.size) (o := 3) (by omega) (.int .i64 (immR D y3).1))
                          cases r3 with
                          | nil =>
                            have hNe : ¬ ((4 : Int) < (N : Int)) := by have := HN.out; simp at this; omega
                            have HV := hid (line_ok (f := regV) (m := immR D) HOP.out h15 (show partsR regV (immR D) (IP.hA k) (IP.hB k) (IP.hC k) (y1 :: (y2 :: (y3 :: []))) = ⟨0, ((y1[1].toNat : Int) - 48), ((y2[1].toNat : Int) - 48), (immR D y3).1, []⟩ by rw [HA.out, HB2.out, HC.out]; simp [partsR, stepW, HR1.out, HR2.out, HI3.out]) rfl rfl)
                            go_wp2_with fail
                            have q := four_set (v0 := .int .i64 (k : Int)) (v1 := .int .i64 ((y1[1].toNat : Int) - 48)) (v2 := .int .i64 ((y2[1].toNat : Int) - 48)) (v3 := .int .i64 (immR D y3).1) c6
                            exact bodyPost_ret (v := .tuple #[insA ((k : Int), ((y1[1].toNat : Int) - 48), ((y2[1].toNat : Int) - 48), (immR D y3).1), .int .i64 0]) (by simp [results, Tryd.results39, go_sem, q 0, q 1, q 2, q 3, insA]) rfl ⟨by rw [HV.out], bset (bset (bset (bset B6.out (Nat.le_refl _) _) (Nat.le_refl _) _) (Nat.le_refl _) _) (Nat.le_refl _) _⟩
                          | cons y4 r4 =>
                            have hNe : (4 : Int) < (N : Int) := by have := HN.out; simp at this; omega
                            have HV := hid (line_left (f := regV) (m := immR D) HOP.out h15 (show partsR regV (immR D) (IP.hA k) (IP.hB k) (IP.hC k) (y1 :: (y2 :: (y3 :: (y4 :: r4)))) = ⟨0, ((y1[1].toNat : Int) - 48), ((y2[1].toNat : Int) - 48), (immR D y3).1, y4 :: r4⟩ by rw [HA.out, HB2.out, HC.out]; simp [partsR, stepW, HR1.out, HR2.out, HI3.out]) rfl (by simp))
                            go_wp2_with fail
                            have q := four_set (v0 := .int .i64 0) (v1 := .int .i64 0) (v2 := .int .i64 0) (v3 := .int .i64 0) c6
                            exact bodyPost_ret (v := .tuple #[insA (0, 0, 0, 0), .int .i64 1]) (by simp [results, Tryd.results39, go_sem, q 0, q 1, q 2, q 3, insA]) rfl ⟨by rw [HV.out], bset (bset (bset (bset B6.out (Nat.le_refl _) _) (Nat.le_refl _) _) (Nat.le_refl _) _) (Nat.le_refl _) _⟩
                        · have HV := hid (line_err (f := regV) (m := immR D) HOP.out h15 (show partsR regV (immR D) (IP.hA k) (IP.hB k) (IP.hC k) (y1 :: (y2 :: (y3 :: r3))) = ⟨(immR D y3).2, 0, 0, 0, []⟩ by rw [HA.out, HB2.out, HC.out]; simp [partsR, stepW, HR1.out, HR2.out, he]) he)
                          have heb : ((immR D y3).2 != 0) = true := by simpa using he
                          go_wp2_with fail
                          have q := four_set (v0 := .int .i64 0) (v1 := .int .i64 0) (v2 := .int .i64 0) (v3 := .int .i64 0) c5
                          exact bodyPost_ret (v := .tuple #[insA (0, 0, 0, 0), .int .i64 (immR D y3).2]) (by simp [results, Tryd.results39, go_sem, q 0, q 1, q 2, q 3, insA]) rfl ⟨by rw [HV.out], bset (bset (bset (bset B5.out (Nat.le_refl _) _) (Nat.le_refl _) _) (Nat.le_refl _) _) (Nat.le_refl _) _⟩
                  · have h2i : (y2.size : Int) ≠ 2 := by omega
                    have HR2 := hid (reg_no (t := y2) (fun e => by obtain ⟨e, _⟩ := e; exact h2 e))
                    clear h2
                    have HV := hid (line_err (f := regV) (m := immR D) HOP.out h15 (show partsR regV (immR D) (IP.hA k) (IP.hB k) (IP.hC k) (y1 :: (y2 :: r2)) = ⟨1, 0, 0, 0, []⟩ by rw [HA.out, HB2.out, HC.out]; simp [partsR, stepW, HR1.out, HR2.out]) (by decide))
                    go_wp2_with fail
                    have q := four_set (v0 := .int .i64 0) (v1 := .int .i64 0) (v2 := .int .i64 0) (v3 := .int .i64 0) c3
                    exact bodyPost_ret (v := .tuple #[insA (0, 0, 0, 0), .int .i64 1]) (by simp [results, Tryd.results39, go_sem, q 0, q 1, q 2, q 3, insA]) rfl ⟨by rw [HV.out], bset (bset (bset (bset B3.out (Nat.le_refl _) _) (Nat.le_refl _) _) (Nat.le_refl _) _) (Nat.le_refl _) _⟩
            · have h2i : (y1.size : Int) ≠ 2 := by omega
              have HR1 := hid (reg_no (t := y1) (fun e => by obtain ⟨e, _⟩ := e; exact h2 e))
              clear h2
              have HV := hid (line_err (f := regV) (m := immR D) HOP.out h15 (show partsR regV (immR D) (IP.hA k) (IP.hB k) (IP.hC k) (y1 :: r1) = ⟨1, 0, 0, 0, []⟩ by rw [HA.out, HB2.out, HC.out]; simp [partsR, stepW, HR1.out]) (by decide))
              go_wp2_with fail
              have q := four_set (v0 := .int .i64 0) (v1 := .int .i64 0) (v2 := .int .i64 0) (v3 := .int .i64 0) c2
              exact bodyPost_ret (v := .tuple #[insA (0, 0, 0, 0), .int .i64 1]) (by simp [results, Tryd.results39, go_sem, q 0, q 1, q 2, q 3, insA]) rfl ⟨by rw [HV.out], bset (bset (bset (bset B2.out (Nat.le_refl _) _) (Nat.le_refl _) _) (Nat.le_refl _) _) (Nat.le_refl _) _⟩
        · have HA := hid h1
          have HB2 := hid h2
          have HC := hid h3
          have h15 : k ≠ 15 := by omega
          clear h1 h2 h3
          have ci2 := cells_alloc (cells_new W1 #[.int .i64 (k : Int), .int .i64 0, .int .i64 0, .int .i64 0] 34) (by simp) (.cells #[.bool false, .bool false] 4)
          have fi2 := froz_alloc (W := W1.alloc (.cells #[.int .i64 (k : Int), .int .i64 0, .int .i64 0, .int .i64 0] 34)) (C := W1.heap.size) (fun o => World.frozen?_alloc_at _ _ _ _ rfl) (by simp) (.cells #[.bool false, .bool false] 4)
          have cg2 := cells_at (W1.alloc (.cells #[.int .i64 (k : Int), .int .i64 0, .int .i64 0, .int .i64 0] 34)) #[.bool false, .bool false] 4 (W1.heap.size + 1) (by simp)
          have c2 := cells_alloc (cells_alloc c1 z1 (.cells #[.int .i64 (k : Int), .int .i64 0, .int .i64 0, .int .i64 0] 34)) (by simp; omega) (.cells #[.bool false, .bool false] 4)
          have f2 := froz_alloc (froz_alloc f1 z1 (.cells #[.int .i64 (k : Int), .int .i64 0, .int .i64 0, .int .i64 0] 34)) (by simp; omega) (.cells #[.bool false, .bool false] 4)
          have B2 := hid (show Below w.heap.size w ((W1.alloc (.cells #[.int .i64 (k : Int), .int .i64 0, .int .i64 0, .int .i64 0] 34)).alloc (.cells #[.bool false, .bool false] 4)) from bal (bal B1.out _) _)
          have z2 : ((W1.alloc (.cells #[.int .i64 (k : Int), .int .i64 0, .int .i64 0, .int .i64 0] 34)).alloc (.cells #[.bool false, .bool false] 4)).heap.size = W1.heap.size + 2 := by simp
          clear c1 f1 m0
          go_wp2_with fail
          generalize (W1.alloc (.cells #[.int .i64 (k : Int), .int .i64 0, .int .i64 0, .int .i64 0] 34)).alloc (.cells #[.bool false, .bool false] 4) = W2 at *
          refine wp_loop_rounds 3 ?_
          rw [rounds_succ]
          go_wp2_with fail
          rw [rounds_succ]
          go_wp2_with fail
          rw [rounds_succ]
          cases rs with
          | nil =>
            have hNe : ¬ ((1 : Int) < (N : Int)) := by have := HN.out; simp at this; omega
            have HV := hid (line_err (f := regV) (m := immR D) HOP.out h15 (show partsR regV (immR D) (IP.hA k) (IP.hB k) (IP.hC k) [] = ⟨10, 0, 0, 0, []⟩ by rw [HA.out, HB2.out, HC.out]; simp [partsR, stepW]) (by decide))
            go_wp2_with fail
            have q := four_set (v0 := .int .i64 0) (v1 := .int .i64 0) (v2 := .int .i64 0) (v3 := .int .i64 0) c2
            exact bodyPost_ret (v := .tuple #[insA (0, 0, 0, 0), .int .i64 10]) (by simp [results, Tryd.results39, go_sem, q 0, q 1, q 2, q 3, insA]) rfl ⟨by rw [HV.out], bset (bset (bset (bset B2.out (Nat.le_refl _) _) (Nat.le_refl _) _) (Nat.le_refl _) _) (Nat.le_refl _) _⟩
          | cons y1 r1 =>
            have hNe : (1 : Int) < (N : Int) := by have := HN.out; simp at this; omega
            have s1 : W2.cell? ⟨wb, off + 1, none⟩ = some (.string y1) := (HS.out.below B2.out) 1 (by simp)
            have HIM := hid (immRead_any y1 b n D W2 (HD.out.below B2.out) (HZ.out y1 (by simp)))
            go_wp2_with fail
            refine HIM.out.mono ?_
            rintro e V ⟨rfl, hbV⟩
            have ci3 := cells_next ci2 (by omega) hbV
            have fi3 : ∀ o, V.frozen? ⟨W1.heap.size, o, none⟩ = false := fun o => (hbV.frozen (p := ⟨W1.heap.size, o, none⟩) (by show W1.heap.size < _; omega)).trans (fi2 o)
            have cg3 := cells_next cg2 (by omega) hbV
            have c3 := cells_next c2 (by omega) hbV
            have f3 : ∀ o, V.frozen? ⟨w.heap.size, o, none⟩ = false := fun o => (hbV.frozen (p := ⟨w.heap.size, o, none⟩) (by show w.heap.size < _; omega)).trans (f2 o)
            have B3 := hid (btr B2.out hbV)
            have z3 : W1.heap.size + 2 ≤ V.heap.size := by have := hbV.size; omega
            clear hbV HIM ci2 fi2 cg2 c2 f2 s1 hNe
            generalize V = W3 at *
            by_cases he : (immR D y1).2 = 0
            · have HI1 := hid he
              rw [he]
              clear he
              have hW : W1.heap.size ≠ w.heap.size := by omega
              have ci4 := cells_set ci3 3 (by simp) (.int .i64 (immR D y1).1)
              have c4 := cells_far (i := 3) c3 (show W1.heap.size ≠ w.heap.size by omega) (.int .i64 (immR D y1).1)
              have B4 := hid (bset B3.out (b := W1.heap.size) (o := 3) (by omega) (.int .i64 (immR D y1).1))
              cases r1 with
              | nil =>
                have hNe : ¬ ((2 : Int) < (N : Int)) := by have := HN.out; simp at this; omega
                have HV := hid (line_ok (f := regV) (m := immR D) HOP.out h15 (show partsR regV (immR D) (IP.hA k) (IP.hB k) (IP.hC k) (y1 :: []) = ⟨0, 0, 0, (immR D y1).1, []⟩ by rw [HA.out, HB2.out, HC.out]; simp [partsR, stepW, HI1.out]) rfl rfl)
                go_wp2_with fail
                have q := four_set (v0 := .int .i64 (k : Int)) (v1 := .int .i64 0) (v2 := .int .i64 0) (v3 := .int .i64 (immR D y1).1) c4
                exact bodyPost_ret (v := .tuple #[insA ((k : Int), 0, 0, (immR D y1).1), .int .i64 0]) (by simp [results, Tryd.results39, go_sem, q 0, q 1, q 2, q 3, insA]) rfl ⟨by rw [HV.out], bset (bset (bset (bset B4.out (Nat.le_refl _) _) (Nat.le_refl _) _) (Nat.le_refl _) _) (Nat.le_refl _) _⟩
              | cons y2 r2 =>
                have hNe : (2 : Int) < (N : Int) := by have := HN.out; simp at this; omega
                have HV := hid (line_left (f := regV) (m := immR D) HOP.out h15 (show partsR regV (immR D) (IP.hA k) (IP.hB k) (IP.hC k) (y1 :: (y2 :: r2)) = ⟨0, 0, 0, (immR D y1).1, y2 :: r2⟩ by rw [HA.out, HB2.out, HC.out]; simp [partsR, stepW, HI1.out]) rfl (by simp))
                go_wp2_with fail
                have q := four_set (v0 := .int .i64 0) (v1 := .int .i64 0) (v2 := .int .i64 0) (v3 := .int .i64 0) c4
                exact bodyPost_ret (v := .tuple #[insA (0, 0, 0, 0), .int .i64 1]) (by simp [results, Tryd.results39, go_sem, q 0, q 1, q 2, q 3, insA]) rfl ⟨by rw [HV.out], bset (bset (bset (bset B4.out (Nat.le_refl _) _) (Nat.le_refl _) _) (Nat.le_refl _) _) (Nat.le_refl _) _⟩
            · have HV := hid (line_err (f := regV) (m := immR D) HOP.out h15 (show partsR regV (immR D) (IP.hA k) (IP.hB k) (IP.hC k) (y1 :: r1) = ⟨(immR D y1).2, 0, 0, 0, []⟩ by rw [HA.out, HB2.out, HC.out]; simp [partsR, stepW, he]) he)
              have heb : ((immR D y1).2 != 0) = true := by simpa using he
              go_wp2_with fail
              have q := four_set (v0 := .int .i64 0) (v1 := .int .i64 0) (v2 := .int .i64 0) (v3 := .int .i64 0) c3
              exact bodyPost_ret (v := .tuple #[insA (0, 0, 0, 0), .int .i64 (immR D y1).2]) (by simp [results, Tryd.results39, go_sem, q 0, q 1, q 2, q 3, insA]) rfl ⟨by rw [HV.out], bset (bset (bset (bset B3.out (Nat.le_refl _) _) (Nat.le_refl _) _) (Nat.le_refl _) _) (Nat.le_refl _) _⟩
        · have HA := hid h1
          have HB2 := hid h2
          have HC := hid h3
          have h15 : k ≠ 15 := by omega
          clear h1 h2 h3
          have ci2 := cells_alloc (cells_new W1 #[.int .i64 (k : Int), .int .i64 0, .int .i64 0, .int .i64 0] 34) (by simp) (.cells #[.bool true, .bool true] 4)
          have fi2 := froz_alloc (W := W1.alloc (.cells #[.int .i64 (k : Int), .int .i64 0, .int .i64 0, .int .i64 0] 34)) (C := W1.heap.size) (fun o => World.frozen?_alloc_at _ _ _ _ rfl) (by simp) (.cells #[.bool true, .bool true] 4)
          have cg2 := cells_at (W1.alloc (.cells #[.int .i64 (k : Int), .int .i64 0, .int .i64 0, .int .i64 0] 34)) #[.bool true, .bool true] 4 (W1.heap.size + 1) (by simp)
          have c2 := cells_alloc (cells_alloc c1 z1 (.cells #[.int .i64 (k : Int), .int .i64 0, .int .i64 0, .int .i64 0] 34)) (by simp; omega) (.cells #[.bool true, .bool true] 4)
          have f2 := froz_alloc (froz_alloc f1 z1 (.cells #[.int .i64 (k : Int), .int .i64 0, .int .i64 0, .int .i64 0] 34)) (by simp; omega) (.cells #[.bool true, .bool true] 4)
          have B2 := hid (show Below w.heap.size w ((W1.alloc (.cells #[.int .i64 (k : Int), .int .i64 0, .int .i64 0, .int .i64 0] 34)).alloc (.cells #[.bool true, .bool true] 4)) from bal (bal B1.out _) _)
          have z2 : ((W1.alloc (.cells #[.int .i64 (k : Int), .int .i64 0, .int .i64 0, .int .i64 0] 34)).alloc (.cells #[.bool true, .bool true] 4)).heap.size = W1.heap.size + 2 := by simp
          clear c1 f1 m0
          go_wp2_with fail
          generalize (W1.alloc (.cells #[.int .i64 (k : Int), .int .i64 0, .int .i64 0, .int .i64 0] 34)).alloc (.cells #[.bool true, .bool true] 4) = W2 at *
          refine wp_loop_rounds 3 ?_
          rw [rounds_succ]
          cases rs with
          | nil =>
            have hNe : ¬ ((1 : Int) < (N : Int)) := by have := HN.out; simp at this; omega
            have HV := hid (line_err (f := regV) (m := immR D) HOP.out h15 (show partsR regV (immR D) (IP.hA k) (IP.hB k) (IP.hC k) [] = ⟨10, 0, 0, 0, []⟩ by rw [HA.out, HB2.out, HC.out]; simp [partsR, stepW]) (by decide))
            go_wp2_with fail
            have q := four_set (v0 := .int .i64 0) (v1 := .int .i64 0) (v2 := .int .i64 0) (v3 := .int .i64 0) c2
            exact bodyPost_ret (v := .tuple #[insA (0, 0, 0, 0), .int .i64 10]) (by simp [results, Tryd.results39, go_sem, q 0, q 1, q 2, q 3, insA]) rfl ⟨by rw [HV.out], bset (bset (bset (bset B2.out (Nat.le_refl _) _) (Nat.le_refl _) _) (Nat.le_refl _) _) (Nat.le_refl _) _⟩
          | cons y1 r1 =>
            have hNe : (1 : Int) < (N : Int) := by have := HN.out; simp at this; omega
            have s1 : W2.cell? ⟨wb, off + 1, none⟩ = some (.string y1) := (HS.out.below B2.out) 1 (by simp)
            by_cases h2 : y1.size = 2
            · have h2i : (y1.size : Int) = 2 := by omega
              have p0 : 0 < y1.size := by omega
              have p1 : 1 < y1.size := by omega
              have hq : (y1[0].toNat : Int) ≠ 114 ∨ ((y1[0].toNat : Int) = 114 ∧ (y1[1].toNat : Int) < 48) ∨ ((y1[0].toNat : Int) = 114 ∧ ¬ (y1[1].toNat : Int) < 48 ∧ (55 : Int) < y1[1].toNat) ∨ ((y1[0].toNat : Int) = 114 ∧ ¬ (y1[1].toNat : Int) < 48 ∧ ¬ (55 : Int) < y1[1].toNat) := by omega
              rcases hq with hq | ⟨hq, hq1⟩ | ⟨hq, hq1, hq2⟩ | ⟨hq, hq1, hq2⟩
              · have HR1 := hid (reg_no (t := y1) (fun e => by obtain ⟨_, e, _⟩ := e; omega))
                have HV := hid (line_err (f := regV) (m := immR D) HOP.out h15 (show partsR regV (immR D) (IP.hA k) (IP.hB k) (IP.hC k) (y1 :: r1) = ⟨1, 0, 0, 0, []⟩ by rw [HA.out, HB2.out, HC.out]; simp [partsR, stepW, HR1.out]) (by decide))
                go_wp2_with fail
                have q := four_set (v0 := .int .i64 0) (v1 := .int .i64 0) (v2 := .int .i64 0) (v3 := .int .i64 0) c2
                exact bodyPost_ret (v := .tuple #[insA (0, 0, 0, 0), .int .i64 1]) (by simp [results, Tryd.results39, go_sem, q 0, q 1, q 2, q 3, insA]) rfl ⟨by rw [HV.out], bset (bset (bset (bset B2.out (Nat.le_refl _) _) (Nat.le_refl _) _) (Nat.le_refl _) _) (Nat.le_refl _) _⟩
              · have HR1 := hid (reg_no (t := y1) (fun e => by obtain ⟨_, _, e, _⟩ := e; omega))
                have HV := hid (line_err (f := regV) (m := immR D) HOP.out h15 (show partsR regV (immR D) (IP.hA k) (IP.hB k) (IP.hC k) (y1 :: r1) = ⟨1, 0, 0, 0, []⟩ by rw [HA.out, HB2.out, HC.out]; simp [partsR, stepW, HR1.out]) (by decide))
                go_wp2_with fail
                have q := four_set (v0 := .int .i64 0) (v1 := .int .i64 0) (v2 := .int .i64 0) (v3 := .int .i64 0) c2
                exact bodyPost_ret (v := .tuple #[insA (0, 0, 0, 0), .int .i64 1]) (by simp [results, Tryd.results39, go_sem, q 0, q 1, q 2, q 3, insA]) rfl ⟨by rw [HV.out], bset (bset (bset (bset B2.out (Nat.le_refl _) _) (Nat.le_refl _) _) (Nat.le_refl _) _) (Nat.le_refl _) _⟩
              · have HR1 := hid (reg_no (t := y1) (fun e => by obtain ⟨_, _, _, e⟩ := e; omega))
                have HV := hid (line_err (f := regV) (m := immR D) HOP.out h15 (show partsR regV (immR D) (IP.hA k) (IP.hB k) (IP.hC k) (y1 :: r1) = ⟨1, 0, 0, 0, []⟩ by rw [HA.out, HB2.out, HC.out]; simp [partsR, stepW, HR1.out]) (by decide))
                go_wp2_with fail
                have q := four_set (v0 := .int .i64 0) (v1 := .int .i64 0) (v2 := .int .i64 0) (v3 := .int .i64 0) c2
                exact bodyPost_ret (v := .tuple #[insA (0, 0, 0, 0), .int .i64 1]) (by simp [results, Tryd.results39, go_sem, q 0, q 1, q 2, q 3, insA]) rfl ⟨by rw [HV.out], bset (bset (bset (bset B2.out (Nat.le_refl _) _) (Nat.le_refl _) _) (Nat.le_refl _) _) (Nat.le_refl _) _⟩
              · have HR1 := hid (reg_yes h2 ⟨by omega, by omega, by omega⟩)
                go_wp2_with fail
                clear hq hq1 hq2 hNe s1
                have ci3 := cells_set ci2 1 (by simp) (.int .i64 ((y1[1].toNat : Int) - 48))
                have fi3 : ∀ o, (W2.setCell ⟨W1.heap.size, 1, none⟩ (.int .i64 ((y1[1].toNat : Int) - 48))).frozen? ⟨W1.heap.size, o, none⟩ = false := fun o => by simpa using fi2 o
                have cg3 := cells_far (i := 1) cg2 (show W1.heap.size ≠ W1.heap.size + 1 by omega) (.int .i64 ((y1[1].toNat : Int) - 48))
                have c3 := cells_far (i := 1) c2 (show W1.heap.size ≠ w.heap.size by omega) (.int .i64 ((y1[1].toNat : Int) - 48))
                have f3 : ∀ o, (W2.setCell ⟨W1.heap.size, 1, none⟩ (.int .i64 ((y1[1].toNat : Int) - 48))).frozen? ⟨w.heap.size, o, none⟩ = false := fun o => by simpa using f2 o
                have B3 := hid (bset B2.out (b := W1.heap.size) (o := 1) (by omega) (.int .i64 ((y1[1].toNat : Int) - 48)))
                have z3 : (W2.setCell ⟨W1.heap.size, 1, none⟩ (.int .i64 ((y1[1].toNat : Int) - 48))).heap.size = W2.heap.size := size_one _ _ _
                generalize W2.setCell ⟨W1.heap.size, 1, none⟩ (.int .i64 ((y1[1].toNat : Int) - 48)) = W3 at *
                rw [rounds_succ]
                cases r1 with
                | nil =>
                  have hNe : ¬ ((2 : Int) < (N : Int)) := by have := HN.out; simp at this; omega
                  have HV := hid (line_err (f := regV) (m := immR D) HOP.out h15 (show partsR regV (immR D) (IP.hA k) (IP.hB k) (IP.hC k) (y1 :: []) = ⟨10, 0, 0, 0, []⟩ by rw [HA.out, HB2.out, HC.out]; simp [partsR, stepW, HR1.out]) (by decide))
                  go_wp2_with fail
                  have q := four_set (v0 := .int .i64 0) (v1 := .int .i64 0) (v2 := .int .i64 0) (v3 := .int .i64 0) c3
                  exact bodyPost_ret (v := .tuple #[insA (0, 0, 0, 0), .int .i64 10]) (by simp [results, Tryd.results39, go_sem, q 0, q 1, q 2, q 3, insA]) rfl ⟨by rw [HV.out], bset (bset (bset (bset B3.out (Nat.le_refl _) _) (Nat.le_refl _) _) (Nat.le_refl _) _) (Nat.le_refl _) _⟩
                | cons y2 r2 =>
                  have hNe : (2 : Int) < (N : Int) := by have := HN.out; simp at this; omega
                  have s2 : W3.cell? ⟨wb, off + 2, none⟩ = some (.string y2) := (HS.out.below B3.out) 2 (by simp)
                  by_cases h2 : y2.size = 2
                  · have h2i : (y2.size : Int) = 2 := by omega
                    have p0 : 0 < y2.size := by omega
                    have p1 : 1 < y2.size := by omega
                    have hq : (y2[0].toNat : Int) ≠ 114 ∨ ((y2[0].toNat : Int) = 114 ∧ (y2[1].toNat : Int) < 48) ∨ ((y2[0].toNat : Int) = 114 ∧ ¬ (y2[1].toNat : Int) < 48 ∧ (55 : Int) < y2[1].toNat) ∨ ((y2[0].toNat : Int) = 114 ∧ ¬ (y2[1].toNat : Int) < 48 ∧ ¬ (55 : Int) < y2[1].toNat) := by omega
                    rcases hq with hq | ⟨hq, hq1⟩ | ⟨hq, hq1, hq2⟩ | ⟨hq, hq1, hq2⟩
                    · have HR2 := hid (reg_no (t := y2) (fun e => by obtain ⟨_, e, _⟩ := e; omega))
                      have HV := hid (line_err (f := regV) (m := immR D) HOP.out h15 (show partsR regV (immR D) (IP.hA k) (IP.hB k) (IP.hC k) (y1 :: (y2 :: r2)) = ⟨1, 0, 0, 0, []⟩ by rw [HA.out, HB2.out, HC.out]; simp [partsR, stepW, HR1.out, HR2.out]) (by decide))
                      go_wp2_with fail
                      have q := four_set (v0 := .int .i64 0) (v1 := .int .i64 0) (v2 := .int .i64 0) (v3 := .int .i64 0) c3
                      exact bodyPost_ret (v := .tuple #[insA (0, 0, 0, 0), .int .i64 1]) (by simp [results, Tryd.results39, go_sem, q 0, q 1, q 2, q 3, insA]) rfl ⟨by rw [HV.out], bset (bset (bset (bset B3.out (Nat.le_refl _) _) (Nat.le_refl _) _) (Nat.le_refl _) _) (Nat.le_refl _) _⟩
                    · have HR2 := hid (reg_no (t := y2) (fun e => by obtain ⟨_, _, e, _⟩ := e; omega))
                      have HV := hid (line_err (f := regV) (m := immR D) HOP.out h15 (show partsR regV (immR D) (IP.hA k) (IP.hB k) (IP.hC k) (y1 :: (y2 :: r2)) = ⟨1, 0, 0, 0, []⟩ by rw [HA.out, HB2.out, HC.out]; simp [partsR, stepW, HR1.out, HR2.out]) (by decide))
                      go_wp2_with fail
                      have q := four_set (v0 := .int .i64 0) (v1 := .int .i64 0) (v2 := .int .i64 0) (v3 := .int .i64 0) c3
                      exact bodyPost_ret (v := .tuple #[insA (0, 0, 0, 0), .int .i64 1]) (by simp [results, Tryd.results39, go_sem, q 0, q 1, q 2, q 3, insA]) rfl ⟨by rw [HV.out], bset (bset (bset (bset B3.out (Nat.le_refl _) _) (Nat.le_refl _) _) (Nat.le_refl _) _) (Nat.le_refl _) _⟩
                    · have HR2 := hid (reg_no (t := y2) (fun e => by obtain ⟨_, _, _, e⟩ := e; omega))
                      have HV := hid (line_err (f := regV) (m := immR D) HOP.out h15 (show partsR regV (immR D) (IP.hA k) (IP.hB k) (IP.hC k) (y1 :: (y2 :: r2)) = ⟨1, 0, 0, 0, []⟩ by rw [HA.out, HB2.out, HC.out]; simp [partsR, stepW, HR1.out, HR2.out]) (by decide))
                      go_wp2_with fail
                      have q := four_set (v0 := .int .i64 0) (v1 := .int .i64 0) (v2 := .int .i64 0) (v3 := .int .i64 0) c3
                      exact bodyPost_ret (v := .tuple #[insA (0, 0, 0, 0), .int .i64 1]) (by simp [results, Tryd.results39, go_sem, q 0, q 1, q 2, q 3, insA]) rfl ⟨by rw [HV.out], bset (bset (bset (bset B3.out (Nat.le_refl _) _) (Nat.le_refl _) _) (Nat.le_refl _) _) (Nat.le_refl _) _⟩
                    · have HR2 := hid (reg_yes h2 ⟨by omega, by omega, by omega⟩)
                      go_wp2_with fail
                      clear hq hq1 hq2 hNe s2
                      have ci4 := cells_set ci3 2 (by simp) (.int .i64 ((y2[1].toNat : Int) - 48))
                      have fi4 : ∀ o, (W3.setCell ⟨W1.heap.size, 2, none⟩ (.int .i64 ((y2[1].toNat : Int) - 48))).frozen? ⟨W1.heap.size, o, none⟩ = false := fun o => by simpa using fi3 o
                      have cg4 := cells_far (i := 2) cg3 (show W1.heap.size ≠ W1.heap.size + 1 by omega) (.int .i64 ((y2[1].toNat : Int) - 48))
                      have c4 := cells_far (i := 2) c3 (show W1.heap.size ≠ w.heap.size by omega) (.int .i64 ((y2[1].toNat : Int) - 48))
                      have f4 : ∀ o, (W3.setCell ⟨W1.heap.size, 2, none⟩ (.int .i64 ((y2[1].toNat : Int) - 48))).frozen? ⟨w.heap.size, o, none⟩ = false := fun o => by simpa using f3 o
                      have B4 := hid (bset B3.out (b := W1.heap.size) (o := 2) (by omega) (.int .i64 ((y2[1].toNat : Int) - 48)))
                      have z4 : (W3.setCell ⟨W1.heap.size, 2, none⟩ (.int .i64 ((y2[1].toNat : Int) - 48))).heap.size = W3.heap.size := size_one _ _ _
                      generalize W3.setCell ⟨W1.heap.size, 2, none⟩ (.int .i64 ((y2[1].toNat : Int) - 48)) = W4 at *
                      rw [rounds_succ]
                      cases r2 with
                      | nil =>
                        have hNe : ¬ ((3 : Int) < (N : Int)) := by have := HN.out; simp at this; omega
                        have HV := hid (line_ok (f := regV) (m := immR D) HOP.out h15 (show partsR regV (immR D) (IP.hA k) (IP.hB k) (IP.hC k) (y1 :: (y2 :: [])) = ⟨0, ((y1[1].toNat : Int) - 48), ((y2[1].toNat : Int) - 48), 0, []⟩ by rw [HA.out, HB2.out, HC.out]; simp [partsR, stepW, HR1.out, HR2.out]) rfl rfl)
                        go_wp2_with fail
                        have q := four_set (v0 := .int .i64 (k : Int)) (v1 := .int .i64 ((y1[1].toNat : Int) - 48)) (v2 := .int .i64 ((y2[1].toNat : Int) - 48)) (v3 := .int .i64 0) c4
                        exact bodyPost_ret (v := .tuple #[insA ((k : Int), ((y1[1].toNat : Int) - 48), ((y2[1].toNat : Int) - 48), 0), .int .i64 0]) (by simp [results, Tryd.results39, go_sem, q 0, q 1, q 2, q 3, insA]) rfl ⟨by rw [HV.out], bset (bset (bset (bset B4.out (Nat.le_refl _) _) (Nat.le_refl _) _) (Nat.le_refl _) _) (Nat.le_refl _) _⟩
                      | cons y3 r3 =>
                        have hNe : (3 : Int) < (N : Int) := by have := HN.out; simp at this; omega
                        have HV := hid (line_left (f := regV) (m := immR D) HOP.out h15 (show partsR regV (immR D) (IP.hA k) (IP.hB k) (IP.hC k) (y1 :: (y2 :: (y3 :: r3))) = ⟨0, ((y1[1].toNat : Int) - 48), ((y2[1].toNat : Int) - 48), 0, y3 :: r3⟩ by rw [HA.out, HB2.out, HC.out]; simp [partsR, stepW, HR1.out, HR2.out]) rfl (by simp))
                        go_wp2_with fail
                        have q := four_set (v0 := .int .i64 0) (v1 := .int .i64 0) (v2 := .int .i64 0) (v3 := .int .i64 0) c4
                        exact bodyPost_ret (v := .tuple #[insA (0, 0, 0, 0), .int .i64 1]) (by simp [results, Tryd.results39, go_sem, q 0, q 1, q 2, q 3, insA]) rfl ⟨by rw [HV.out], bset (bset (bset (bset B4.out (Nat.le_refl _) _) (Nat.le_refl _) _) (Nat.le_refl _) _) (Nat.le_refl _) _⟩
                  · have h2i : (y2.size : Int) ≠ 2 := by omega
                    have HR2 := hid (reg_no (t := y2) (fun e => by obtain ⟨e, _⟩ := e; exact h2 e))
                    clear h2
                    have HV := hid (line_err (f := regV) (m := immR D) HOP.out h15 (show partsR regV (immR D) (IP.hA k) (IP.hB k) (IP.hC k) (y1 :: (y2 :: r2)) = ⟨1, 0, 0, 0, []⟩ by rw [HA.out, HB2.out, HC.out]; simp [partsR, stepW, HR1.out, HR2.out]) (by decide))
                    go_wp2_with fail
                    have q := four_set (v0 := .int .i64 0) (v1 := .int .i64 0) (v2 := .int .i64 0) (v3 := .int .i64 0) c3
                    exact bodyPost_ret (v := .tuple #[insA (0, 0, 0, 0), .int .i64 1]) (by simp [results, Tryd.results39, go_sem, q 0, q 1, q 2, q 3, insA]) rfl ⟨by rw [HV.out], bset (bset (bset (bset B3.out (Nat.le_refl _) _) (Nat.le_refl _) _) (Nat.le_refl _) _) (Nat.le_refl _) _⟩
            · have h2i : (y1.size : Int) ≠ 2 := by omega
              have HR1 := hid (reg_no (t := y1) (fun e => by obtain ⟨e, _⟩ := e; exact h2 e))
              clear h2
              have HV := hid (line_err (f := regV) (m := immR D) HOP.out h15 (show partsR regV (immR D) (IP.hA k) (IP.hB k) (IP.hC k) (y1 :: r1) = ⟨1, 0, 0, 0, []⟩ by rw [HA.out, HB2.out, HC.out]; simp [partsR, stepW, HR1.out]) (by decide))
              go_wp2_with fail
              have q := four_set (v0 := .int .i64 0) (v1 := .int .i64 0) (v2 := .int .i64 0) (v3 := .int .i64 0) c2
              exact bodyPost_ret (v := .tuple #[insA (0, 0, 0, 0), .int .i64 1]) (by simp [results, Tryd.results39, go_sem, q 0, q 1, q 2, q 3, insA]) rfl ⟨by rw [HV.out], bset (bset (bset (bset B2.out (Nat.le_refl _) _) (Nat.le_refl _) _) (Nat.le_refl _) _) (Nat.le_refl _) _⟩
      · have hq : (nameL k == x.toList) = false := by rw [ByteArray.toList_eq]; simpa using he
        have HSN := hid (show ∀ j, j < k + 1 → nameL j ≠ x.data.toList from fun j hj => by
          by_cases e : j = k
          · subst e; exact he
          · exact HG.out j (by omega))
        clear he
        go_wp2_with fail
        go_quiet (fail)
        go_wp2_with fail
        exact ⟨⟨k + 1, by omega, by go_num, HSN.out, hc, hf, below_drewN HB.out nq, hs⟩, by simp [intOf]; omega⟩
    · obtain rfl : k = 15 := by omega
      have HOP := hid (show opN x = 15 by
        have h1 := opN_le x
        by_cases h2 : opN x < 15
        · exact absurd (opN_eq h2) (HG.out _ h2)
        · omega)
      clear n1
      go_wp2_with fail
      go_quiet (fail)
      have c1 : ∀ o, (wr.drewN nq).cell? ⟨w.heap.size, o, none⟩ = (#[.int .i64 0, .int .i64 0, .int .i64 0, .int .i64 0] : Array Value)[o]? := hc
      have f1 : ∀ o, (wr.drewN nq).frozen? ⟨w.heap.size, o, none⟩ = false := hf
      have B1 := hid (below_drewN HB.out nq)
      have m0 : (wr.drewN nq).cell? ⟨0, 0, none⟩ = some (.slice (some ⟨nb, no, none⟩) 15 nc) := n0
      have HV := hid (line_op (f := regV) (m := immR D) (r := rs) HOP.out)
      clear hc hf n0 s0 HG HB
      generalize wr.drewN nq = W1 at *
      go_wp2_with fail
      have q := four_set (v0 := .int .i64 0) (v1 := .int .i64 0) (v2 := .int .i64 0) (v3 := .int .i64 0) c1
      exact bodyPost_ret (v := .tuple #[insA (0, 0, 0, 0), .int .i64 13]) (by simp [results, Tryd.results39, go_sem, q 0, q 1, q 2, q 3, insA]) rfl ⟨by rw [HV.out], bset (bset (bset (bset B1.out (Nat.le_refl _) _) (Nat.le_refl _) _) (Nat.le_refl _) _) (Nat.le_refl _) _⟩
end Go.Proofs.YtfpkbfhaipgibaaDoor.Prs
