/- What a core remembers: world.badMemory; walked. · What a core remembers, by the other text: keyholdref.tlbWell; walked. -/
import Derived.Test.YtoebmjgkfkfhjaaGreatDoorGCount
import Derived.BigQuiet
namespace Go.Proofs.YtoebmjgkfkfhjaaGreatDoor.Wd
open Go.RowKit Go.Proofs.YtoebmjgkfkfhjaaGreatDoor.Mem Go.Proofs.YtoebmjgkfkfhjaaGreatDoor.Bw Go.Proofs.YtoebmjgkfkfhjaaGreatDoor.Nums Go.Proofs.YtoebmjgkfkfhjaaGreatDoor.Mmu

/-- Is the j-th of what is remembered there before, or not told by the tables? -/
def emB (p : PW) (l : List Ent) (j : Nat) (e : Ent) : Bool := (l.take j).any (pg e.1 e.2.1) || !toldB p e
/-- Is what is remembered not well? -/
def bmB (p : PW) (l : List Ent) : Bool := decide (4 < l.length) || (List.range l.length).any fun j => match l[j]? with | some e => emB p l j e | none => false
theorem bm_yes {p : PW} {l : List Ent} (j : Nat) (hj : j < l.length) (h : emB p l j l[j] = true) : bmB p l = true := by
  unfold bmB
  rw [Bool.or_eq_true]
  refine .inr (List.any_eq_true.2 ⟨j, List.mem_range.2 hj, ?_⟩)
  rw [List.getElem?_eq_getElem hj]
  exact h
theorem bm_no {p : PW} {l : List Ent} (h4 : l.length ≤ 4) (h : ∀ j (hj : j < l.length), emB p l j l[j] = false) : bmB p l = false := by
  unfold bmB
  rw [decide_eq_false (by omega), Bool.false_or, List.any_eq_false]
  intro j hj
  have hj2 := List.mem_range.1 hj
  rw [List.getElem?_eq_getElem hj2]
  simp [h j hj2]
theorem find_any_b {l : List Ent} {s g : Int} : (findR l s g).2 = l.any (pg s g) := by
  unfold findR
  split
  · rename_i h
    rw [List.findIdx_lt_length] at h
    exact (List.any_eq_true.2 h).symm
  · rename_i h
    rw [List.findIdx_lt_length] at h
    refine (List.any_eq_false.2 fun x hx hp => h ⟨x, hx, hp⟩).symm
theorem tlb_take {w : World} {b off : Nat} {l : List Ent} (k : Nat) (hk : k ≤ l.length) (hz : EntsAt w b off l) (hl : l.length ≤ 100) (c2 : Nat) : TlbIn w (.slice (some ⟨b, off, none⟩) k c2) (l.take k) := by
  refine ⟨some ⟨b, off, none⟩, b, off, c2, ?_, fun _ => rfl, fun j hj => ?_, ?_⟩
  · rw [List.length_take, Nat.min_eq_left hk]
  · rw [List.length_take] at hj
    have := hz j (by omega)
    simpa using this
  · rw [List.length_take]; omega
set_option maxRecDepth 100000 in
set_option maxHeartbeats 2000000 in
theorem badMemory_any (vb : Nat) (V : Nat → Value) (p : PW) (n : Int) (x : Value) (l : List Ent) (w : World) (hv : ViewAt w vb V p) (hr : RamIn w (V 0) p.ram) (hx : TlbIn w x l) (hm : RoomV x) :
    Calls Tryz.prog 86 #[.pointer (some ⟨vb, 0, none⟩), .int .i64 n, x] w fun r w' => r = .returned (.bool (bmB p l)) ∧ Below w.heap.size w w' := by
  obtain ⟨q, b, off, cap, rfl, hq, hz, hl⟩ := hx
  by_cases h4 : 4 < l.length
  · have h42 : (4 : Int) < (l.length : Int) := by omega
    have HB := hid (show bmB p l = true by unfold bmB; rw [decide_eq_true h4]; rfl)
    clear hv hr hq hz h4 hm
    go_enter Tryz.func86, Tryz.ntmps86
    go_wp2_with fail
    go_ret
    exact ⟨by rw [HB.out]; rfl, Below.refl _ _⟩
  have h42 : ¬ (4 : Int) < (l.length : Int) := by omega
  have hm2 : l.length ≤ cap := hm
  clear hm
  have HV := hid hv
  have HR := hid hr
  have HQ := hid hq
  have HZ := hid hz
  have hl4 : l.length ≤ 4 := by omega
  clear hv hr hq hz h4
  go_enter Tryz.func86, Tryz.ntmps86
  go_wp2_with fail
  go_loopw [16] (fun i wr => ∃ k : Nat, k ≤ l.length ∧ i = .int .i64 k ∧ Hid (∀ j (hj : j < l.length), j < k → emB p l j l[j] = false) ∧ Hid (Below w.heap.size w wr)) (fun i _ => l.length - (intOf i).toNat)
  case atStart => exact ⟨0, by omega, rfl, hid fun j _ h => by omega, hid (Below.refl _ _)⟩
  case round =>
    obtain ⟨k, hk, rfl, HE, HW⟩ := hrel
    by_cases hlt : k < l.length
    · have hlt2 : (k : Int) < (l.length : Int) := by omega
      have hqe := HQ.out (by omega)
      subst hqe
      obtain ⟨c0, c1, c2, c3⟩ := (HZ.out.below HW.out) k hlt
      have HY := hid (show emB p l k l[k] = true → bmB p l = true from fun h => bm_yes k hlt h)
      have HS := hid (show emB p l k l[k] = false → ∀ j (hj : j < l.length), j < k + 1 → emB p l j l[j] = false from fun hf j hj hjk => by
        by_cases e : j = k
        · subst e; exact hf
        · exact HE.out j hj (by omega))
      generalize l[k] = e at c0 c1 c2 c3 HY HS
      obtain ⟨s, g, f, wt⟩ := e
      simp only at c0 c1 c2 c3
      go_upto_region 6 with fail
      have X0 := hid (cells_new wr #[.int .i64 s, .int .i64 g, .int .i64 f, .bool wt] 115)
      have B1 := hid (bal (Below.refl wr.heap.size wr) (.cells #[.int .i64 s, .int .i64 g, .int .i64 f, .bool wt] 115))
      have S0 := hid (show (wr.alloc (.cells #[.int .i64 s, .int .i64 g, .int .i64 f, .bool wt] 115)).heap.size = wr.heap.size + 1 by simp)
      generalize World.alloc _ _ = W0 at X0 B1 S0 ⊢
      have KS := hid (show ∀ W, Below W0.heap.size W0 W → W.cell? ⟨wr.heap.size, 0, none⟩ = some (.int .i64 s) ∧ W.cell? ⟨wr.heap.size, 1, none⟩ = some (.int .i64 g) from fun W hb => ⟨cells_next X0.out (by rw [S0.out]; omega) hb 0, cells_next X0.out (by rw [S0.out]; omega) hb 1⟩)
      have FV := hid (show ∀ W, Below W0.heap.size W0 W → TlbIn W (.slice (some ⟨b, off, none⟩) k cap) (l.take k) from fun W hb => tlb_take k (by omega) (HZ.out.below (btr (btr HW.out B1.out) hb)) (by omega) cap)
      have BD : Hid (Below W0.heap.size W0 W0.drew) := hid (below_drew W0 1)
      have hkc : (k : Int) ≤ (cap : Int) := by omega
      have HFB := hid (find_any_b (l := l.take k) (s := s) (g := g))
      clear c0 c1 c2 c3
      have FA := hid (fun W h => find_any _ (l.take k) s g W (FV.out W h))
      generalize findR (l.take k) s g = fr at FA HFB
      obtain ⟨⟨x, y, z, d⟩, t⟩ := fr
      go_cut [10] (fun r wx => Hid (r = .bool ((l.take k).any (pg s g))) ∧ Hid (Below W0.heap.size W0 wx))
      case first =>
        go_region_held3 (fun W => W.cell? ⟨wr.heap.size, 0, none⟩ = some (.int .i64 s) ∧ W.cell? ⟨wr.heap.size, 1, none⟩ = some (.int .i64 g))
          (first
            | exact KS.out _ K1.out
            | exact KS.out _ (bal A1.out _)
            | exact KS.out _ A1.out
            | exact KS.out _ (bal BD.out _)
            | exact KS.out _ BD.out)
          (first
            | (go_at_call 130; refine (FA.out _ BD.out).mono ?_; rintro r w1 ⟨rfl, hb⟩; have A1 := hid (btr BD.out hb); clear hb; unfold foundV)
            | (go_at_call 130; refine (FA.out _ (bal BD.out _)).mono ?_; rintro r w1 ⟨rfl, hb⟩; have A1 := hid (btr (bal BD.out _) hb); have HX4 := hid (cells_next (cells_at W0.drew #[.int .i64 0, .int .i64 0, .int .i64 0, .bool false] 115 W0.heap.size rfl) (show W0.heap.size < _ by simp) hb); have X4 : ∀ o, w1.cell? ⟨W0.heap.size, o, none⟩ = (#[.int .i64 0, .int .i64 0, .int .i64 0, .bool false] : Array Value)[o]? := HX4.out; have z0 : w1.frozen? ⟨W0.heap.size, 0, none⟩ = false := (hb.frozen (p := ⟨W0.heap.size, 0, none⟩) (by simp)).trans (there_four W0.drew 0 (by decide)); have z1 : w1.frozen? ⟨W0.heap.size, 1, none⟩ = false := (hb.frozen (p := ⟨W0.heap.size, 1, none⟩) (by simp)).trans (there_four W0.drew 1 (by decide)); have z2 : w1.frozen? ⟨W0.heap.size, 2, none⟩ = false := (hb.frozen (p := ⟨W0.heap.size, 2, none⟩) (by simp)).trans (there_four W0.drew 2 (by decide)); have z3 : w1.frozen? ⟨W0.heap.size, 3, none⟩ = false := (hb.frozen (p := ⟨W0.heap.size, 3, none⟩) (by simp)).trans (there_four W0.drew 3 (by decide)); have K1 := hid (show Below W0.heap.size W0 ((((w1.setCell ⟨W0.heap.size, 0, none⟩ (.int .i64 x)).setCell ⟨W0.heap.size, 1, none⟩ (.int .i64 y)).setCell ⟨W0.heap.size, 2, none⟩ (.int .i64 z)).setCell ⟨W0.heap.size, 3, none⟩ (.bool d)) from bset (bset (bset (bset A1.out (Nat.le_refl _) _) (Nat.le_refl _) _) (Nat.le_refl _) _) (Nat.le_refl _) _); clear hb; unfold foundV))
        all_goals (go_wp2_with fail; go_meet; exact ⟨hid (by rw [← HFB.out]), (by first | exact K1 | exact hid (bal A1.out _) | exact A1)⟩)
      case rest =>
        obtain ⟨hx, BX⟩ := hcut
        obtain rfl := hx.out
        have X2 := cells_next X0.out (show wr.heap.size < W0.heap.size by rw [S0.out]; omega) BX.out
        have BY := hid (btr (btr HW.out B1.out) BX.out)
        have HV2 := hid (HV.out.below BY.out)
        have HR2 := hid (HR.out.below BY.out)
        clear X0 KS FV BD FA HFB BX B1 S0 HW
        cases ht : (l.take k).any (pg s g) with
        | true =>
          have HN := hid (HY.out (by unfold emB; rw [ht]; rfl))
          clear ht HS HY
          go_wp2_with fail
          go_quiet (fail)
          have BB := hid (below_drewN BY.out nq)
          generalize World.drewN _ _ = W4 at BB ⊢
          go_wp2_with fail
          go_ret
          exact ⟨by rw [HN.out]; rfl, BB.out⟩
        | false =>
          have HN := hid (show emB p l k (s, g, f, wt) = !toldB p (s, g, f, wt) by unfold emB; rw [ht]; rfl)
          clear ht
          have KS := hid (show ∀ W, Below wc.heap.size wc W → W.cell? ⟨wr.heap.size, 0, none⟩ = some (.int .i64 s) ∧ W.cell? ⟨wr.heap.size, 1, none⟩ = some (.int .i64 g) ∧ W.cell? ⟨wr.heap.size, 2, none⟩ = some (.int .i64 f) ∧ W.cell? ⟨wr.heap.size, 3, none⟩ = some (.bool wt) from fun W hb => by
            have hlt := World.block_lt_of_cell? wc ⟨wr.heap.size, 0, none⟩ (X2 0)
            exact ⟨cells_next X2 hlt hb 0, cells_next X2 hlt hb 1, cells_next X2 hlt hb 2, cells_next X2 hlt hb 3⟩)
          have BD : Hid (Below wc.heap.size wc wc.drew) := hid (below_drew wc 1)
          have d0 := X2 0
          have d1 := X2 1
          have d2 := X2 2
          have d3 := X2 3
          clear X2
          go_wp2_with fail
          go_region_held3 (fun W => W.cell? ⟨wr.heap.size, 0, none⟩ = some (.int .i64 s) ∧ W.cell? ⟨wr.heap.size, 1, none⟩ = some (.int .i64 g) ∧ W.cell? ⟨wr.heap.size, 2, none⟩ = some (.int .i64 f) ∧ W.cell? ⟨wr.heap.size, 3, none⟩ = some (.bool wt))
            (first
              | exact KS.out _ A1.out
              | exact KS.out _ BD.out)
            (first
              | (go_at_call 104; refine (told_any vb V p s g f wt _ (HV2.out.below BD.out) (HR2.out.below BD.out)).mono ?_; rintro r w1 ⟨rfl, hb⟩; have A1 := hid (btr BD.out hb); clear hb))
          have BZ := hid (btr BY.out A1.out)
          cases ht : toldB p (s, g, f, wt) with
          | true =>
            have HM := hid (HS.out (by rw [HN.out, ht]; rfl))
            clear ht HN HY HS
            go_wp2_with fail
            exact ⟨⟨k + 1, by omega, by go_num, HM, BZ⟩, by simp [intOf]; omega⟩
          | false =>
            have HM := hid (HY.out (by rw [HN.out, ht]; rfl))
            clear ht HN HY HS
            go_wp2_with fail
            go_ret
            exact ⟨by rw [HM.out]; rfl, BZ.out⟩
    · obtain rfl : k = l.length := by omega
      have hge : ¬ ((l.length : Int) < (l.length : Int)) := by omega
      have HF := hid (show bmB p l = false from bm_no (by omega) fun k h => HE.out k h h)
      go_wp2_with fail
      go_ret
      exact ⟨by rw [HF.out]; rfl, HW.out⟩
end Go.Proofs.YtoebmjgkfkfhjaaGreatDoor.Wd
namespace Go.Proofs.YtoebmjgkfkfhjaaGreatDoor.Wd
open Go.RowKit Go.Proofs.YtoebmjgkfkfhjaaGreatDoor.Mem Go.Proofs.YtoebmjgkfkfhjaaGreatDoor.Bw Go.Proofs.YtoebmjgkfkfhjaaGreatDoor.Nums Go.Proofs.YtoebmjgkfkfhjaaGreatDoor.Mmu

theorem emB_told {p : PW} {l : List Ent} {j : Nat} {e : Ent} (h : emB p l j e = false) : toldB p e = true ∧ (l.take j).any (pg e.1 e.2.1) = false := by
  unfold emB at h
  rw [Bool.or_eq_false_iff] at h
  exact ⟨by simpa using h.2, h.1⟩
set_option maxRecDepth 100000 in
set_option maxHeartbeats 2000000 in
theorem tlbWell_any (V : Nat → Value) (p : PW) (x : Value) (l : List Ent) (w : World) (hv : WorldV w V p) (hp : p.Fits) (hr : RamIn w (V 0) p.ram) (hx : TlbIn w x l) :
    Calls Tryz.prog 100 #[.agg (arr11 V), x] w fun r w' => r = .returned (.bool (!bmB p l)) ∧ Below w.heap.size w w' := by
  have RG := hid (boxed w V 28)
  have B0 := hid (bal (Below.refl w.heap.size w) (.cells (arr11 V) 28))
  have S0 := hid (show (w.alloc (.cells (arr11 V) 28)).heap.size = w.heap.size + 1 by simp)
  obtain ⟨q, b, off, cap, rfl, hq, hz, hl⟩ := hx
  by_cases h4 : 4 < l.length
  · have h42 : (4 : Int) < (l.length : Int) := by omega
    have HB := hid (show bmB p l = true by unfold bmB; rw [decide_eq_true h4]; rfl)
    clear hv hr hq hz h4 RG S0
    go_enter Tryz.func100, Tryz.ntmps100
    go_wp2_with fail
    go_ret
    exact ⟨by rw [HB.out]; rfl, B0.out⟩
  have h42 : ¬ (4 : Int) < (l.length : Int) := by omega
  have HV := hid hv
  have HP := hid hp
  have HR := hid hr
  have HQ := hid hq
  have HZ := hid hz
  have hl4 : l.length ≤ 4 := by omega
  clear hv hr hq hz h4 hp
  go_enter Tryz.func100, Tryz.ntmps100
  go_wp2_with fail
  generalize World.alloc _ _ = W0 at RG B0 S0 ⊢
  go_loopw [5] (fun i wr => ∃ k : Nat, k ≤ l.length ∧ i = .int .i64 k ∧ Hid (∀ j (hj : j < l.length), j < k → emB p l j l[j] = false) ∧ Hid (Below W0.heap.size W0 wr)) (fun i _ => l.length - (intOf i).toNat)
  case atStart => exact ⟨0, by omega, rfl, hid fun j _ h => by omega, hid (Below.refl _ _)⟩
  case round =>
    obtain ⟨k, hk, rfl, HE, HW⟩ := hrel
    by_cases hlt : k < l.length
    · have hlt2 : (k : Int) < (l.length : Int) := by omega
      have hqe := HQ.out (by omega)
      subst hqe
      have HWW := hid (btr B0.out HW.out)
      obtain ⟨c0, c1, c2, c3⟩ := (HZ.out.below HWW.out) k hlt
      have HY := hid (show emB p l k l[k] = true → bmB p l = true from fun h => bm_yes k hlt h)
      have HS := hid (show emB p l k l[k] = false → ∀ j (hj : j < l.length), j < k + 1 → emB p l j l[j] = false from fun hf j hj hjk => by
        by_cases e : j = k
        · subst e; exact hf
        · exact HE.out j hj (by omega))
      have RG2 := hid (range_below RG.out HW.out)
      generalize l[k] = e at c0 c1 c2 c3 HY HS
      obtain ⟨s, g, f, wt⟩ := e
      simp only at c0 c1 c2 c3
      have X0 := cells_new wr #[.int .i64 s, .int .i64 g, .int .i64 f, .bool wt] 115
      have B1 := hid (bal (Below.refl wr.heap.size wr) (.cells #[.int .i64 s, .int .i64 g, .int .i64 f, .bool wt] 115))
      have RG3 := hid (range_below RG2.out B1.out)
      go_wp2_with (first | ((with_reducible (show wpList _ _ _ (⟨_, Op.load 28 _, _, _, _, _⟩ :: _) _ _)); refine wp_ldW rfl _ rfl _ rfl V RG3.out ?_))
      refine (kindOf_any V p s _ (HV.out.below (btr HWW.out B1.out)) HP.out).mono ?_
      rintro r w1 ⟨rfl, hb1⟩
      have B2 := hid (btr B1.out hb1)
      have B3 := hid (btr HW.out B2.out)
      have B4 := hid (btr B0.out B3.out)
      have X1 := cells_next X0 (show wr.heap.size < _ by simp) hb1
      clear X0 RG3 RG2 hb1 c0 c1 c2 c3
      cases hi : isB p s 4 with
      | false =>
        have HN := hid (HY.out (by unfold emB toldB; rw [hi]; simp))
        have hn2 : ¬ (kindAt p s).getD (-1) = 4 := fun e => by
          rw [isB_kind (by decide), e] at hi
          simp at hi
        clear hi HY HS
        generalize (kindAt p s).getD (-1) = kd at hn2 ⊢
        have hn3 : (kd != 4) = true := by simpa using hn2
        go_wp2_with fail
        go_ret
        exact ⟨by rw [HN.out]; rfl, B4.out⟩
      | true =>
        have HI := hid (show (kindAt p s).getD (-1) = 4 by simpa [isB_kind (p := p) (f := s) (k := 4) (by decide)] using hi)
        rw [HI.out]
        by_cases hg : 0 ≤ g ∧ g ≤ 255
        · have HT := hid (show emB p l k (s, g, f, wt) = ((l.take k).any (pg s g) || !((walkR p.ram s (16 * g)).2.2 == 0 && (walkR p.ram s (16 * g)).1 == f && (walkR p.ram s (16 * g)).2.1 == wt)) by
            unfold emB toldB
            simp only
            rw [hi, decide_eq_true hg, Int.mul_comm g 16]
            rfl)
          have g0 : 0 ≤ g := hg.1
          have g1 : g ≤ 255 := hg.2
          have HG := hid (show decide (g < 0 ∨ 255 < g) = false from decide_eq_false (by omega))
          have hwr : IntKind.i64.wrap (16 * g) = 16 * g := wraps_i64 _ (by omega) (by omega)
          have r0 : w1.cell? ⟨w.heap.size, 0, none⟩ = some (V 0) := range_cell (range_below RG.out B3.out) rfl
          clear hi hg HI
          go_wp2_with fail
          refine (Isa.far_any g 255 w1).mono ?_
          rintro r w2 ⟨rfl, rfl⟩
          rw [HG.out]
          go_wp2_with fail
          refine (walked_any_o _ p.ram s (16 * g) w1 (HR.out.below B4.out)).mono ?_
          rintro r w2 ⟨rfl, rfl⟩
          generalize walkR p.ram s (16 * g) = rr at HT ⊢
          obtain ⟨u, wu, ku⟩ := rr
          simp only at HT ⊢
          clear HG hwr r0
          have x0 := X1 0
          have x1 := X1 1
          have x2 := X1 2
          have x3 := X1 3
          by_cases hk0 : ku = 0
          · subst hk0
            by_cases hu : u = f
            · subst hu
              by_cases hw : wu = wt
              · subst hw
                have HT2 := hid (show emB p l k (s, g, u, wu) = (l.take k).any (pg s g) by rw [HT.out]; simp)
                have HX := hid (show ∀ W, Below w1.heap.size w1 W → W.cell? ⟨wr.heap.size, 0, none⟩ = some (.int .i64 s) ∧ W.cell? ⟨wr.heap.size, 1, none⟩ = some (.int .i64 g) from fun W hb => by
                  have hlt := World.block_lt_of_cell? w1 ⟨wr.heap.size, 0, none⟩ (X1 0)
                  exact ⟨cells_next X1 hlt hb 0, cells_next X1 hlt hb 1⟩)
                clear HT
                go_wp2_with fail
                clear X1 x0 x1 x2 x3
                go_loopw [10] (fun i wq => ∃ m : Nat, m ≤ k ∧ i = .int .i64 m ∧ Hid (∀ j (hj : j < l.length), j < m → pg s g l[j] = false) ∧ Hid (Below w1.heap.size w1 wq)) (fun i _ => k - (intOf i).toNat)
                case atStart => exact ⟨0, by omega, rfl, hid fun j _ h => by omega, hid (Below.refl _ _)⟩
                case round =>
                  obtain ⟨m, hm, rfl, HE2, HW2⟩ := hrel
                  rename_i wq
                  obtain ⟨x0, x1⟩ := HX.out _ HW2.out
                  by_cases hlt3 : m < k
                  · have hlt4 : (m : Int) < (k : Int) := by omega
                    have hlt5 : (m : Int) < (l.length : Int) := by omega
                    obtain ⟨c0, c1, -, -⟩ := (HZ.out.below (btr B4.out HW2.out)) m (by omega)
                    have HS2 := hid (show pg s g l[m] = false → ∀ j (hj : j < l.length), j < m + 1 → pg s g l[j] = false from fun hf j hj hjk => by
                      by_cases e : j = m
                      · subst e; exact hf
                      · exact HE2.out j hj (by omega))
                    have HY2 := hid (show pg s g l[m] = true → (l.take k).any (pg s g) = true from fun h => List.any_eq_true.2 ⟨l[m], by rw [List.mem_iff_getElem]; exact ⟨m, by rw [List.length_take]; omega, by simp⟩, h⟩)
                    generalize l[m] = e at c0 c1 HS2 HY2
                    obtain ⟨e0, e1, e2, e3⟩ := e
                    simp only at c0 c1
                    have HB2 := hid (fun m => below_drewN HW2.out m)
                    by_cases he0 : e0 = s
                    · subst he0
                      by_cases he1 : e1 = g
                      · subst he1
                        have HN := hid (HY.out (by rw [HT2.out]; exact HY2.out (by simp [pg])))
                        clear HT2 HS HY HS2 HY2
                        go_wp2_with fail
                        go_quiet (fail)
                        have BB := hid (HB2.out nq)
                        generalize World.drewN _ _ = W5 at BB ⊢
                        go_wp2_with fail
                        go_ret
                        exact ⟨by rw [HN.out]; rfl, btr B4.out BB.out⟩
                      · have HN := hid (HS2.out (by simp [pg, he1]))
                        have he2 : (e1 == g) = false := by simpa using he1
                        clear HY HS2 HY2
                        go_wp2_with fail
                        go_quiet (fail)
                        have BB := hid (HB2.out nq)
                        generalize World.drewN _ _ = W5 at BB ⊢
                        go_wp2_with fail
                        exact ⟨⟨m + 1, by omega, by go_num, HN, BB⟩, by simp [intOf]; omega⟩
                    · have HN := hid (HS2.out (by simp [pg, he0]))
                      have he2 : (e0 == s) = false := by simpa using he0
                      clear HY HS2 HY2
                      go_wp2_with fail
                      go_quiet (fail)
                      have BB := hid (HB2.out nq)
                      generalize World.drewN _ _ = W5 at BB ⊢
                      go_wp2_with fail
                      exact ⟨⟨m + 1, by omega, by go_num, HN, BB⟩, by simp [intOf]; omega⟩
                  · obtain rfl : m = k := by omega
                    have hge : ¬ ((m : Int) < (m : Int)) := by omega
                    have HM := hid (HS.out (by
                      rw [HT2.out]
                      refine any_no fun j hj => ?_
                      rw [List.length_take] at hj
                      simpa using HE2.out j (by omega) (by omega)))
                    go_wp2_with fail
                    exact ⟨⟨m + 1, by omega, by go_num, HM, hid (btr B3.out HW2.out)⟩, by simp [intOf]; omega⟩
              · have HN := hid (HY.out (by rw [HT.out]; simp [hw]))
                clear HT HS HY
                cases wu <;> cases wt <;> first
                  | exact absurd rfl hw
                  | (go_wp2_with fail
                     go_ret
                     exact ⟨by rw [HN.out]; rfl, B4.out⟩)
            · have HN := hid (HY.out (by rw [HT.out]; simp [hu]))
              have hu2 : (u != f) = true := by simpa using hu
              clear HT HS HY
              go_wp2_with fail
              go_ret
              exact ⟨by rw [HN.out]; rfl, B4.out⟩
          · have HN := hid (HY.out (by rw [HT.out]; simp [hk0]))
            have hk1 : (ku != 0) = true := by simpa using hk0
            clear HT HS HY
            go_wp2_with fail
            go_ret
            exact ⟨by rw [HN.out]; rfl, B4.out⟩
        · have HN := hid (HY.out (by unfold emB toldB; rw [decide_eq_false hg]; simp))
          have HG := hid (show decide (g < 0 ∨ 255 < g) = true from decide_eq_true (by omega))
          clear hi HY HS hg HI
          go_wp2_with fail
          refine (Isa.far_any g 255 w1).mono ?_
          rintro r w2 ⟨rfl, rfl⟩
          rw [HG.out]
          go_wp2_with fail
          go_ret
          exact ⟨by rw [HN.out]; rfl, B4.out⟩
    · obtain rfl : k = l.length := by omega
      have hge : ¬ ((l.length : Int) < (l.length : Int)) := by omega
      have HF := hid (show bmB p l = false from bm_no (by omega) fun k h => HE.out k h h)
      go_wp2_with fail
      go_ret
      exact ⟨by rw [HF.out]; rfl, (btr B0.out HW.out)⟩
end Go.Proofs.YtoebmjgkfkfhjaaGreatDoor.Wd
