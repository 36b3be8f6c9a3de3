/- What a core remembers: world.badMemory; walked. · What a core remembers, by the other text: keyholdref.tlbWell; walked. -/
import Derived.BigQuiet
import Derived.Test.YtakmaeohhclngaaGreatDoorRan
namespace Go.Proofs.YtakmaeohhclngaaGreatDoor.Wd
open Go.RowKit Go.Proofs.YtakmaeohhclngaaGreatDoor.Mem Go.Proofs.YtakmaeohhclngaaGreatDoor.Bw Go.Proofs.YtakmaeohhclngaaGreatDoor.Nums Go.Proofs.YtakmaeohhclngaaGreatDoor.Mmu

/-- Is the j-th of what is remembered there before, or not told by the tables? -/
def emB (p : PW) (l : List Ent) (j : Nat) (e : Ent) : Bool := (l.take j).any (pg e.1 e.2.1) || !toldB p e
/-- Is what is remembered not well? -/
def bmB (p : PW) (l : List Ent) : Bool := decide (4 < l.length) || (List.range l.length).any fun j => match l[j]? with | some e => emB p l j e | none => false
theorem bm_yes {p : PW} {l : List Ent} (j : Nat) (hj : j < l.length) (h : emB p l j l[j] = true) : bmB p l = true := by
  unfold bmB
  rw [Bool.or_eq_true]
  refine .inr (List.any_eq_true.2 ⟨j, List.mem_range.2 hj, ?_⟩)
  rw [List.getElem?_eq_getElem hj]
  exact h
theorem bm_no {p : PW} {l : List Ent} (h4 : l.length ≤ 4) (h : ∀ j (hj : j < l.length), emB p l j l[j] = false) : bmB p l = false := by
  unfold bmB
  rw [decide_eq_false (by omega), Bool.false_or, List.any_eq_false]
  intro j hj
  have hj2 := List.mem_range.1 hj
  rw [List.getElem?_eq_getElem hj2]
  simp [h j hj2]
theorem find_any_b {l : List Ent} {s g : Int} : (findR l s g).2 = l.any (pg s g) := by
  unfold findR
  split
  · rename_i h
    rw [List.findIdx_lt_length] at h
    exact (List.any_eq_true.2 h).symm
  · rename_i h
    rw [List.findIdx_lt_length] at h
    refine (List.any_eq_false.2 fun x hx hp => h ⟨x, hx, hp⟩).symm
theorem tlb_take {w : World} {b off : Nat} {l : List Ent} (k : Nat) (hk : k ≤ l.length) (hz : EntsAt w b off l) (hl : l.length ≤ 100) (c2 : Nat) : TlbIn w (.slice (some ⟨b, off, none⟩) k c2) (l.take k) := by
  refine ⟨some ⟨b, off, none⟩, b, off, c2, ?_, fun _ => rfl, fun j hj => ?_, ?_⟩
  · rw [List.length_take, Nat.min_eq_left hk]
  · rw [List.length_take] at hj
    have := hz j (by omega)
    simpa using this
  · rw [List.length_take]; omega
set_option maxRecDepth 100000 in
set_option maxHeartbeats 2000000 in
theorem badMemory_any (vb : Nat) (V : Nat → Value) (p : PW) (n : Int) (x : Value) (l : List Ent) (w : World) (hv : ViewAt w vb V p) (hr : RamIn w (V 0) p.ram) (hx : TlbIn w x l) (hm : RoomV x) :
    Calls Tryz.prog 91 #[.pointer (some ⟨vb, 0, none⟩), .int .i64 n, x] w fun r w' => r = .returned (.bool (bmB p l)) ∧ Below w.heap.size w w' := by
  obtain ⟨q, b, off, cap, rfl, hq, hz, hl⟩ := hx
  by_cases h4 : 4 < l.length
  · have h42 : (4 : Int) < (l.length : Int) := by omega
    have HB := hid (show bmB p l = true by unfold bmB; rw [decide_eq_true h4]; rfl)
    clear hv hr hq hz h4 hm
    go_enter Tryz.func91, Tryz.ntmps91
    go_wp2_with fail
    go_ret
    exact ⟨by rw [HB.out]; rfl, Below.refl _ _⟩
  have h42 : ¬ (4 : Int) < (l.length : Int) := by omega
  have hm2 : l.length ≤ cap := hm
  clear hm
  have HV := hid hv
  have HR := hid hr
  have HQ := hid hq
  have HZ := hid hz
  have hl4 : l.length ≤ 4 := by omega
  clear hv hr hq hz h4
  go_enter Tryz.func91, Tryz.ntmps91
  go_wp2_with fail
  go_loopw [16] (fun i wr => ∃ k : Nat, k ≤ l.length ∧ i = .int .i64 k ∧ Hid (∀ j (hj : j < l.length), j < k → emB p l j l[j] = false) ∧ Hid (Below w.heap.size w wr)) (fun i _ => l.length - (intOf i).toNat)
  case atStart => exact ⟨0, by omega, rfl, hid fun j _ h => by omega, hid (Below.refl _ _)⟩
  case round =>
    obtain ⟨k, hk, rfl, HE, HW⟩ := hrel
    by_cases hlt : k < l.length
    · have hlt2 : (k : Int) < (l.length : Int) := by omega
      have hqe := HQ.out (by omega)
      subst hqe
      obtain ⟨c0, c1, c2, c3⟩ := (HZ.out.below HW.out) k hlt
      have HY := hid (show emB p l k l[k] = true → bmB p l = true from fun h => bm_yes k hlt h)
      have HS := hid (show emB p l k l[k] = false → ∀ j (hj : j < l.length), j < k + 1 → emB p l j l[j] = false from fun hf j hj hjk => by
        by_cases e : j = k
        · subst e; exact hf
        · exact HE.out j hj (by omega))
      generalize l[k] = e at c0 c1 c2 c3 HY HS
      obtain ⟨s, g, f, wt⟩ := e
      simp only at c0 c1 c2 c3
      go_upto_region 6 with fail
      have X0 := hid (cells_new wr #[.int .i64 s, .int .i64 g, .int .i64 f, .bool wt] 143)
      have B1 := hid (bal (Below.refl wr.heap.size wr) (.cells #[.int .i64 s, .int .i64 g, .int .i64 f, .bool wt] 143))
      have S0 := hid (show (wr.alloc (.cells #[.int .i64 s, .int .i64 g, .int .i64 f, .bool wt] 143)).heap.size = wr.heap.size + 1 by simp)
      generalize World.alloc _ _ = W0 at X0 B1 S0 ⊢
      have KS := hid (show ∀ W, Below W0.heap.size W0 W → W.cell? ⟨wr.heap.size, 0, none⟩ = some (.int .i64 s) ∧ W.cell? ⟨wr.heap.size, 1, none⟩ = some (.int .i64 g) from fun W hb => ⟨cells_next X0.out (by rw [S0.out]; omega) hb 0, cells_next X0.out (by rw [S0.out]; omega) hb 1⟩)
      have FV := hid (show ∀ W, Below W0.heap.size W0 W → TlbIn W (.slice (some ⟨b, off, none⟩) k cap) (l.take k) from fun W hb => tlb_take k (by omega) (HZ.out.below (btr (btr HW.out B1.out) hb)) (by omega) cap)
      have BD : Hid (Below W0.heap.size W0 W0.drew) := hid (below_drew W0 1)
      have hkc : (k : Int) ≤ (cap : Int) := by omega
      have HFB := hid (find_any_b (l := l.take k) (s := s) (g := g))
      clear c0 c1 c2 c3
      have FA := hid (fun W h => find_any _ (l.take k) s g W (FV.out W h))
      generalize findR (l.take k) s g = fr at FA HFB
      obtain ⟨⟨x, y, z, d⟩, t⟩ := fr
      go_cut [10] (fun r wx => Hid (r = .bool ((l.take k).any (pg s g))) ∧ Hid (Below W0.heap.size W0 wx))
      case first =>
        go_region_held3 (fun W => W.cell? ⟨wr.heap.size, 0, none⟩ = some (.int .i64 s) ∧ W.cell? ⟨wr.heap.size, 1, none⟩ = some (.int .i64 g))
          (first
            | exact KS.out _ K1.out
            | exact KS.out _ (bal A1.out _)
            | exact KS.out _ A1.out
            | exact KS.out _ (bal BD.out _)
            | exact KS.out _ BD.out)
          (first
            | (go_at_call 127; refine (FA.out _ BD.out).mono ?_; rintro r w1 ⟨rfl, hb⟩; have A1 := hid (btr BD.out hb); clear hb; unfold foundV)
            | (go_at_call 127; refine (FA.out _ (bal BD.out _)).mono ?_; rintro r w1 ⟨rfl, hb⟩; have A1 := hid (btr (bal BD.out _) hb); have HX4 := hid (cells_next (cells_at W0.drew #[.int .i64 0, .int .i64 0, .int .i64 0, .bool false] 143 W0.heap.size rfl) (show W0.heap.size < _ by simp) hb); have X4 : ∀ o, w1.cell? ⟨W0.heap.size, o, none⟩ = (#[.int .i64 0, .int .i64 0, .int .i64 0, .bool false] : Array Value)[o]? := HX4.out; have z0 : w1.frozen? ⟨W0.heap.size, 0, none⟩ = false := (hb.frozen (p := ⟨W0.heap.size, 0, none⟩) (by simp)).trans (there_four W0.drew 0 (by decide)); have z1 : w1.frozen? ⟨W0.heap.size, 1, none⟩ = false := (hb.frozen (p := ⟨W0.heap.size, 1, none⟩) (by simp)).trans (there_four W0.drew 1 (by decide)); have z2 : w1.frozen? ⟨W0.heap.size, 2, none⟩ = false := (hb.frozen (p := ⟨W0.heap.size, 2, none⟩) (by simp)).trans (there_four W0.drew 2 (by decide)); have z3 : w1.frozen? ⟨W0.heap.size, 3, none⟩ = false := (hb.frozen (p := ⟨W0.heap.size, 3, none⟩) (by simp)).trans (there_four W0.drew 3 (by decide)); have K1 := hid (show Below W0.heap.size W0 ((((w1.setCell ⟨W0.heap.size, 0, none⟩ (.int .i64 x)).setCell ⟨W0.heap.size, 1, none⟩ (.int .i64 y)).setCell ⟨W0.heap.size, 2, none⟩ (.int .i64 z)).setCell ⟨W0.heap.size, 3, none⟩ (.bool d)) from bset (bset (bset (bset A1.out (Nat.le_refl _) _) (Nat.le_refl _) _) (Nat.le_refl _) _) (Nat.le_refl _) _); clear hb; unfold foundV))
        all_goals (go_wp2_with fail; go_meet; exact ⟨hid (by rw [← HFB.out]), (by first | exact K1 | exact hid (bal A1.out _) | exact A1)⟩)
      case rest =>
        obtain ⟨hx, BX⟩ := hcut
        obtain rfl := hx.out
        have X2 := cells_next X0.out (show wr.heap.size < W0.heap.size by rw [S0.out]; omega) BX.out
        have BY := hid (btr (btr HW.out B1.out) BX.out)
        have HV2 := hid (HV.out.below BY.out)
        have HR2 := hid (HR.out.below BY.out)
        clear X0 KS FV BD FA HFB BX B1 S0 HW
        cases ht : (l.take k).any (pg s g) with
        | true =>
          have HN := hid (HY.out (by unfold emB; rw [ht]; rfl))
          clear ht HS HY
          go_wp2_with fail
          go_quiet (fail)
          have BB := hid (below_drewN BY.out nq)
          generalize World.drewN _ _ = W4 at BB ⊢
          go_wp2_with fail
          go_ret
          exact ⟨by rw [HN.out]; rfl, BB.out⟩
        | false =>
          have HN := hid (show emB p l k (s, g, f, wt) = !toldB p (s, g, f, wt) by unfold emB; rw [ht]; rfl)
          clear ht
          have KS := hid (show ∀ W, Below wc.heap.size wc W → W.cell? ⟨wr.heap.size, 0, none⟩ = some (.int .i64 s) ∧ W.cell? ⟨wr.heap.size, 1, none⟩ = some (.int .i64 g) ∧ W.cell? ⟨wr.heap.size, 2, none⟩ = some (.int .i64 f) ∧ W.cell? ⟨wr.heap.size, 3, none⟩ = some (.bool wt) from fun W hb => by
            have hlt := World.block_lt_of_cell? wc ⟨wr.heap.size, 0, none⟩ (X2 0)
            exact ⟨cells_next X2 hlt hb 0, cells_next X2 hlt hb 1, cells_next X2 hlt hb 2, cells_next X2 hlt hb 3⟩)
          have BD : Hid (Below wc.heap.size wc wc.drew) := hid (below_drew wc 1)
          have d0 := X2 0
          have d1 := X2 1
          have d2 := X2 2
          have d3 := X2 3
          clear X2
          go_wp2_with fail
          go_region_held3 (fun W => W.cell? ⟨wr.heap.size, 0, none⟩ = some (.int .i64 s) ∧ W.cell? ⟨wr.heap.size, 1, none⟩ = some (.int .i64 g) ∧ W.cell? ⟨wr.heap.size, 2, none⟩ = some (.int .i64 f) ∧ W.cell? ⟨wr.heap.size, 3, none⟩ = some (.bool wt))
            (first
              | exact KS.out _ A1.out
              | exact KS.out _ BD.out)
            (first
              | (go_at_call 128; refine (told_any vb V p s g f wt _ (HV2.out.below BD.out) (HR2.out.below BD.out)).mono ?_; rintro r w1 ⟨rfl, hb⟩; have A1 := hid (btr BD.out hb); clear hb))
          have BZ := hid (btr BY.out A1.out)
          cases ht : toldB p (s, g, f, wt) with
          | true =>
            have HM := hid (HS.out (by rw [HN.out, ht]; rfl))
            clear ht HN HY HS
            go_wp2_with fail
            exact ⟨⟨k + 1, by omega, by go_num, HM, BZ⟩, by simp [intOf]; omega⟩
          | false =>
            have HM := hid (HY.out (by rw [HN.out, ht]; rfl))
            clear ht HN HY HS
            go_wp2_with fail
            go_ret
            exact ⟨by rw [HM.out]; rfl, BZ.out⟩
    · obtain rfl : k = l.length := by omega
      have hge : ¬ ((l.length : Int) < (l.length : Int)) := by omega
      have HF := hid (show bmB p l = false from bm_no (by omega) fun k h => HE.out k h h)
      go_wp2_with fail
      go_ret
      exact ⟨by rw [HF.out]; rfl, HW.out⟩
end Go.Proofs.YtakmaeohhclngaaGreatDoor.Wd
namespace Go.Proofs.YtakmaeohhclngaaGreatDoor.Wd
open Go.RowKit Go.Proofs.YtakmaeohhclngaaGreatDoor.Mem Go.Proofs.YtakmaeohhclngaaGreatDoor.Bw Go.Proofs.YtakmaeohhclngaaGreatDoor.Nums Go.Proofs.YtakmaeohhclngaaGreatDoor.Mmu

end Go.Proofs.YtakmaeohhclngaaGreatDoor.Wd
