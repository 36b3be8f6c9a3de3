/- keyholdref.Found walked: the same findR. -/
import Derived.Test.YtfpkbfhaipgibaaDoorMmuFind
namespace Go.Proofs.YtfpkbfhaipgibaaDoor.Mmu
open Go.RowKit Go.Proofs.YtfpkbfhaipgibaaDoor.Mem Go.Proofs.YtfpkbfhaipgibaaDoor.Bw Go.Proofs.YtfpkbfhaipgibaaDoor.Nums

set_option maxHeartbeats 2000000 in
theorem found_any (v : Value) (l : List Ent) (s p : Int) (w : World) (hv : TlbIn w v l) :
    Calls Tryd.prog 17 #[v, .int .i64 s, .int .i64 p] w fun r w' => r = .returned (foundV (findR l s p)) ∧ Below w.heap.size w w' := by
  obtain ⟨q, b, off, cap, rfl, hq, hz, hl⟩ := hv
  have HQ := hid hq
  have HZ := hid hz
  clear hq hz
  have hl2 : (l.length : Int) ≤ 100 := by omega
  have B0 := hid (bal (Below.refl w.heap.size w) (.cells #[.int .i64 0, .int .i64 0, .int .i64 0, .bool false] 39))
  have X0 := hid (cells_new w #[.int .i64 0, .int .i64 0, .int .i64 0, .bool false] 39)
  have Z0 := hid (there_four w)
  go_enter Tryd.func17, Tryd.ntmps17
  go_wp2_with fail
  generalize World.alloc _ _ = W at B0 X0 Z0 ⊢
  go_loopw [8] (fun i wr => ∃ k : Nat, k ≤ l.length ∧ i = .int .i64 k ∧ Hid (∀ j (hj : j < l.length), j < k → pg s p l[j] = false) ∧ W = wr) (fun i _ => l.length - (intOf i).toNat)
  case atStart => exact ⟨0, by omega, rfl, fun j _ h => by omega, rfl⟩
  case round =>
    obtain ⟨k, hk, rfl, hE, rfl⟩ := hrel
    have X2 := X0.out
    have z0 := Z0.out 0 (by decide)
    have z1 := Z0.out 1 (by decide)
    have z2 := Z0.out 2 (by decide)
    have z3 := Z0.out 3 (by decide)
    by_cases hlt : k < l.length
    · have hlt2 : (k : Int) < (l.length : Int) := by omega
      have hk3 : ¬ ((k : Int) < 0) := by omega
      have hqe := HQ.out (by omega)
      subst hqe
      obtain ⟨c0, c1, c2, c3⟩ := (HZ.out.below B0.out) k hlt
      have HF := hid (show pg s p l[k] = true → findR l s p = (l[k], true) from fun ht =>
        find_yes hlt ((List.findIdx_eq hlt).2 ⟨ht, fun j hj => hE.out j (by omega) hj⟩))
      have HS := hid (show pg s p l[k] = false → ∀ j (hj : j < l.length), j < k + 1 → pg s p l[j] = false from fun hf j hj hjk => by
        by_cases e : j = k
        · subst e; exact hf
        · exact hE.out j hj (by omega))
      generalize l[k] = e at c0 c1 c2 c3 HF HS
      obtain ⟨x, y, z, u⟩ := e
      simp only at c0 c1 c2 c3
      by_cases h1 : x = s
      · subst h1
        have t1 : (x == x) = true := by simp
        by_cases h2 : y = p
        · subst h2
          have t2 : (y == y) = true := by simp
          have HF2 := hid (HF.out (by simp [pg]))
          clear HF HS
          go_wp2_with fail
          have four := four_set (v0 := .int .i64 x) (v1 := .int .i64 y) (v2 := .int .i64 z) (v3 := .bool u) X2
          refine bodyPost_ret (v := foundV ((x, y, z, u), true)) (by simp [foundV, results, Tryd.results17, go_sem, four]) rfl ⟨by rw [HF2.out], ?_⟩
          exact bset (bset (bset (bset B0.out (Nat.le_refl _) _) (Nat.le_refl _) _) (Nat.le_refl _) _) (Nat.le_refl _) _
        · have t2 : (y == p) = false := by simpa using h2
          have HN := hid (HS.out (by simp [pg, h2]))
          clear HF HS
          go_wp2_with fail
          exact ⟨⟨k + 1, by omega, by go_num, HN, by trivial⟩, by simp [intOf]; omega⟩
      · have t1 : (x == s) = false := by simpa using h1
        have HN := hid (HS.out (by simp [pg, h1]))
        clear HF HS
        go_wp2_with fail
        exact ⟨⟨k + 1, by omega, by go_num, HN, by trivial⟩, by simp [intOf]; omega⟩
    · obtain rfl : k = l.length := by omega
      have hge : ¬ ((l.length : Int) < (l.length : Int)) := by omega
      have HF := hid (find_no (l := l) (s := s) (p := p) (by
        intro hlt2
        have := List.findIdx_getElem (w := hlt2)
        rw [hE.out _ hlt2 hlt2] at this
        cases this))
      go_wp2_with fail
      have four := four_set (v0 := .int .i64 0) (v1 := .int .i64 0) (v2 := .int .i64 0) (v3 := .bool false) X2
      refine bodyPost_ret (v := foundV ((0, 0, 0, false), false)) (by simp [foundV, results, Tryd.results17, go_sem, four]) rfl ⟨by rw [HF.out], ?_⟩
      exact bset (bset (bset (bset B0.out (Nat.le_refl _) _) (Nat.le_refl _) _) (Nat.le_refl _) _) (Nat.le_refl _) _
end Go.Proofs.YtfpkbfhaipgibaaDoor.Mmu
