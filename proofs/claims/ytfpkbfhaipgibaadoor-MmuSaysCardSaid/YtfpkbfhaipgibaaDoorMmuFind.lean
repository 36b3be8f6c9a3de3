/- mmu.Find, keyholdref.Found, keyholdref.Dropped, keyholdref.SameTlb, walked. -/
import Derived.Test.YtfpkbfhaipgibaaDoorMmuEnt
import Derived.Laws.StructEq
namespace Go.Proofs.YtfpkbfhaipgibaaDoor.Mmu
open Go.RowKit Go.Proofs.YtfpkbfhaipgibaaDoor.Mem Go.Proofs.YtfpkbfhaipgibaaDoor.Bw Go.Proofs.YtfpkbfhaipgibaaDoor.Nums

/-- D2: what is remembered of a page. -/
def findR (l : List Ent) (s p : Int) : Ent × Bool := if h : l.findIdx (pg s p) < l.length then (l[l.findIdx (pg s p)], true) else ((0, 0, 0, false), false)
def foundV (r : Ent × Bool) : Value := .tuple #[.agg #[.int .i64 r.1.1, .int .i64 r.1.2.1, .int .i64 r.1.2.2.1, .bool r.1.2.2.2], .bool r.2]
theorem find_yes {l : List Ent} {s p : Int} {k : Nat} (hk : k < l.length) (h : l.findIdx (pg s p) = k) : findR l s p = (l[k], true) := by
  subst h
  unfold findR
  rw [dif_pos hk]
theorem find_no {l : List Ent} {s p : Int} (h : ¬ l.findIdx (pg s p) < l.length) : findR l s p = ((0, 0, 0, false), false) := by
  unfold findR
  rw [dif_neg h]
theorem there_four (w : World) : ∀ k, k < 4 → (w.alloc (.cells #[.int .i64 0, .int .i64 0, .int .i64 0, .bool false] 39)).frozen? ⟨w.heap.size, k, none⟩ = false := fun k _ => by simp
set_option maxHeartbeats 1000000 in
theorem find_any (v : Value) (l : List Ent) (s p : Int) (w : World) (hv : TlbIn w v l) :
    Calls Tryd.prog 16 #[v, .int .i64 s, .int .i64 p] w fun r w' => r = .returned (foundV (findR l s p)) ∧ Below w.heap.size w w' := by
  have HV := hid hv
  obtain ⟨q, b, off, cap, rfl, hq, hz, hl⟩ := hv
  have HQ := hid hq
  have HZ := hid hz
  clear hq hz
  have B0 := hid (bal (Below.refl w.heap.size w) (.cells #[.int .i64 0, .int .i64 0, .int .i64 0, .bool false] 39))
  have X0 := hid (cells_new w #[.int .i64 0, .int .i64 0, .int .i64 0, .bool false] 39)
  have s0 : (w.alloc (.cells #[.int .i64 0, .int .i64 0, .int .i64 0, .bool false] 39)).heap.size = w.heap.size + 1 := by simp
  have Z0 := hid (there_four w)
  go_enter Tryd.func16, Tryd.ntmps16
  go_wp2_with fail
  refine (ofPage_any s p _).mono ?_
  generalize World.alloc _ _ = W at B0 X0 s0 Z0 ⊢
  rintro r w1 ⟨rfl, hpg, hb1⟩
  have P1 := hid hpg
  have B1 := hid (btr B0.out hb1)
  have X1 := hid (cells_next X0.out (by omega) hb1)
  have Z1 := hid (fun k (hk : k < 4) => (hb1.frozen (p := ⟨w.heap.size, k, none⟩) (by simp; omega)).trans (Z0.out k hk))
  clear hpg hb1 X0 Z0 s0
  go_wp2_with fail
  refine (index_page _ l W.heap.size s p w1 (HV.out.below B1.out) P1.out).mono ?_
  rintro r w2 ⟨rfl, hb2⟩
  have B2 := hid (btr B1.out hb2)
  have s1 : w.heap.size < w1.heap.size := World.block_lt_of_cell? w1 ⟨w.heap.size, 0, none⟩ (X1.out 0)
  have X2 := cells_next X1.out s1 hb2
  have Z2 := hid (fun k (hk : k < 4) => (hb2.frozen (p := ⟨w.heap.size, k, none⟩) s1).trans (Z1.out k hk))
  have z0 := Z2.out 0 (by decide)
  have z1 := Z2.out 1 (by decide)
  have z2 := Z2.out 2 (by decide)
  have z3 := Z2.out 3 (by decide)
  clear hb2 X1 Z1 Z2 P1 B1
  by_cases hlt : l.findIdx (pg s p) < l.length
  · have hqe := HQ.out (by omega)
    subst hqe
    have HI := hid (show ixV (pg s p) l = (l.findIdx (pg s p) : Int) by unfold ixV; rw [if_pos hlt])
    have HF := hid (find_yes hlt rfl)
    obtain ⟨c0, c1, c2, c3⟩ := (HZ.out.below B2.out) _ hlt
    rw [HI.out]
    generalize l[l.findIdx (pg s p)] = e at HF c0 c1 c2 c3
    generalize l.findIdx (pg s p) = k at *
    have hk2 : (k : Int) < (l.length : Int) := by omega
    have hk3 : ¬ ((k : Int) < 0) := by omega
    obtain ⟨x, y, z, u⟩ := e
    simp only at c0 c1 c2 c3
    go_wp2_with fail
    have four := four_set (v0 := .int .i64 x) (v1 := .int .i64 y) (v2 := .int .i64 z) (v3 := .bool u) X2
    refine bodyPost_ret (v := foundV ((x, y, z, u), true)) (by simp [foundV, results, Tryd.results16, go_sem, four]) rfl ⟨by rw [HF.out], ?_⟩
    exact bset (bset (bset (bset B2.out (Nat.le_refl _) _) (Nat.le_refl _) _) (Nat.le_refl _) _) (Nat.le_refl _) _
  · have HI := hid (show ixV (pg s p) l = -1 by unfold ixV; rw [if_neg hlt])
    have HF := hid (find_no hlt)
    rw [HI.out]
    clear hlt
    go_wp2_with fail
    have four := four_set (v0 := .int .i64 0) (v1 := .int .i64 0) (v2 := .int .i64 0) (v3 := .bool false) X2
    refine bodyPost_ret (v := foundV ((0, 0, 0, false), false)) (by simp [foundV, results, Tryd.results16, go_sem, four]) rfl ⟨by rw [HF.out], ?_⟩
    exact bset (bset (bset (bset B2.out (Nat.le_refl _) _) (Nat.le_refl _) _) (Nat.le_refl _) _) (Nat.le_refl _) _
end Go.Proofs.YtfpkbfhaipgibaaDoor.Mmu
