/- A struct of integers of one kind, by value: its cells are written out. -/
import Derived.ProofKit
namespace Go.Proofs.YtfpkbfhaipgibaaDoor
open Go.ChangeShapes Go.WideShapes

theorem cell_int {P : Program} {w : World} {r : Reach} {base : Nat} {u : TypeId} {k : IntKind} {v : Value} (hu : P.underlying u = some (.int k)) (h : Cell.okWide P w r base u v) :
    ∃ n, v = .int k n ∧ k.has n := by
  simp only [Cell.okWide, hu] at h
  cases v <;> simp_all [Cell.ok]
theorem agg_ints {P : Program} {w : World} {r : Reach} {base : Nat} {t u : TypeId} {fs : Array Field} {k : IntKind} {n : Nat} {v : Value} (ht : P.underlying t = some (.struct fs)) (hc : P.cellsOf t = n)
    (hts : P.cellTypes P.depth t = some (List.replicate n u)) (hu : P.underlying u = some (.int k)) (h : Value.okWide P w r base t v) :
    ∃ cs : Array Value, v = .agg cs ∧ cs.size = n ∧ ∀ i (hi : i < cs.size), ∃ z, cs[i] = .int k z ∧ k.has z := by
  simp only [Value.okWide, ht] at h
  obtain ⟨cs, h1, h2, ts, h3, _, h4⟩ := h
  rw [hts] at h3
  obtain rfl := Option.some.inj h3
  refine ⟨cs, h1, h2.trans hc, fun i hi => ?_⟩
  obtain ⟨u', e1, e2⟩ := h4 i cs[i] (Array.getElem?_eq_getElem hi)
  have e3 : u' = u := by
    have := List.mem_of_getElem? e1
    exact List.eq_of_mem_replicate this
  subst e3
  exact cell_int hu e2
theorem val_int {P : Program} {w : World} {r : Reach} {base : Nat} {u : TypeId} {k : IntKind} {v : Value} (hu : P.underlying u = some (.int k)) (h : Value.okWide P w r base u v) :
    ∃ n, v = .int k n ∧ k.has n := by
  simp only [Value.okWide, hu] at h
  exact cell_int hu h
theorem has_u64 {n : Int} (h : IntKind.u64.has n) : 0 ≤ n ∧ n < 2 ^ 64 := by
  obtain ⟨a, b⟩ := h
  simp [IntKind.min, IntKind.max, IntKind.signed, IntKind.bits] at a b
  omega
theorem has_i64 {n : Int} (h : IntKind.i64.has n) : -9223372036854775808 ≤ n ∧ n ≤ 9223372036854775807 := by
  obtain ⟨a, b⟩ := h
  simp [IntKind.min, IntKind.max, IntKind.signed, IntKind.bits] at a b
  omega
theorem key_open {P : Program} {w : World} {r : Reach} {base : Nat} {t u : TypeId} {fs : Array Field} {v : Value} (ht : P.underlying t = some (.struct fs)) (hc : P.cellsOf t = 6)
    (hts : P.cellTypes P.depth t = some (List.replicate 6 u)) (hu : P.underlying u = some (.int .i64)) (h : Value.okWide P w r base t v) :
    ∃ k b l m r' g : Int, v = .agg #[.int .i64 k, .int .i64 b, .int .i64 l, .int .i64 m, .int .i64 r', .int .i64 g] ∧ IntKind.i64.has k ∧ IntKind.i64.has b ∧ IntKind.i64.has l ∧ IntKind.i64.has m ∧ IntKind.i64.has r' ∧ IntKind.i64.has g := by
  obtain ⟨cs, rfl, hs, hi⟩ := agg_ints ht hc hts hu h
  obtain ⟨k, e0, b0⟩ := hi 0 (by omega)
  obtain ⟨b, e1, b1⟩ := hi 1 (by omega)
  obtain ⟨l, e2, b2⟩ := hi 2 (by omega)
  obtain ⟨m, e3, b3⟩ := hi 3 (by omega)
  obtain ⟨r', e4, b4⟩ := hi 4 (by omega)
  obtain ⟨g, e5, b5⟩ := hi 5 (by omega)
  refine ⟨k, b, l, m, r', g, ?_, b0, b1, b2, b3, b4, b5⟩
  congr 1
  apply Array.ext
  · simpa using hs
  · intro i h1 h2
    have : i = 0 ∨ i = 1 ∨ i = 2 ∨ i = 3 ∨ i = 4 ∨ i = 5 := by omega
    rcases this with rfl | rfl | rfl | rfl | rfl | rfl <;> simp_all
theorem ins_open {P : Program} {w : World} {r : Reach} {base : Nat} {t u : TypeId} {fs : Array Field} {v : Value} (ht : P.underlying t = some (.struct fs)) (hc : P.cellsOf t = 4)
    (hts : P.cellTypes P.depth t = some (List.replicate 4 u)) (hu : P.underlying u = some (.int .i64)) (h : Value.okWide P w r base t v) :
    ∃ o a b i : Int, v = .agg #[.int .i64 o, .int .i64 a, .int .i64 b, .int .i64 i] ∧ IntKind.i64.has o ∧ IntKind.i64.has a ∧ IntKind.i64.has b ∧ IntKind.i64.has i := by
  obtain ⟨cs, rfl, hs, hi⟩ := agg_ints ht hc hts hu h
  obtain ⟨o, e0, b0⟩ := hi 0 (by omega)
  obtain ⟨a, e1, b1⟩ := hi 1 (by omega)
  obtain ⟨b, e2, b2⟩ := hi 2 (by omega)
  obtain ⟨i, e3, b3⟩ := hi 3 (by omega)
  refine ⟨o, a, b, i, ?_, b0, b1, b2, b3⟩
  congr 1
  apply Array.ext
  · simpa using hs
  · intro j h1 h2
    have : j = 0 ∨ j = 1 ∨ j = 2 ∨ j = 3 := by omega
    rcases this with rfl | rfl | rfl | rfl <;> simp_all
end Go.Proofs.YtfpkbfhaipgibaaDoor
