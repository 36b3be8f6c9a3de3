/- Arguments that are read: a slice of numbers, an array of eight numbers. -/
import Derived.Test.YtfpkbfhaipgibaaDoorWords
import Derived.Test.YtfpkbfhaipgibaaDoorOpenInts
import Derived.ProofKit
import Derived.OpenShut
import Derived.Deep.Slices
namespace Go.Proofs.YtfpkbfhaipgibaaDoor
open Go.ChangeShapes Go.WideShapes Go.RowKit Go.Deep
namespace Nums
open Go.Proofs.YtfpkbfhaipgibaaDoor.Mem

theorem addr_plain (b o k : Nat) : (⟨b, o, none⟩ : Addr).add k = ⟨b, o + k, none⟩ := by unfold Addr.add; split <;> simp_all
theorem cellsI : Tryd.prog.cellsOf 3 = 1 := by kernel_rfl
theorem spot_none {P : Program} {W : World} {r : Reach} {base : Nat} {t e : TypeId} {a : Addr} {len cap : Nat} (ht : P.underlying t = some (.slice e)) (h : Value.okWide P W r base t (.slice (some a) len cap)) : a.spot = none := by
  simp only [Value.okWide, ht, Cell.okWide, Cell.ok] at h
  exact h.2.2.2.1
theorem one_int {P : Program} {w : World} {base : Nat} {spare : Nat → Bool} {held : Bool} {H : Type} {enc : TypeId × Value → H} {u : TypeId} {fuel : Nat} {a : Addr} {cs : List Value} {x : DataW H × List MemPlace} (hu : P.underlying u = some (.int .i64))
    (hc : w.cells? base a 1 = some cs) (h : DataW.trod enc P w base spare held fuel u cs = some x) : ∃ q : Int, w.cell? (a.add 0) = some (.int .i64 q) ∧ -9223372036854775808 ≤ q ∧ q ≤ 9223372036854775807 := by
  obtain ⟨_, hl, hcc⟩ := World.cells?_some hc
  match cs, hl with
  | [c0], _ =>
    obtain ⟨n0, k0, _, hw⟩ := DataW.trod_int hu h
    simp at k0
    subst k0
    refine ⟨n0, hcc 0 (by omega), ?_⟩
    simp [Lit.wf, IntKind.min, IntKind.max, IntKind.signed, IntKind.bits] at hw
    omega
set_option maxRecDepth 100000 in
/-- A slice of numbers that is read. -/
theorem open_raw {H : Type} {enc : TypeId × Value → H} {W : World} {r : Reach} {base : Nat} {v : Value} {d : DataW H} {p : List MemPlace}
    (hv : Value.okWide Tryd.prog W r base 36 v) (h : DataW.Trod enc Tryd.prog W 0 (fun _ => true) true 36 v d p) :
    ∃ zs : List Int, RawIn W v zs ∧ zs.length ≤ maxLen := by
  obtain ⟨a0, len, cap, rfl⟩ := okWide_slice Tryd.underlying36 hv
  obtain ⟨fuel, hf⟩ := h
  rcases open_slice Tryd.underlying36 hf with ⟨hcs, _⟩ | ⟨a, len', cap', m, n, D, Pl, hcs, _, hl, hm, hmm, _, hc⟩
  · simp [Value.cells] at hcs
    obtain ⟨rfl, rfl, rfl⟩ := hcs
    exact ⟨[], ⟨none, 0, 0, 0, rfl, fun h => by simp at h, fun j hj => by simp at hj, fun z hz => by simp at hz⟩, by simp⟩
  · simp [Value.cells] at hcs
    obtain ⟨rfl, rfl, rfl⟩ := hcs
    have hsp := spot_none Tryd.underlying36 hv
    obtain ⟨ab, ao, asp⟩ := a
    simp at hsp
    subst hsp
    have hml : len ≤ m := by rw [hmm]; split <;> omega
    obtain ⟨q, hq⟩ := choose_lt (α := Int) (n := len) (p := fun i q => W.cell? ⟨ab, ao + i, none⟩ = some (.int .i64 q) ∧ -9223372036854775808 ≤ q ∧ q ≤ 9223372036854775807) (fun i hi => by
      obtain ⟨cs', h1, h2⟩ := hc i (by omega)
      rw [cellsI] at h1
      obtain ⟨q, k0, k1⟩ := one_int Tryd.underlying3 h1 h2
      simp only [addr_plain, Nat.mul_one, Nat.add_zero] at k0
      exact ⟨q, k0, k1⟩)
    refine ⟨(List.range len).map q, ⟨some ⟨ab, ao, none⟩, ab, ao, cap, by simp, fun _ => rfl, fun j hj => ?_, fun z hz => ?_⟩, by simp; omega⟩
    · have hj' : j < len := by simpa using hj
      have e : ((List.range len).map q)[j] = q j := by simp
      rw [e]
      exact (hq j hj').1
    · obtain ⟨j, hj, rfl⟩ := List.mem_map.1 hz
      exact (hq j (List.mem_range.1 hj)).2
set_option maxRecDepth 100000 in
/-- A slice of numbers that is read, and the datum that it is. -/
theorem open_rawD {H : Type} {enc : TypeId × Value → H} {W : World} {r : Reach} {base : Nat} {v : Value} {d : DataW H} {p : List MemPlace}
    (hv : Value.okWide Tryd.prog W r base 36 v) (h : DataW.Trod enc Tryd.prog W 0 (fun _ => true) true 36 v d p) :
    ∃ zs : List Int, RawIn W v zs ∧ zs.length ≤ maxLen ∧ (zs = [] ∨ ∃ es sp, d = .slice es sp ∧ es.length = zs.length) := by
  obtain ⟨a0, len, cap, rfl⟩ := okWide_slice Tryd.underlying36 hv
  obtain ⟨fuel, hf⟩ := h
  rcases open_slice Tryd.underlying36 hf with ⟨hcs, _⟩ | ⟨a, len', cap', m, n, D, Pl, hcs, _, hl, hm, hmm, hx, hc⟩
  · simp [Value.cells] at hcs
    obtain ⟨rfl, rfl, rfl⟩ := hcs
    exact ⟨[], ⟨none, 0, 0, 0, rfl, fun h => by simp at h, fun j hj => by simp at hj, fun z hz => by simp at hz⟩, by simp, .inl rfl⟩
  · simp [Value.cells] at hcs
    obtain ⟨rfl, rfl, rfl⟩ := hcs
    have hsp := spot_none Tryd.underlying36 hv
    obtain ⟨ab, ao, asp⟩ := a
    simp at hsp
    subst hsp
    have hml : len ≤ m := by rw [hmm]; split <;> omega
    obtain ⟨q, hq⟩ := choose_lt (α := Int) (n := len) (p := fun i q => W.cell? ⟨ab, ao + i, none⟩ = some (.int .i64 q) ∧ -9223372036854775808 ≤ q ∧ q ≤ 9223372036854775807) (fun i hi => by
      obtain ⟨cs', h1, h2⟩ := hc i (by omega)
      rw [cellsI] at h1
      obtain ⟨q, k0, k1⟩ := one_int Tryd.underlying3 h1 h2
      simp only [addr_plain, Nat.mul_one, Nat.add_zero] at k0
      exact ⟨q, k0, k1⟩)
    refine ⟨(List.range len).map q, ⟨some ⟨ab, ao, none⟩, ab, ao, cap, by simp, fun _ => rfl, fun j hj => ?_, fun z hz => ?_⟩, by simp; omega, .inr ⟨_, _, (Prod.mk.inj hx).1, by simp⟩⟩
    · have hj' : j < len := by simpa using hj
      have e : ((List.range len).map q)[j] = q j := by simp
      rw [e]
      exact (hq j hj').1
    · obtain ⟨j, hj, rfl⟩ := List.mem_map.1 hz
      exact (hq j (List.mem_range.1 hj)).2
theorem arr_ints {P : Program} {w : World} {r : Reach} {base : Nat} {t u e : TypeId} {k : IntKind} {n m : Nat} {v : Value} (ht : P.underlying t = some (.array m e)) (hc : P.cellsOf t = n)
    (hts : P.cellTypes P.depth t = some (List.replicate n u)) (hu : P.underlying u = some (.int k)) (h : Value.okWide P w r base t v) :
    ∃ cs : Array Value, v = .agg cs ∧ cs.size = n ∧ ∀ i (hi : i < cs.size), ∃ z, cs[i] = .int k z ∧ k.has z := by
  simp only [Value.okWide, ht] at h
  obtain ⟨cs, h1, h2, ts, h3, _, h4⟩ := h
  rw [hts] at h3
  obtain rfl := Option.some.inj h3
  refine ⟨cs, h1, h2.trans hc, fun i hi => ?_⟩
  obtain ⟨u', e1, e2⟩ := h4 i cs[i] (Array.getElem?_eq_getElem hi)
  have e3 : u' = u := by
    have := List.mem_of_getElem? e1
    exact List.eq_of_mem_replicate this
  subst e3
  exact cell_int hu e2
theorem arr8_open {P : Program} {w : World} {r : Reach} {base : Nat} {t u e : TypeId} {m : Nat} {v : Value} (ht : P.underlying t = some (.array m e)) (hc : P.cellsOf t = 8)
    (hts : P.cellTypes P.depth t = some (List.replicate 8 u)) (hu : P.underlying u = some (.int .i64)) (h : Value.okWide P w r base t v) :
    ∃ f : Nat → Int, v = .agg #[.int .i64 (f 0), .int .i64 (f 1), .int .i64 (f 2), .int .i64 (f 3), .int .i64 (f 4), .int .i64 (f 5), .int .i64 (f 6), .int .i64 (f 7)] ∧ ∀ k, k < 8 → IntKind.i64.has (f k) := by
  obtain ⟨cs, rfl, hs, hi⟩ := arr_ints ht hc hts hu h
  obtain ⟨f, hf⟩ := choose_lt (α := Int) (n := 8) (p := fun i q => cs[i]? = some (.int .i64 q) ∧ IntKind.i64.has q) (fun i h => by
    obtain ⟨z, h1, h2⟩ := hi i (by omega)
    exact ⟨z, by rw [Array.getElem?_eq_getElem (by omega), h1], h2⟩)
  refine ⟨f, ?_, fun k hk => (hf k hk).2⟩
  congr 1
  apply Array.ext
  · simpa using hs
  · intro i h1 h2
    have hi8 : i < 8 := by omega
    have e := (hf i hi8).1
    rw [Array.getElem?_eq_getElem h1] at e
    rw [Option.some.inj e]
    have : i = 0 ∨ i = 1 ∨ i = 2 ∨ i = 3 ∨ i = 4 ∨ i = 5 ∨ i = 6 ∨ i = 7 := by omega
    rcases this with rfl | rfl | rfl | rfl | rfl | rfl | rfl | rfl <;> rfl
end Nums
end Go.Proofs.YtfpkbfhaipgibaaDoor
