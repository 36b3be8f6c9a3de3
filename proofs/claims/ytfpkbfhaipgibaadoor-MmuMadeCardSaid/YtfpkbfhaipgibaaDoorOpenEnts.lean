/- Arguments that are read: a slice of entries, an entry, a truth; six arguments. -/
import Derived.Test.YtfpkbfhaipgibaaDoorMmuEnt
import Derived.Test.YtfpkbfhaipgibaaDoorOpenRaw
import Derived.Carry
import Derived.ProofKit
import Derived.OpenShut
import Derived.Deep.Slices
import Derived.Lib.SmallJoins
namespace Go.Proofs.YtfpkbfhaipgibaaDoor.Mmu
open Go.ChangeShapes Go.WideShapes Go.RowKit Go.Deep Go.Joins Go.Proofs.YtfpkbfhaipgibaaDoor.Mem Go.Proofs.YtfpkbfhaipgibaaDoor.Nums

section
variable {H : Type} {enc : TypeId × Value → H} {P : Program} {w : World} {base : Nat} {spare : Nat → Bool} {held : Bool}
theorem trodAll_six {t0 t1 t2 t3 t4 t5 : TypeId} {args : Array Value} {ds : List (DataW H)} {ps : List MemPlace} (h : DataW.TrodAll enc P w base spare held [t0, t1, t2, t3, t4, t5] args.toList ds ps) :
    ∃ v0 v1 v2 v3 v4 v5 d0 d1 d2 d3 d4 d5 p0 p1 p2 p3 p4 p5, args = #[v0, v1, v2, v3, v4, v5] ∧ ds = [d0, d1, d2, d3, d4, d5] ∧ ps = p0 ++ (p1 ++ (p2 ++ (p3 ++ (p4 ++ p5)))) ∧ DataW.Trod enc P w base spare held t0 v0 d0 p0 ∧ DataW.Trod enc P w base spare held t1 v1 d1 p1 ∧ DataW.Trod enc P w base spare held t2 v2 d2 p2 ∧ DataW.Trod enc P w base spare held t3 v3 d3 p3 ∧ DataW.Trod enc P w base spare held t4 v4 d4 p4 ∧ DataW.Trod enc P w base spare held t5 v5 d5 p5 := by
  obtain ⟨v0, vs0, d0, ds0, p0, q0, hargs, rfl, rfl, h0, r0⟩ := trodAll_cons h
  obtain ⟨v1, vs1, d1, ds1, p1, q1, rfl, rfl, rfl, h1, r1⟩ := trodAll_cons r0
  obtain ⟨v2, vs2, d2, ds2, p2, q2, rfl, rfl, rfl, h2, r2⟩ := trodAll_cons r1
  obtain ⟨v3, vs3, d3, ds3, p3, q3, rfl, rfl, rfl, h3, r3⟩ := trodAll_cons r2
  obtain ⟨v4, vs4, d4, ds4, p4, q4, rfl, rfl, rfl, h4, r4⟩ := trodAll_cons r3
  obtain ⟨v5, vs5, d5, ds5, p5, q5, rfl, rfl, rfl, h5, r5⟩ := trodAll_cons r4
  obtain ⟨rfl, rfl, rfl⟩ := trodAll_nil r5
  exact ⟨v0, v1, v2, v3, v4, v5, d0, d1, d2, d3, d4, d5, p0, p1, p2, p3, p4, p5, by cases args; simp_all, rfl, by simp, h0, h1, h2, h3, h4, h5⟩
theorem trodAll_mk6 {t0 t1 t2 t3 t4 t5 : TypeId} {v0 v1 v2 v3 v4 v5 : Value} {d0 d1 d2 d3 d4 d5 : DataW H} {p0 p1 p2 p3 p4 p5 : List MemPlace} (h0 : DataW.Trod enc P w base spare held t0 v0 d0 p0) (h1 : DataW.Trod enc P w base spare held t1 v1 d1 p1) (h2 : DataW.Trod enc P w base spare held t2 v2 d2 p2) (h3 : DataW.Trod enc P w base spare held t3 v3 d3 p3) (h4 : DataW.Trod enc P w base spare held t4 v4 d4 p4) (h5 : DataW.Trod enc P w base spare held t5 v5 d5 p5) :
    DataW.TrodAll enc P w base spare held [t0, t1, t2, t3, t4, t5] [v0, v1, v2, v3, v4, v5] [d0, d1, d2, d3, d4, d5] (p0 ++ (p1 ++ (p2 ++ (p3 ++ (p4 ++ p5))))) := ⟨p0, _, h0, ⟨p1, _, h1, trodAll_mk4 h2 h3 h4 h5, rfl⟩, rfl⟩
theorem ent_cells {t u b : TypeId} {f0 f1 f2 f3 : Field} {fuel : Nat} {a : Addr} {cs : List Value} {x : DataW H × List MemPlace} (ht : P.underlying t = some (.struct #[f0, f1, f2, f3])) (hu : P.underlying u = some (.int .i64)) (hb : P.underlying b = some .bool) (hcu : P.cellsOf u = 1) (hcb : P.cellsOf b = 1)
    (e0 : f0.type = u ∧ f0.offset = 0) (e1 : f1.type = u ∧ f1.offset = 1) (e2 : f2.type = u ∧ f2.offset = 2) (e3 : f3.type = b ∧ f3.offset = 3)
    (hc : w.cells? base a 4 = some cs) (h : DataW.trod enc P w base spare held fuel t cs = some x) :
    ∃ q : Ent, w.cell? (a.add 0) = some (.int .i64 q.1) ∧ w.cell? (a.add 1) = some (.int .i64 q.2.1) ∧ w.cell? (a.add 2) = some (.int .i64 q.2.2.1) ∧ w.cell? (a.add 3) = some (.bool q.2.2.2) := by
  obtain ⟨_, hl, hcc⟩ := World.cells?_some hc
  match cs, hl with
  | [c0, c1, c2, c3], _ =>
    obtain ⟨y0, y1, y2, y3, n, _, _, t0, t1, t2, t3⟩ := trod_struct4 ht h
    rw [e0.1, e0.2, hcu] at t0
    rw [e1.1, e1.2, hcu] at t1
    rw [e2.1, e2.2, hcu] at t2
    rw [e3.1, e3.2, hcb] at t3
    obtain ⟨n0, k0, _⟩ := DataW.trod_int hu t0
    obtain ⟨n1, k1, _⟩ := DataW.trod_int hu t1
    obtain ⟨n2, k2, _⟩ := DataW.trod_int hu t2
    obtain ⟨n3, k3, _⟩ := DataW.trod_bool hb t3
    simp at k0 k1 k2 k3
    subst k0 k1 k2 k3
    exact ⟨(n0, n1, n2, n3), hcc 0 (by omega), hcc 1 (by omega), hcc 2 (by omega), hcc 3 (by omega)⟩
end
theorem val_bool {P : Program} {w : World} {r : Reach} {base : Nat} {u : TypeId} {v : Value} (hu : P.underlying u = some .bool) (h : Value.okWide P w r base u v) : ∃ b, v = .bool b := by
  simp only [Value.okWide, hu, Cell.okWide] at h
  cases v <;> simp_all [Cell.ok]
theorem entT : ∃ f0 f1 f2 f3 : Field, Tryd.prog.underlying 39 = some (.struct #[f0, f1, f2, f3]) ∧ (f0.type = 3 ∧ f0.offset = 0) ∧ (f1.type = 3 ∧ f1.offset = 1) ∧ (f2.type = 3 ∧ f2.offset = 2) ∧ (f3.type = 4 ∧ f3.offset = 3) :=
  ⟨_, _, _, _, Tryd.underlying39, ⟨rfl, rfl⟩, ⟨rfl, rfl⟩, ⟨rfl, rfl⟩, ⟨rfl, rfl⟩⟩
theorem entC : Tryd.prog.cellsOf 39 = 4 := by kernel_rfl
theorem boolC : Tryd.prog.cellsOf 4 = 1 := by kernel_rfl
theorem entTypes : Tryd.prog.cellTypes Tryd.prog.depth 39 = some [3, 3, 3, 4] := by kernel_rfl
theorem cell_bool {P : Program} {w : World} {r : Reach} {base : Nat} {u : TypeId} {v : Value} (hu : P.underlying u = some .bool) (h : Cell.okWide P w r base u v) : ∃ b, v = .bool b := by
  simp only [Cell.okWide, hu] at h
  cases v <;> simp_all [Cell.ok]
set_option maxRecDepth 100000 in
/-- An entry by value. -/
theorem ent_open {w : World} {r : Reach} {base : Nat} {v : Value} (h : Value.okWide Tryd.prog w r base 39 v) :
    ∃ (e0 e1 e2 : Int) (e3 : Bool), v = .agg #[.int .i64 e0, .int .i64 e1, .int .i64 e2, .bool e3] := by
  obtain ⟨f0, f1, f2, f3, hs, _⟩ := entT
  simp only [Value.okWide, hs] at h
  obtain ⟨cs, rfl, h2, ts, h3, _, h4⟩ := h
  rw [entTypes] at h3
  obtain rfl := Option.some.inj h3
  rw [entC] at h2
  obtain ⟨u0, a0, b0⟩ := h4 0 cs[0] (Array.getElem?_eq_getElem (by omega))
  obtain ⟨u1, a1, b1⟩ := h4 1 cs[1] (Array.getElem?_eq_getElem (by omega))
  obtain ⟨u2, a2, b2⟩ := h4 2 cs[2] (Array.getElem?_eq_getElem (by omega))
  obtain ⟨u3, a3, b3⟩ := h4 3 cs[3] (Array.getElem?_eq_getElem (by omega))
  simp at a0 a1 a2 a3
  subst a0 a1 a2 a3
  obtain ⟨e0, g0, _⟩ := cell_int Tryd.underlying3 b0
  obtain ⟨e1, g1, _⟩ := cell_int Tryd.underlying3 b1
  obtain ⟨e2, g2, _⟩ := cell_int Tryd.underlying3 b2
  obtain ⟨e3, g3⟩ := cell_bool Tryd.underlying4 b3
  refine ⟨e0, e1, e2, e3, ?_⟩
  congr 1
  apply Array.ext
  · simpa using h2
  · intro i h1 h2
    have : i = 0 ∨ i = 1 ∨ i = 2 ∨ i = 3 := by omega
    rcases this with rfl | rfl | rfl | rfl <;> simp_all
set_option maxRecDepth 100000 in
/-- A slice of entries that is read. -/
theorem open_ents {H : Type} {enc : TypeId × Value → H} {W : World} {r : Reach} {base : Nat} {v : Value} {d : DataW H} {p : List MemPlace}
    (hv : Value.okWide Tryd.prog W r base 37 v) (h : DataW.Trod enc Tryd.prog W 0 (fun _ => true) true 37 v d p) :
    ∃ q b off cap, ∃ l : List Ent, v = .slice q l.length cap ∧ (0 < l.length → q = some ⟨b, off, none⟩) ∧ EntsAt W b off l ∧ l.length ≤ maxLen := by
  obtain ⟨a0, len, cap, rfl⟩ := okWide_slice Tryd.underlying37 hv
  obtain ⟨fuel, hf⟩ := h
  obtain ⟨f0, f1, f2, f3, hs, e0, e1, e2, e3⟩ := entT
  rcases open_slice Tryd.underlying37 hf with ⟨hcs, _⟩ | ⟨a, len', cap', m, n, D, Pl, hcs, _, hl, hm, hmm, _, hc⟩
  · simp [Value.cells] at hcs
    obtain ⟨rfl, rfl, rfl⟩ := hcs
    exact ⟨none, 0, 0, 0, [], rfl, fun h => by simp at h, fun j hj => by simp at hj, by simp⟩
  · simp [Value.cells] at hcs
    obtain ⟨rfl, rfl, rfl⟩ := hcs
    have hsp := spot_none Tryd.underlying37 hv
    obtain ⟨ab, ao, asp⟩ := a
    simp at hsp
    subst hsp
    have hml : len ≤ m := by rw [hmm]; split <;> omega
    obtain ⟨q, hq⟩ := choose_lt (α := Ent) (n := len) (p := fun i q => W.cell? ⟨ab, ao + i * 4, none⟩ = some (.int .i64 q.1) ∧ W.cell? ⟨ab, ao + i * 4 + 1, none⟩ = some (.int .i64 q.2.1) ∧ W.cell? ⟨ab, ao + i * 4 + 2, none⟩ = some (.int .i64 q.2.2.1) ∧ W.cell? ⟨ab, ao + i * 4 + 3, none⟩ = some (.bool q.2.2.2)) (fun i hi => by
      obtain ⟨cs', h1, h2⟩ := hc i (by omega)
      rw [entC] at h1
      obtain ⟨q, k0, k1, k2, k3⟩ := ent_cells hs Tryd.underlying3 Tryd.underlying4 cellsI boolC e0 e1 e2 e3 h1 h2
      simp only [addr_plain] at k0 k1 k2 k3
      exact ⟨q, k0, k1, k2, k3⟩)
    refine ⟨some ⟨ab, ao, none⟩, ab, ao, cap, (List.range len).map q, by simp, fun _ => rfl, fun j hj => ?_, by simp; omega⟩
    have hj' : j < len := by simpa using hj
    have e : ((List.range len).map q)[j] = q j := by simp
    rw [e]
    exact hq j hj'
end Go.Proofs.YtfpkbfhaipgibaaDoor.Mmu
