/- Arguments that are read: a slice of numbers, an array of eight numbers. · Arguments that are read: a slice of entries, an entry, a truth; six arguments. -/
import Derived.Test.YtoebmjgkfkfhjaaGreatDoorGBase
import Derived.Test.YtoebmjgkfkfhjaaGreatDoorOpenInts
import Derived.ProofKit
import Derived.OpenShut
import Derived.Deep.Slices
import Derived.Test.YtoebmjgkfkfhjaaGreatDoorGMmu
import Derived.Carry
import Derived.Lib.SmallJoins
namespace Go.Proofs.YtoebmjgkfkfhjaaGreatDoor
open Go.ChangeShapes Go.WideShapes Go.RowKit Go.Deep
namespace Nums
open Go.Proofs.YtoebmjgkfkfhjaaGreatDoor.Mem
theorem addr_plain (b o k : Nat) : (⟨b, o, none⟩ : Addr).add k = ⟨b, o + k, none⟩ := by unfold Addr.add; split <;> simp_all
theorem cellsI : Tryz.prog.cellsOf 3 = 1 := by kernel_rfl
end Nums
end Go.Proofs.YtoebmjgkfkfhjaaGreatDoor
namespace Go.Proofs.YtoebmjgkfkfhjaaGreatDoor.Mmu
open Go.ChangeShapes Go.WideShapes Go.RowKit Go.Deep Go.Joins Go.Proofs.YtoebmjgkfkfhjaaGreatDoor.Mem Go.Proofs.YtoebmjgkfkfhjaaGreatDoor.Nums
section
variable {H : Type} {enc : TypeId × Value → H} {P : Program} {w : World} {base : Nat} {spare : Nat → Bool} {held : Bool}
theorem trodAll_six {t0 t1 t2 t3 t4 t5 : TypeId} {args : Array Value} {ds : List (DataW H)} {ps : List MemPlace} (h : DataW.TrodAll enc P w base spare held [t0, t1, t2, t3, t4, t5] args.toList ds ps) :
  ∃ v0 v1 v2 v3 v4 v5 d0 d1 d2 d3 d4 d5 p0 p1 p2 p3 p4 p5, args = #[v0, v1, v2, v3, v4, v5] ∧ ds = [d0, d1, d2, d3, d4, d5] ∧ ps = p0 ++ (p1 ++ (p2 ++ (p3 ++ (p4 ++ p5)))) ∧ DataW.Trod enc P w base spare held t0 v0 d0 p0 ∧ DataW.Trod enc P w base spare held t1 v1 d1 p1 ∧ DataW.Trod enc P w base spare held t2 v2 d2 p2 ∧ DataW.Trod enc P w base spare held t3 v3 d3 p3 ∧ DataW.Trod enc P w base spare held t4 v4 d4 p4 ∧ DataW.Trod enc P w base spare held t5 v5 d5 p5 := by
 obtain ⟨v0, vs0, d0, ds0, p0, q0, hargs, rfl, rfl, h0, r0⟩ := trodAll_cons h
 obtain ⟨v1, vs1, d1, ds1, p1, q1, rfl, rfl, rfl, h1, r1⟩ := trodAll_cons r0
 obtain ⟨v2, vs2, d2, ds2, p2, q2, rfl, rfl, rfl, h2, r2⟩ := trodAll_cons r1
 obtain ⟨v3, vs3, d3, ds3, p3, q3, rfl, rfl, rfl, h3, r3⟩ := trodAll_cons r2
 obtain ⟨v4, vs4, d4, ds4, p4, q4, rfl, rfl, rfl, h4, r4⟩ := trodAll_cons r3
 obtain ⟨v5, vs5, d5, ds5, p5, q5, rfl, rfl, rfl, h5, r5⟩ := trodAll_cons r4
 obtain ⟨rfl, rfl, rfl⟩ := trodAll_nil r5
 exact ⟨v0, v1, v2, v3, v4, v5, d0, d1, d2, d3, d4, d5, p0, p1, p2, p3, p4, p5, by cases args; simp_all, rfl, by simp, h0, h1, h2, h3, h4, h5⟩
theorem trodAll_mk6 {t0 t1 t2 t3 t4 t5 : TypeId} {v0 v1 v2 v3 v4 v5 : Value} {d0 d1 d2 d3 d4 d5 : DataW H} {p0 p1 p2 p3 p4 p5 : List MemPlace} (h0 : DataW.Trod enc P w base spare held t0 v0 d0 p0) (h1 : DataW.Trod enc P w base spare held t1 v1 d1 p1) (h2 : DataW.Trod enc P w base spare held t2 v2 d2 p2) (h3 : DataW.Trod enc P w base spare held t3 v3 d3 p3) (h4 : DataW.Trod enc P w base spare held t4 v4 d4 p4) (h5 : DataW.Trod enc P w base spare held t5 v5 d5 p5) :
  DataW.TrodAll enc P w base spare held [t0, t1, t2, t3, t4, t5] [v0, v1, v2, v3, v4, v5] [d0, d1, d2, d3, d4, d5] (p0 ++ (p1 ++ (p2 ++ (p3 ++ (p4 ++ p5))))) := ⟨p0, _, h0, ⟨p1, _, h1, trodAll_mk4 h2 h3 h4 h5, rfl⟩, rfl⟩
theorem ent_cells {t u b : TypeId} {f0 f1 f2 f3 : Field} {fuel : Nat} {a : Addr} {cs : List Value} {x : DataW H × List MemPlace} (ht : P.underlying t = some (.struct #[f0, f1, f2, f3])) (hu : P.underlying u = some (.int .i64)) (hb : P.underlying b = some .bool) (hcu : P.cellsOf u = 1) (hcb : P.cellsOf b = 1)
  (e0 : f0.type = u ∧ f0.offset = 0) (e1 : f1.type = u ∧ f1.offset = 1) (e2 : f2.type = u ∧ f2.offset = 2) (e3 : f3.type = b ∧ f3.offset = 3)
  (hc : w.cells? base a 4 = some cs) (h : DataW.trod enc P w base spare held fuel t cs = some x) :
  ∃ q : Ent, w.cell? (a.add 0) = some (.int .i64 q.1) ∧ w.cell? (a.add 1) = some (.int .i64 q.2.1) ∧ w.cell? (a.add 2) = some (.int .i64 q.2.2.1) ∧ w.cell? (a.add 3) = some (.bool q.2.2.2) := by
 obtain ⟨_, hl, hcc⟩ := World.cells?_some hc
 match cs, hl with
 | [c0, c1, c2, c3], _ =>
  obtain ⟨y0, y1, y2, y3, n, _, _, t0, t1, t2, t3⟩ := trod_struct4 ht h
  rw [e0.1, e0.2, hcu] at t0
  rw [e1.1, e1.2, hcu] at t1
  rw [e2.1, e2.2, hcu] at t2
  rw [e3.1, e3.2, hcb] at t3
  obtain ⟨n0, k0, _⟩ := DataW.trod_int hu t0
  obtain ⟨n1, k1, _⟩ := DataW.trod_int hu t1
  obtain ⟨n2, k2, _⟩ := DataW.trod_int hu t2
  obtain ⟨n3, k3, _⟩ := DataW.trod_bool hb t3
  simp at k0 k1 k2 k3
  subst k0 k1 k2 k3
  exact ⟨(n0, n1, n2, n3), hcc 0 (by omega), hcc 1 (by omega), hcc 2 (by omega), hcc 3 (by omega)⟩
end
theorem val_bool {P : Program} {w : World} {r : Reach} {base : Nat} {u : TypeId} {v : Value} (hu : P.underlying u = some .bool) (h : Value.okWide P w r base u v) : ∃ b, v = .bool b := by
 simp only [Value.okWide, hu, Cell.okWide] at h
 cases v <;> simp_all [Cell.ok]
theorem entT : ∃ f0 f1 f2 f3 : Field, Tryz.prog.underlying 115 = some (.struct #[f0, f1, f2, f3]) ∧ (f0.type = 3 ∧ f0.offset = 0) ∧ (f1.type = 3 ∧ f1.offset = 1) ∧ (f2.type = 3 ∧ f2.offset = 2) ∧ (f3.type = 4 ∧ f3.offset = 3) :=
 ⟨_, _, _, _, Tryz.underlying115, ⟨rfl, rfl⟩, ⟨rfl, rfl⟩, ⟨rfl, rfl⟩, ⟨rfl, rfl⟩⟩
theorem entC : Tryz.prog.cellsOf 115 = 4 := by kernel_rfl
theorem boolC : Tryz.prog.cellsOf 4 = 1 := by kernel_rfl
end Go.Proofs.YtoebmjgkfkfhjaaGreatDoor.Mmu
