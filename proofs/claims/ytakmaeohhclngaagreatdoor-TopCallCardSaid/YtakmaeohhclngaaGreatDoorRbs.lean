/- From what the row says of keyholdref.kindNames to its cells. · Five arguments, opened and shut. -/
import Derived.ProofKit
import Derived.OpenShut
import Derived.Deep.Slices
import Derived.Lib.SmallJoins
import Derived.Test.YtakmaeohhclngaaGreatDoorRbd
import Derived.Test.YtakmaeohhclngaaGreatDoorRbr
import Derived.Test.YtakmaeohhclngaaGreatDoorRae
namespace Go.Proofs.YtakmaeohhclngaaGreatDoor.Wd
open Go.ChangeShapes Go.WideShapes Go.RowKit Go.Deep Go.Joins Go.Proofs.YtakmaeohhclngaaGreatDoor.Mem Go.Proofs.YtakmaeohhclngaaGreatDoor.Nums Go.Proofs.YtakmaeohhclngaaGreatDoor.Hex
theorem spot_noneK {P : Program} {W : World} {r : Reach} {base : Nat} {t e : TypeId} {a : Addr} {len cap : Nat} (ht : P.underlying t = some (.slice e)) (h : Value.okWide P W r base t (.slice (some a) len cap)) : a.spot = none := by
 simp only [Value.okWide, ht, Cell.okWide, Cell.ok] at h
 exact h.2.2.2.1
theorem one_intK {P : Program} {w : World} {base : Nat} {spare : Nat → Bool} {held : Bool} {H : Type} {enc : TypeId × Value → H} {u : TypeId} {fuel : Nat} {a : Addr} {cs : List Value} {x : DataW H × List MemPlace} (hu : P.underlying u = some (.int .i64))
  (hc : w.cells? base a 1 = some cs) (h : DataW.trod enc P w base spare held fuel u cs = some x) : ∃ q : Int, w.cell? (a.add 0) = some (.int .i64 q) ∧ -9223372036854775808 ≤ q ∧ q ≤ 9223372036854775807 := by
 obtain ⟨_, hl, hcc⟩ := World.cells?_some hc
 match cs, hl with
 | [c0], _ =>
  obtain ⟨n0, k0, _, hw⟩ := DataW.trod_int hu h
  simp at k0
  subst k0
  refine ⟨n0, hcc 0 (by omega), ?_⟩
  simp [Lit.wf, IntKind.min, IntKind.max, IntKind.signed, IntKind.bits] at hw
  omega
set_option maxRecDepth 100000 in
/-- A slice of numbers that is read. -/
theorem open_rawK {H : Type} {enc : TypeId × Value → H} {W : World} {r : Reach} {base : Nat} {v : Value} {d : DataW H} {p : List MemPlace}
  (hv : Value.okWide Tryz.prog W r base 22 v) (h : DataW.Trod enc Tryz.prog W 0 (fun _ => true) true 22 v d p) :
  ∃ zs : List Int, RawIn W v zs ∧ zs.length ≤ maxLen := by
 obtain ⟨a0, len, cap, rfl⟩ := okWide_slice Tryz.underlying22 hv
 obtain ⟨fuel, hf⟩ := h
 rcases open_slice Tryz.underlying22 hf with ⟨hcs, _⟩ | ⟨a, len', cap', m, n, D, Pl, hcs, _, hl, hm, hmm, _, hc⟩
 ·simp [Value.cells] at hcs
  obtain ⟨rfl, rfl, rfl⟩ := hcs
  exact ⟨[], ⟨none, 0, 0, 0, rfl, fun h => by simp at h, fun j hj => by simp at hj, fun z hz => by simp at hz⟩, by simp⟩
 ·simp [Value.cells] at hcs
  obtain ⟨rfl, rfl, rfl⟩ := hcs
  have hsp := spot_noneK Tryz.underlying22 hv
  obtain ⟨ab, ao, asp⟩ := a
  simp at hsp
  subst hsp
  have hml : len ≤ m := by rw [hmm]; split <;> omega
  obtain ⟨q, hq⟩ := choose_lt (α := Int) (n := len) (p := fun i q => W.cell? ⟨ab, ao + i, none⟩ = some (.int .i64 q) ∧ -9223372036854775808 ≤ q ∧ q ≤ 9223372036854775807) (fun i hi => by
   obtain ⟨cs', h1, h2⟩ := hc i (by omega)
   rw [cellsI] at h1
   obtain ⟨q, k0, k1⟩ := one_intK Tryz.underlying3 h1 h2
   simp only [addr_plain, Nat.mul_one, Nat.add_zero] at k0
   exact ⟨q, k0, k1⟩)
  refine ⟨(List.range len).map q, ⟨some ⟨ab, ao, none⟩, ab, ao, cap, by simp, fun _ => rfl, fun j hj => ?_, fun z hz => ?_⟩, by simp; omega⟩
  ·have hj' : j < len := by simpa using hj
   have e : ((List.range len).map q)[j] = q j := by simp
   rw [e]
   exact (hq j hj').1
  ·obtain ⟨j, hj, rfl⟩ := List.mem_map.1 hz
   exact (hq j (List.mem_range.1 hj)).2
theorem slice_strs {H : Type} {enc : TypeId × Value → H} {P : Program} {w : World} {base : Nat} {spare : Nat → Bool} {held : Bool} {t e : TypeId} {fuel : Nat} {cs : List Value} {L : List (List UInt8)} {p : List MemPlace} (ht : P.underlying t = some (.slice e)) (he : P.underlying e = some .string) (hce : P.cellsOf e = 1)
  (h : DataW.trod enc P w base spare held fuel t cs = some (.slice (L.map fun l => .lit (.string l)) [], p)) (h0 : 0 < L.length) :
  ∃ b o c, cs = [.slice (some ⟨b, o, none⟩) L.length c] ∧ ∀ k (hk : k < L.length), w.cell? ⟨b, o + k, none⟩ = some (.string ⟨L[k].toArray⟩) := by
 rcases open_slice1 ht hce h with ⟨_, hx⟩ | ⟨a, len, cap, m, n, V, D, Pl, hcs, _, hl, _, hm, hx, hc⟩
 ·simp at hx
 ·simp only [Prod.mk.injEq, DataW.slice.injEq] at hx
  have hlen : len = L.length := by have := congrArg List.length hx.1.1; simpa using this.symm
  subst hlen
  have hml : L.length ≤ m := by rw [hm]; split <;> omega
  obtain ⟨ab, ao, asp⟩ := a
  have hsp : asp = none := by
   have := (hc 0 (by omega)).1
   have := World.cell?_spot this
   simpa [Addr.add] using this
  subst hsp
  refine ⟨ab, ao, cap, hcs, fun k hk => ?_⟩
  obtain ⟨h1, h2⟩ := hc k (by omega)
  obtain ⟨s, e1, e2, _⟩ := DataW.trod_string he h2
  have h3 := congrArg (·[k]?) hx.1.1
  simp only [List.getElem?_map, List.getElem?_eq_getElem hk, List.getElem?_range hk, Option.map_some, Option.some.injEq] at h3
  simp only [Prod.mk.injEq] at e2
  rw [← h3] at e2
  simp at e1 e2
  rw [e1] at h1
  have e4 : (⟨L[k].toArray⟩ : ByteArray) = s := by rw [e2.1]
  rw [e4, ← addr_plain]
  exact h1
theorem knG : Tryz.prog.globalNamed "keyhold/keyholdref.kindNames" = some 1 := by kernel_rfl
theorem knT : (Tryz.prog.globals[1]?).map (·.type) = some 77 := by kernel_rfl
theorem strC : Tryz.prog.cellsOf 9 = 1 := by kernel_rfl
theorem kn_of {W : World} {g t : Nat} {cs : Array Value} {fuel : Nat} {p : List MemPlace} (hg : Tryz.prog.globalNamed "keyhold/keyholdref.kindNames" = some g) (ht : (Tryz.prog.globals[g]?).map (·.type) = some t) (hv : W.var? Tryz.prog "keyhold/keyholdref.kindNames" = some cs)
  (hd : DataW.trod (fun _ => ()) Tryz.prog W 0 (fun _ => true) false fuel t cs.toList = some (Rows.laid_keyhold_keyholdref_kindNames, p)) : KnW W := by
 obtain rfl := Option.some.inj (knG.symm.trans hg)
 obtain rfl := Option.some.inj (knT.symm.trans ht)
 have e : (Rows.laid_keyhold_keyholdref_kindNames : DataW Unit) = .slice ((knB.map fun x => x.data.toList).map fun l => .lit (.string l)) [] := rfl
 rw [e] at hd
 obtain ⟨b, o, c, h1, h2⟩ := slice_strs Tryz.underlying77 Tryz.underlying9 strC hd (by decide)
 refine ⟨b, o, c, ?_, fun k hk => ?_⟩
 ·rw [World.var?_cell knG hv 0]
  have := congrArg (·[0]?) h1
  rw [show (knB.map fun x => x.data.toList).length = 7 from rfl] at this
  simpa using this
 ·have := h2 k (by rw [List.length_map]; exact hk)
  rw [this]
  simp
end Go.Proofs.YtakmaeohhclngaaGreatDoor.Wd
namespace Go.Proofs.YtakmaeohhclngaaGreatDoor.Wd
open Go.ChangeShapes Go.WideShapes Go.RowKit Go.Deep Go.Joins Go.Proofs.YtakmaeohhclngaaGreatDoor.Mem Go.Proofs.YtakmaeohhclngaaGreatDoor.Nums
section
variable {H : Type} {enc : TypeId × Value → H} {P : Program} {w : World} {base : Nat} {spare : Nat → Bool} {held : Bool}
theorem trodAll_five {t0 t1 t2 t3 t4 : TypeId} {args : Array Value} {ds : List (DataW H)} {ps : List MemPlace} (h : DataW.TrodAll enc P w base spare held [t0, t1, t2, t3, t4] args.toList ds ps) :
  ∃ v0 v1 v2 v3 v4 d0 d1 d2 d3 d4 p0 p1 p2 p3 p4, args = #[v0, v1, v2, v3, v4] ∧ ds = [d0, d1, d2, d3, d4] ∧ ps = p0 ++ (p1 ++ (p2 ++ (p3 ++ p4))) ∧ DataW.Trod enc P w base spare held t0 v0 d0 p0 ∧ DataW.Trod enc P w base spare held t1 v1 d1 p1 ∧ DataW.Trod enc P w base spare held t2 v2 d2 p2 ∧ DataW.Trod enc P w base spare held t3 v3 d3 p3 ∧ DataW.Trod enc P w base spare held t4 v4 d4 p4 := by
 obtain ⟨v0, vs0, d0, ds0, p0, q0, hargs, rfl, rfl, h0, r0⟩ := trodAll_cons h
 obtain ⟨v1, vs1, d1, ds1, p1, q1, rfl, rfl, rfl, h1, r1⟩ := trodAll_cons r0
 obtain ⟨v2, vs2, d2, ds2, p2, q2, rfl, rfl, rfl, h2, r2⟩ := trodAll_cons r1
 obtain ⟨v3, vs3, d3, ds3, p3, q3, rfl, rfl, rfl, h3, r3⟩ := trodAll_cons r2
 obtain ⟨v4, vs4, d4, ds4, p4, q4, rfl, rfl, rfl, h4, r4⟩ := trodAll_cons r3
 obtain ⟨rfl, rfl, rfl⟩ := trodAll_nil r4
 exact ⟨v0, v1, v2, v3, v4, d0, d1, d2, d3, d4, p0, p1, p2, p3, p4, by cases args; simp_all, rfl, by simp, h0, h1, h2, h3, h4⟩
theorem trodAll_mk5 {t0 t1 t2 t3 t4 : TypeId} {v0 v1 v2 v3 v4 : Value} {d0 d1 d2 d3 d4 : DataW H} {p0 p1 p2 p3 p4 : List MemPlace} (h0 : DataW.Trod enc P w base spare held t0 v0 d0 p0) (h1 : DataW.Trod enc P w base spare held t1 v1 d1 p1) (h2 : DataW.Trod enc P w base spare held t2 v2 d2 p2) (h3 : DataW.Trod enc P w base spare held t3 v3 d3 p3) (h4 : DataW.Trod enc P w base spare held t4 v4 d4 p4) :
  DataW.TrodAll enc P w base spare held [t0, t1, t2, t3, t4] [v0, v1, v2, v3, v4] [d0, d1, d2, d3, d4] (p0 ++ (p1 ++ (p2 ++ (p3 ++ p4)))) := ⟨p0, _, h0, trodAll_mk4 h1 h2 h3 h4, rfl⟩
end
end Go.Proofs.YtakmaeohhclngaaGreatDoor.Wd
