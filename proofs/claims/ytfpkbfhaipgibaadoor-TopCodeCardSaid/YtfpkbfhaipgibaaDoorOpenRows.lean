/- From what is read to cells: a slice of instructions; the program's tables of names. -/
import Derived.Test.YtfpkbfhaipgibaaDoorIsaTextsWalk
import Derived.Test.YtfpkbfhaipgibaaDoorHandle
import Derived.ProofKit
import Derived.OpenShut
import Derived.Deep.Slices
import Derived.Lib.SmallJoins
import Derived.Lib.LaidTab
namespace Go.Proofs.YtfpkbfhaipgibaaDoor.Txt
open Go.ChangeShapes Go.WideShapes Go.RowKit Go.Deep Go.Joins Go.Proofs.YtfpkbfhaipgibaaDoor.Mem

theorem add_plain (b o k : Nat) : (⟨b, o, none⟩ : Addr).add k = ⟨b, o + k, none⟩ := by unfold Addr.add; split <;> simp_all
section
variable {H : Type} {enc : TypeId × Value → H} {P : Program} {w : World} {base : Nat} {spare : Nat → Bool} {held : Bool}
theorem arr_strs {t e : TypeId} {n fuel : Nat} {cs : List Value} {L : List (List UInt8)} {p : List MemPlace} (ht : P.underlying t = some (.array n e)) (he : P.underlying e = some .string) (hce : P.cellsOf e = 1) (hn : n = L.length)
    (h : DataW.trod enc P w base spare held fuel t cs = some (.agg (L.map fun l => .lit (.string l)), p)) : ∀ k (hk : k < L.length), cs[k]? = some (.string ⟨L[k].toArray⟩) := by
  intro k hk
  obtain ⟨xs, m, _, hx, _, hxl, hf⟩ := DataW.trod_array ht h
  simp only [Prod.mk.injEq, DataW.agg.injEq] at hx
  have h1 := hf k (by omega)
  rw [hce, Nat.mul_one, List.getElem?_eq_getElem (by omega)] at h1
  obtain ⟨s, e1, e2, _⟩ := DataW.trod_string he h1
  have h2 : (xs.map (·.1))[k]? = some xs[k].1 := by simp [List.getElem?_eq_getElem (show k < xs.length by omega)]
  rw [← hx.1, e2] at h2
  simp [List.getElem?_eq_getElem hk] at h2
  have h3 : cs[k]? = some (.string s) := by
    have := congrArg (·[0]?) e1
    simpa [List.getElem?_take, List.getElem?_drop] using this
  rw [h3, h2]
theorem slice_strs {t e : TypeId} {fuel : Nat} {cs : List Value} {L : List (List UInt8)} {p : List MemPlace} (ht : P.underlying t = some (.slice e)) (he : P.underlying e = some .string) (hce : P.cellsOf e = 1)
    (h : DataW.trod enc P w base spare held fuel t cs = some (.slice (L.map fun l => .lit (.string l)) [], p)) (h0 : 0 < L.length) :
    ∃ b o c, cs = [.slice (some ⟨b, o, none⟩) L.length c] ∧ ∀ k (hk : k < L.length), w.cell? ⟨b, o + k, none⟩ = some (.string ⟨L[k].toArray⟩) := by
  rcases open_slice1 ht hce h with ⟨_, hx⟩ | ⟨a, len, cap, m, n, V, D, Pl, hcs, _, hl, _, hm, hx, hc⟩
  · simp at hx
  · simp only [Prod.mk.injEq, DataW.slice.injEq] at hx
    have hlen : len = L.length := by have := congrArg List.length hx.1.1; simpa using this.symm
    subst hlen
    have hml : L.length ≤ m := by rw [hm]; split <;> omega
    obtain ⟨ab, ao, asp⟩ := a
    have hsp : asp = none := by
      have := (hc 0 (by omega)).1
      have := World.cell?_spot this
      simpa [Addr.add] using this
    subst hsp
    refine ⟨ab, ao, cap, hcs, fun k hk => ?_⟩
    obtain ⟨h1, h2⟩ := hc k (by omega)
    obtain ⟨s, e1, e2, _⟩ := DataW.trod_string he h2
    have h3 := congrArg (·[k]?) hx.1.1
    simp only [List.getElem?_map, List.getElem?_eq_getElem hk, List.getElem?_range hk, Option.map_some, Option.some.injEq] at h3
    simp only [Prod.mk.injEq] at e2
    rw [← h3] at e2
    simp at e1 e2
    rw [e1] at h1
    have e4 : (⟨L[k].toArray⟩ : ByteArray) = s := by rw [e2.1]
    rw [e4, ← add_plain]
    exact h1
theorem cells4 {a : Addr} {cs : List Value} (h : w.cells? base a 4 = some cs) : ∃ c0 c1 c2 c3, cs = [c0, c1, c2, c3] ∧ w.cell? (a.add 0) = some c0 ∧ w.cell? (a.add 1) = some c1 ∧ w.cell? (a.add 2) = some c2 ∧ w.cell? (a.add 3) = some c3 := by
  obtain ⟨_, hl, hc⟩ := World.cells?_some h
  match cs, hl with
  | [c0, c1, c2, c3], _ => exact ⟨c0, c1, c2, c3, rfl, hc 0 (by omega), hc 1 (by omega), hc 2 (by omega), hc 3 (by omega)⟩
theorem ins_cells {t u : TypeId} {f0 f1 f2 f3 : Field} {fuel : Nat} {a : Addr} {cs : List Value} {x : DataW H × List MemPlace} (ht : P.underlying t = some (.struct #[f0, f1, f2, f3])) (hu : P.underlying u = some (.int .i64)) (hcu : P.cellsOf u = 1)
    (e0 : f0.type = u ∧ f0.offset = 0) (e1 : f1.type = u ∧ f1.offset = 1) (e2 : f2.type = u ∧ f2.offset = 2) (e3 : f3.type = u ∧ f3.offset = 3)
    (hc : w.cells? base a 4 = some cs) (h : DataW.trod enc P w base spare held fuel t cs = some x) :
    ∃ q : Int × Int × Int × Int, w.cell? (a.add 0) = some (.int .i64 q.1) ∧ w.cell? (a.add 1) = some (.int .i64 q.2.1) ∧ w.cell? (a.add 2) = some (.int .i64 q.2.2.1) ∧ w.cell? (a.add 3) = some (.int .i64 q.2.2.2) := by
  obtain ⟨c0, c1, c2, c3, rfl, h0, h1, h2, h3⟩ := cells4 hc
  obtain ⟨y0, y1, y2, y3, n, _, _, t0, t1, t2, t3⟩ := trod_struct4 ht h
  rw [e0.1, e0.2, hcu] at t0
  rw [e1.1, e1.2, hcu] at t1
  rw [e2.1, e2.2, hcu] at t2
  rw [e3.1, e3.2, hcu] at t3
  obtain ⟨n0, k0, _⟩ := DataW.trod_int hu t0
  obtain ⟨n1, k1, _⟩ := DataW.trod_int hu t1
  obtain ⟨n2, k2, _⟩ := DataW.trod_int hu t2
  obtain ⟨n3, k3, _⟩ := DataW.trod_int hu t3
  simp at k0 k1 k2 k3
  subst k0 k1 k2 k3
  exact ⟨(n0, n1, n2, n3), h0, h1, h2, h3⟩
end
theorem insT : ∃ f0 f1 f2 f3 : Field, Tryd.prog.underlying 34 = some (.struct #[f0, f1, f2, f3]) ∧ (f0.type = 3 ∧ f0.offset = 0) ∧ (f1.type = 3 ∧ f1.offset = 1) ∧ (f2.type = 3 ∧ f2.offset = 2) ∧ (f3.type = 3 ∧ f3.offset = 3) :=
  ⟨_, _, _, _, Tryd.underlying34, ⟨rfl, rfl⟩, ⟨rfl, rfl⟩, ⟨rfl, rfl⟩, ⟨rfl, rfl⟩⟩
theorem insC : Tryd.prog.cellsOf 34 = 4 := by kernel_rfl
theorem intC : Tryd.prog.cellsOf 3 = 1 := by kernel_rfl
theorem slice_spot {P : Program} {W : World} {r : Reach} {base : Nat} {t e : TypeId} {a : Addr} {len cap : Nat} (ht : P.underlying t = some (.slice e)) (h : Value.okWide P W r base t (.slice (some a) len cap)) : a.spot = none := by
  simp only [Value.okWide, ht, Cell.okWide, Cell.ok] at h
  exact h.2.2.2.1
set_option maxRecDepth 100000 in
/-- A slice of instructions that is read: nil, or a row. -/
theorem open_inss {H : Type} {enc : TypeId × Value → H} {W : World} {r : Reach} {base : Nat} {v : Value} {d : DataW H} {p : List MemPlace}
    (hv : Value.okWide Tryd.prog W r base 22 v) (h : DataW.Trod enc Tryd.prog W 0 (fun _ => true) true 22 v d p) :
    v = .slice none 0 0 ∨ ∃ b off cap zs, v = .slice (some ⟨b, off, none⟩) zs.length cap ∧ zs.length ≤ maxLen ∧ InsAt W b off zs := by
  obtain ⟨a0, len, cap, rfl⟩ := okWide_slice Tryd.underlying22 hv
  obtain ⟨fuel, hf⟩ := h
  obtain ⟨f0, f1, f2, f3, hs, e0, e1, e2, e3⟩ := insT
  rcases open_slice Tryd.underlying22 hf with ⟨hcs, _⟩ | ⟨a, len', cap', m, n, D, Pl, hcs, _, hl, hm, hmm, _, hc⟩
  · simp [Value.cells] at hcs
    obtain ⟨rfl, rfl, rfl⟩ := hcs
    exact .inl rfl
  · simp [Value.cells] at hcs
    obtain ⟨rfl, rfl, rfl⟩ := hcs
    have hsp := slice_spot Tryd.underlying22 hv
    obtain ⟨ab, ao, asp⟩ := a
    simp at hsp
    subst hsp
    have hml : len ≤ m := by rw [hmm]; split <;> omega
    obtain ⟨q, hq⟩ := choose_lt (α := Int × Int × Int × Int) (n := len) (p := fun i q => W.cell? ⟨ab, ao + i * 4, none⟩ = some (.int .i64 q.1) ∧ W.cell? ⟨ab, ao + i * 4 + 1, none⟩ = some (.int .i64 q.2.1) ∧ W.cell? ⟨ab, ao + i * 4 + 2, none⟩ = some (.int .i64 q.2.2.1) ∧ W.cell? ⟨ab, ao + i * 4 + 3, none⟩ = some (.int .i64 q.2.2.2)) (fun i hi => by
      obtain ⟨cs', h1, h2⟩ := hc i (by omega)
      rw [insC] at h1
      obtain ⟨q, k0, k1, k2, k3⟩ := ins_cells hs Tryd.underlying3 intC e0 e1 e2 e3 h1 h2
      simp only [add_plain] at k0 k1 k2 k3
      exact ⟨q, k0, k1, k2, k3⟩)
    refine .inr ⟨ab, ao, cap, (List.range len).map q, by simp, by simp; omega, fun j hj => ?_⟩
    have hj' : j < len := by simpa using hj
    have e : ((List.range len).map q)[j] = q j := by simp
    rw [e]
    exact hq j hj'
def namesLL : List (List UInt8) := [nameL 0, nameL 1, nameL 2, nameL 3, nameL 4, nameL 5, nameL 6, nameL 7, nameL 8, nameL 9, nameL 10, nameL 11, nameL 12, nameL 13, nameL 14]
theorem namesLL_at (k : Nat) (h : k < 15) : ∃ hk : k < namesLL.length, namesLL[k] = nameL k := by
  refine ⟨h, ?_⟩
  have : k = 0 ∨ k = 1 ∨ k = 2 ∨ k = 3 ∨ k = 4 ∨ k = 5 ∨ k = 6 ∨ k = 7 ∨ k = 8 ∨ k = 9 ∨ k = 10 ∨ k = 11 ∨ k = 12 ∨ k = 13 ∨ k = 14 := by omega
  rcases this with rfl | rfl | rfl | rfl | rfl | rfl | rfl | rfl | rfl | rfl | rfl | rfl | rfl | rfl | rfl <;> rfl
theorem var_lt {P : Program} {W : World} {n : String} {g : Nat} {cs : Array Value} (hg : P.globalNamed n = some g) (hv : W.var? P n = some cs) : g < W.heap.size := by
  rcases Nat.lt_or_ge g W.heap.size with h | h
  · exact h
  · simp [World.var?, hg, Array.getElem?_eq_none h] at hv
theorem inG : Tryd.prog.globalNamed "keyhold/isa.names" = some 1 := by kernel_rfl
theorem rnG : Tryd.prog.globalNamed "keyhold/keyholdref.names" = some 0 := by kernel_rfl
theorem inT : (Tryd.prog.globals[1]?).map (·.type) = some 162 := by kernel_rfl
theorem rnT : (Tryd.prog.globals[0]?).map (·.type) = some 84 := by kernel_rfl
theorem ptT : (Tryd.prog.globals[4]?).map (·.type) = some 221 := by kernel_rfl
theorem strC : Tryd.prog.cellsOf 9 = 1 := by kernel_rfl
theorem u64C : Tryd.prog.cellsOf 189 = 1 := by kernel_rfl
theorem ptC : Tryd.prog.cellsOf 221 = 20 := by kernel_rfl
theorem tb_of {W : World} {g t : Nat} {cs : Array Value} {fuel : Nat} {p : List MemPlace} (hg : Tryd.prog.globalNamed "internal/strconv.uint64pow10" = some g) (ht : (Tryd.prog.globals[g]?).map (·.type) = some t) (hv : W.var? Tryd.prog "internal/strconv.uint64pow10" = some cs)
    (hd : DataW.trod (fun _ => ()) Tryd.prog W 0 (fun _ => true) false fuel t cs.toList = some (Rows.laid_internal_strconv_uint64pow10, p)) : Lib.TabIs Tryd.prog W "internal/strconv.uint64pow10" .u64 Lib.pow10Tab := by
  obtain rfl := Option.some.inj (p10G.symm.trans hg)
  obtain rfl := Option.some.inj (ptT.symm.trans ht)
  have e : (Rows.laid_internal_strconv_uint64pow10 : DataW Unit) = Lib.tabData .u64 Lib.pow10Tab := rfl
  rw [e] at hd
  unfold Lib.TabIs
  rw [hv, ← Lib.cells_of_tab Tryd.underlying221 Tryd.underlying189 u64C ptC hd]
theorem nm_of {W : World} {g t : Nat} {cs : Array Value} {fuel : Nat} {p : List MemPlace} (hg : Tryd.prog.globalNamed "keyhold/isa.names" = some g) (ht : (Tryd.prog.globals[g]?).map (·.type) = some t) (hv : W.var? Tryd.prog "keyhold/isa.names" = some cs)
    (hd : DataW.trod (fun _ => ()) Tryd.prog W 0 (fun _ => true) false fuel t cs.toList = some (Rows.laid_keyhold_isa_names, p)) : ∀ k, k < 15 → W.cell? ⟨1, k, none⟩ = some (.string ⟨(nameL k).toArray⟩) := by
  obtain rfl := Option.some.inj (inG.symm.trans hg)
  obtain rfl := Option.some.inj (inT.symm.trans ht)
  have e : (Rows.laid_keyhold_isa_names : DataW Unit) = .agg (namesLL.map fun l => .lit (.string l)) := rfl
  rw [e] at hd
  intro k hk
  obtain ⟨h1, h2⟩ := namesLL_at k hk
  have := arr_strs Tryd.underlying162 Tryd.underlying9 strC rfl hd k h1
  rw [h2] at this
  rw [World.var?_cell inG hv k]
  simpa using this
theorem rn_of {W : World} {g t : Nat} {cs : Array Value} {fuel : Nat} {p : List MemPlace} (hg : Tryd.prog.globalNamed "keyhold/keyholdref.names" = some g) (ht : (Tryd.prog.globals[g]?).map (·.type) = some t) (hv : W.var? Tryd.prog "keyhold/keyholdref.names" = some cs)
    (hd : DataW.trod (fun _ => ()) Tryd.prog W 0 (fun _ => true) false fuel t cs.toList = some (Rows.laid_keyhold_keyholdref_names, p)) :
    ∃ b o c, W.cell? ⟨0, 0, none⟩ = some (.slice (some ⟨b, o, none⟩) 15 c) ∧ ∀ k, k < 15 → W.cell? ⟨b, o + k, none⟩ = some (.string ⟨(nameL k).toArray⟩) := by
  obtain rfl := Option.some.inj (rnG.symm.trans hg)
  obtain rfl := Option.some.inj (rnT.symm.trans ht)
  have e : (Rows.laid_keyhold_keyholdref_names : DataW Unit) = .slice (namesLL.map fun l => .lit (.string l)) [] := rfl
  rw [e] at hd
  obtain ⟨b, o, c, h1, h2⟩ := slice_strs Tryd.underlying84 Tryd.underlying9 strC hd (by decide)
  refine ⟨b, o, c, ?_, fun k hk => ?_⟩
  · rw [World.var?_cell rnG hv 0]
    have := congrArg (·[0]?) h1
    rw [show namesLL.length = 15 from rfl] at this
    simpa using this
  · obtain ⟨h3, h4⟩ := namesLL_at k hk
    have := h2 k h3
    rw [h4] at this
    exact this
end Go.Proofs.YtfpkbfhaipgibaaDoor.Txt
