/- From what the row says of isa.names to its cells; a text; the wrap of a card that keeps the world's shape beside the listed variables. -/
import Derived.ProofKit
import Derived.OpenShut
import Derived.Deep.Slices
import Derived.Lib.SmallJoins
import Derived.Handed
import Derived.Test.YtkocmkaeaagbaaaGreatDoorQbf
import Derived.Test.YtkocmkaeaagbaaaGreatDoorQax
import Derived.Test.YtkocmkaeaagbaaaGreatDoorQbq
namespace Go.Proofs.YtkocmkaeaagbaaaGreatDoor.Prs
open Go.ChangeShapes Go.WideShapes Go.RowKit Go.Deep Go.Joins Go.Proofs.YtkocmkaeaagbaaaGreatDoor.Mem Go.Proofs.YtkocmkaeaagbaaaGreatDoor.Nums Go.Proofs.YtkocmkaeaagbaaaGreatDoor.Hex Go.Proofs.YtkocmkaeaagbaaaGreatDoor.Wd Go.Proofs.YtkocmkaeaagbaaaGreatDoor.Txt
theorem val_str {P : Program} {w : World} {r : Reach} {base : Nat} {u : TypeId} {v : Value} (hu : P.underlying u = some .string) (h : Value.okWide P w r base u v) : ∃ s, v = .string s := by
 simp only [Value.okWide, hu, Cell.okWide] at h
 cases v <;> simp_all [Cell.ok]
theorem arr_strs {H : Type} {enc : TypeId × Value → H} {P : Program} {w : World} {base : Nat} {spare : Nat → Bool} {held : Bool} {t e : TypeId} {n fuel : Nat} {cs : List Value} {L : List (List UInt8)} {p : List MemPlace} (ht : P.underlying t = some (.array n e)) (he : P.underlying e = some .string) (hce : P.cellsOf e = 1) (hn : n = L.length)
  (h : DataW.trod enc P w base spare held fuel t cs = some (.agg (L.map fun l => .lit (.string l)), p)) : ∀ k (hk : k < L.length), cs[k]? = some (.string ⟨L[k].toArray⟩) := by
 intro k hk
 obtain ⟨xs, m, _, hx, _, hxl, hf⟩ := DataW.trod_array ht h
 simp only [Prod.mk.injEq, DataW.agg.injEq] at hx
 have h1 := hf k (by omega)
 rw [hce, Nat.mul_one, List.getElem?_eq_getElem (by omega)] at h1
 obtain ⟨s, e1, e2, _⟩ := DataW.trod_string he h1
 have h2 : (xs.map (·.1))[k]? = some xs[k].1 := by simp [List.getElem?_eq_getElem (show k < xs.length by omega)]
 rw [← hx.1, e2] at h2
 simp [List.getElem?_eq_getElem hk] at h2
 have h3 : cs[k]? = some (.string s) := by
  have := congrArg (·[0]?) e1
  simpa [List.getElem?_take, List.getElem?_drop] using this
 rw [h3, h2]
def namesLL : List (List UInt8) := [nameL 0, nameL 1, nameL 2, nameL 3, nameL 4, nameL 5, nameL 6, nameL 7, nameL 8, nameL 9, nameL 10, nameL 11, nameL 12, nameL 13, nameL 14]
theorem namesLL_at (k : Nat) (h : k < 15) : ∃ hk : k < namesLL.length, namesLL[k] = nameL k := by
 refine ⟨h, ?_⟩
 have : k = 0 ∨ k = 1 ∨ k = 2 ∨ k = 3 ∨ k = 4 ∨ k = 5 ∨ k = 6 ∨ k = 7 ∨ k = 8 ∨ k = 9 ∨ k = 10 ∨ k = 11 ∨ k = 12 ∨ k = 13 ∨ k = 14 := by omega
 rcases this with rfl | rfl | rfl | rfl | rfl | rfl | rfl | rfl | rfl | rfl | rfl | rfl | rfl | rfl | rfl <;> rfl
theorem inG : Tryz.prog.globalNamed "keyhold/isa.names" = some 6 := by kernel_rfl
theorem inT : (Tryz.prog.globals[6]?).map (·.type) = some 278 := by kernel_rfl
theorem strC : Tryz.prog.cellsOf 9 = 1 := by kernel_rfl
theorem nm_of {W : World} {g t : Nat} {cs : Array Value} {fuel : Nat} {p : List MemPlace} (hg : Tryz.prog.globalNamed "keyhold/isa.names" = some g) (ht : (Tryz.prog.globals[g]?).map (·.type) = some t) (hv : W.var? Tryz.prog "keyhold/isa.names" = some cs)
  (hd : DataW.trod (fun _ => ()) Tryz.prog W 0 (fun _ => true) false fuel t cs.toList = some (Rows.laid_keyhold_isa_names, p)) : ∀ k, k < 15 → W.cell? ⟨6, k, none⟩ = some (.string ⟨(nameL k).toArray⟩) := by
 obtain rfl := Option.some.inj (inG.symm.trans hg)
 obtain rfl := Option.some.inj (inT.symm.trans ht)
 have e : (Rows.laid_keyhold_isa_names : DataW Unit) = .agg (namesLL.map fun l => .lit (.string l)) := rfl
 rw [e] at hd
 intro k hk
 obtain ⟨h1, h2⟩ := namesLL_at k hk
 have := arr_strs Tryz.underlying278 Tryz.underlying9 strC rfl hd k h1
 rw [h2] at this
 rw [World.var?_cell inG hv k]
 simpa using this
theorem mlok {W : World} (h : W.ShapedOpen Tryz.prog) : MLok W := Tryz.laysM219.s1_3 W h
end Go.Proofs.YtkocmkaeaagbaaaGreatDoor.Prs
namespace Go.Proofs.YtkocmkaeaagbaaaGreatDoor
variable {H : Type} {enc : TypeId × Value → H}
/-- A call's contract, made with the listed variables and the world's shape in hand, gives the row's law. -/
theorem handed_laid_shaped {a : Assume} {C : Checked} {os : Os} {f : FuncId} {fn : Func} {s : ChangeSpec} {conds : List PathCond} {apart fresh handsOn again : Bool} {X : World → Array Value → Prop}
  (hX : ∀ (w w' : World) (args : Array Value), w.heap = w'.heap → X w args → X w' args)
  (own : ownKnob C.prog.godebug = none) (started : os.Started) (noInit : C.prog.inits.idxOf? f = none) (hfn : C.prog.funcs[f]? = some fn)
  (witness : ∃ (w : World) (tape : Tape) (i : Input), w.os = os ∧ (w.forCall tape i).Shaped C.prog ∧ i.vars = [] ∧ Input.okWide C.prog (w.forCall tape i) .any w.heap.size f i ∧
   ((s.pre enc C.prog fn conds apart (w.forCall tape i).memory i.args ∧ X (w.forCall tape i).memory i.args) ∧ sizedMet enc C.prog fn (OpenSpec.ofChange s) apart (w.forCall tape i).memory i.args) ∧ a.holds C.prog (lone (Frame.enter C.prog f i.args .normal) [] (w.forCall tape i)))
  (made : ∀ (W : World) (base : Nat) (args : Array Value) (ds gs : List (DataW H)) (before : List MemPlace),
   (∀ (j : Nat) t v, fn.params[j]? = some t → args[j]? = some v → Value.okWide C.prog W .any base t v) →
   DataW.Whole enc C.prog fn.params.toList s.vars apart W args.toList ds gs before → X W args → W.ShapedOpen C.prog →
   Calls C.prog f args W fun e W' => ∃ v, e = .returned v ∧ s.post enc C.prog fn apart fresh handsOn again W args v W') :
  ReturnsInHanded a C os f .any (fun w args => (s.pre enc C.prog fn conds apart w args ∧ X w args) ∧ sizedMet enc C.prog fn (OpenSpec.ofChange s) apart w args) (s.post enc C.prog fn apart fresh handsOn again) := by
 refine returnsInHanded_of_calls own started noInit witness fun w tape i _ hsh _ hok hpre _ => ?_
 obtain ⟨_, _, _, fn', hfn', _, _, _, _, hval⟩ := hok
 obtain rfl : fn' = fn := Option.some.inj (hfn'.symm.trans hfn)
 obtain ⟨⟨⟨ds, gs, before, hw, _⟩, hx⟩, _⟩ := hpre
 have hw' := DataW.Whole.of_heap (w' := w.forCall tape i) (by rfl) hw
 refine (made _ w.heap.size i.args ds gs before hval hw' (hX _ _ _ (by rfl) hx) hsh).mono ?_
 rintro e W' ⟨v, rfl, hp⟩
 exact ChangeSpec.post_blind hp
end Go.Proofs.YtkocmkaeaagbaaaGreatDoor
