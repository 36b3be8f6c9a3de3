/- From what is read to cells: a slice of numbers, a text; the wrap of a card that keeps the world's shape beside the listed variables. -/
import Derived.Test.YtfpkbfhaipgibaaDoorWordTextsWalk
import Derived.Test.YtfpkbfhaipgibaaDoorOpenRows
import Derived.Test.YtfpkbfhaipgibaaDoorShelf
import Derived.Handed
namespace Go.Proofs.YtfpkbfhaipgibaaDoor.Hex
open Go.ChangeShapes Go.WideShapes Go.RowKit Go.Deep Go.Joins Go.Proofs.YtfpkbfhaipgibaaDoor.Mem Go.Proofs.YtfpkbfhaipgibaaDoor.Txt

theorem val_str {P : Program} {w : World} {r : Reach} {base : Nat} {u : TypeId} {v : Value} (hu : P.underlying u = some .string) (h : Value.okWide P w r base u v) : ∃ s, v = .string s := by
  simp only [Value.okWide, hu, Cell.okWide] at h
  cases v <;> simp_all [Cell.ok]
theorem one_int {P : Program} {w : World} {base : Nat} {spare : Nat → Bool} {held : Bool} {H : Type} {enc : TypeId × Value → H} {u : TypeId} {fuel : Nat} {a : Addr} {cs : List Value} {x : DataW H × List MemPlace} (hu : P.underlying u = some (.int .i64))
    (hc : w.cells? base a 1 = some cs) (h : DataW.trod enc P w base spare held fuel u cs = some x) : ∃ q : Int, w.cell? (a.add 0) = some (.int .i64 q) := by
  obtain ⟨_, hl, hcc⟩ := World.cells?_some hc
  match cs, hl with
  | [c0], _ =>
    obtain ⟨n0, k0, _⟩ := DataW.trod_int hu h
    simp at k0
    subst k0
    exact ⟨n0, hcc 0 (by omega)⟩
set_option maxRecDepth 100000 in
/-- A slice of numbers that is read: nil, or a row. -/
theorem open_ints {H : Type} {enc : TypeId × Value → H} {W : World} {r : Reach} {base : Nat} {v : Value} {d : DataW H} {p : List MemPlace}
    (hv : Value.okWide Tryd.prog W r base 36 v) (h : DataW.Trod enc Tryd.prog W 0 (fun _ => true) true 36 v d p) :
    v = .slice none 0 0 ∨ ∃ b off cap zs, v = .slice (some ⟨b, off, none⟩) zs.length cap ∧ zs.length ≤ maxLen ∧ IntsAt W b off zs := by
  obtain ⟨a0, len, cap, rfl⟩ := okWide_slice Tryd.underlying36 hv
  obtain ⟨fuel, hf⟩ := h
  rcases open_slice Tryd.underlying36 hf with ⟨hcs, _⟩ | ⟨a, len', cap', m, n, D, Pl, hcs, _, hl, hm, hmm, _, hc⟩
  · simp [Value.cells] at hcs
    obtain ⟨rfl, rfl, rfl⟩ := hcs
    exact .inl rfl
  · simp [Value.cells] at hcs
    obtain ⟨rfl, rfl, rfl⟩ := hcs
    have hsp := slice_spot Tryd.underlying36 hv
    obtain ⟨ab, ao, asp⟩ := a
    simp at hsp
    subst hsp
    have hml : len ≤ m := by rw [hmm]; split <;> omega
    obtain ⟨q, hq⟩ := choose_lt (α := Int) (n := len) (p := fun i q => W.cell? ⟨ab, ao + i, none⟩ = some (.int .i64 q)) (fun i hi => by
      obtain ⟨cs', h1, h2⟩ := hc i (by omega)
      rw [intC] at h1
      obtain ⟨q, k0⟩ := one_int Tryd.underlying3 h1 h2
      simp only [Txt.add_plain, Nat.mul_one, Nat.add_zero] at k0
      exact ⟨q, k0⟩)
    refine .inr ⟨ab, ao, cap, (List.range len).map q, by simp, by simp; omega, fun j hj => ?_⟩
    have hj' : j < len := by simpa using hj
    have e : ((List.range len).map q)[j] = q j := by simp
    rw [e]
    exact hq j hj'
theorem mlok {W : World} (h : W.ShapedOpen Tryd.prog) : MLok W := Tryd.laysM219.s1_3 W h
end Go.Proofs.YtfpkbfhaipgibaaDoor.Hex
namespace Go.Proofs.YtfpkbfhaipgibaaDoor
variable {H : Type} {enc : TypeId × Value → H}
/-- A call's contract, made with the listed variables and the world's shape in hand, gives the row's law. -/
theorem handed_laid_shaped {a : Assume} {C : Checked} {os : Os} {f : FuncId} {fn : Func} {s : ChangeSpec} {conds : List PathCond} {apart fresh handsOn again : Bool} {X : World → Array Value → Prop}
    (hX : ∀ (w w' : World) (args : Array Value), w.heap = w'.heap → X w args → X w' args)
    (own : ownKnob C.prog.godebug = none) (started : os.Started) (noInit : C.prog.inits.idxOf? f = none) (hfn : C.prog.funcs[f]? = some fn)
    (witness : ∃ (w : World) (tape : Tape) (i : Input), w.os = os ∧ (w.forCall tape i).Shaped C.prog ∧ i.vars = [] ∧ Input.okWide C.prog (w.forCall tape i) .any w.heap.size f i ∧
      ((s.pre enc C.prog fn conds apart (w.forCall tape i).memory i.args ∧ X (w.forCall tape i).memory i.args) ∧ sizedMet enc C.prog fn (OpenSpec.ofChange s) apart (w.forCall tape i).memory i.args) ∧ a.holds C.prog (lone (Frame.enter C.prog f i.args .normal) [] (w.forCall tape i)))
    (made : ∀ (W : World) (base : Nat) (args : Array Value) (ds gs : List (DataW H)) (before : List MemPlace),
      (∀ (j : Nat) t v, fn.params[j]? = some t → args[j]? = some v → Value.okWide C.prog W .any base t v) →
      DataW.Whole enc C.prog fn.params.toList s.vars apart W args.toList ds gs before → X W args → W.ShapedOpen C.prog →
      Calls C.prog f args W fun e W' => ∃ v, e = .returned v ∧ s.post enc C.prog fn apart fresh handsOn again W args v W') :
    ReturnsInHanded a C os f .any (fun w args => (s.pre enc C.prog fn conds apart w args ∧ X w args) ∧ sizedMet enc C.prog fn (OpenSpec.ofChange s) apart w args) (s.post enc C.prog fn apart fresh handsOn again) := by
  refine returnsInHanded_of_calls own started noInit witness fun w tape i _ hsh _ hok hpre _ => ?_
  obtain ⟨_, _, _, fn', hfn', _, _, _, _, hval⟩ := hok
  obtain rfl : fn' = fn := Option.some.inj (hfn'.symm.trans hfn)
  obtain ⟨⟨⟨ds, gs, before, hw, _⟩, hx⟩, _⟩ := hpre
  have hw' := DataW.Whole.of_heap (w' := w.forCall tape i) (by rfl) hw
  refine (made _ w.heap.size i.args ds gs before hval hw' (hX _ _ _ (by rfl) hx) hsh).mono ?_
  rintro e W' ⟨v, rfl, hp⟩
  exact ChangeSpec.post_blind hp
end Go.Proofs.YtfpkbfhaipgibaaDoor
