/- clear of the tail of a row of entries that the call owns, and the row cut. -/
import Derived.Test.YtfpkbfhaipgibaaDoorMmuClone
import Derived.Maps.AppendAt
namespace Go.Proofs.YtfpkbfhaipgibaaDoor.Mmu
open Go.RowKit Go.Proofs.YtfpkbfhaipgibaaDoor.Mem Go.Proofs.YtfpkbfhaipgibaaDoor.Bw Go.Proofs.YtfpkbfhaipgibaaDoor.Nums

theorem own_cut {w : World} {B e g n cap : Nat} {xs : List Value} (h : w.ownsRow B e 4 (.slice (some ⟨g, 0, none⟩) n cap) n xs) (i : Nat) (hi : i ≤ n) : w.ownsRow B e 4 (.slice (some ⟨g, 0, none⟩) i cap) i (xs.take (i * 4)) := by
  have hl := h.1
  rcases h.2 with ⟨h', _⟩ | ⟨g', cap', cur, h', hb, hg, hnc, hcm, hcs, ht⟩
  · simp at h'
  · simp only [Value.slice.injEq, Option.some.injEq, Addr.mk.injEq, and_true, true_and] at h'
    obtain ⟨rfl, rfl⟩ := h'
    refine ⟨by rw [List.length_take]; omega, .inr ⟨g, cap, cur, rfl, hb, hg, by omega, hcm, hcs, ?_⟩⟩
    rw [← ht, List.take_take, Nat.min_eq_left (by omega)]
theorem own_cells {B e g n cap : Nat} (i : Nat) : ∀ (L : List Value) (o : Nat) (w : World) (xs : List Value), w.ownsRow B e 4 (.slice (some ⟨g, 0, none⟩) n cap) n xs → i ≤ o →
    ∃ ys, (w.setCells g o L).ownsRow B e 4 (.slice (some ⟨g, 0, none⟩) n cap) n ys ∧ ys.take i = xs.take i ∧ w.grownBy (w.setCells g o L) (some g)
  | [], o, w, xs, h, _ => ⟨xs, h, rfl, ⟨rfl, rfl, rfl, Nat.le_refl _, fun _ _ _ => rfl⟩⟩
  | v :: r, o, w, xs, h, ho => by
    obtain ⟨h1, g1⟩ := h.stored o v
    obtain ⟨ys, h2, e2, g2⟩ := own_cells i r (o + 1) _ _ h1 (by omega)
    refine ⟨ys, h2, ?_, g1.trans g2⟩
    rw [e2, List.take_set_of_le (by omega)]
theorem clear_own {w : World} {B g n cap : Nat} {xs : List Value} (h : w.ownsRow B 39 4 (.slice (some ⟨g, 0, none⟩) n cap) n xs) (i : Nat) (hi : i < n) (ty : TypeId) (c : Nat) :
    ∃ w', (Builtin.clear_ #[37] ty #[.slice (some ⟨g, i * 4, none⟩) (n - i) c]).run Tryd.prog w = .ok (.tuple #[]) w' ∧ w'.ownsRow B 39 4 (.slice (some ⟨g, 0, none⟩) i cap) i (xs.take (i * 4)) ∧ w.grownBy w' (some g) := by
  obtain ⟨m, hm⟩ : ∃ m, n - i = m + 1 := ⟨n - i - 1, by omega⟩
  obtain ⟨L, hL⟩ : ∃ L, (Builtin.zeroCells (Value.agg #[.int .i64 0, .int .i64 0, .int .i64 0, .bool false]).cells (n - i)).toList = L := ⟨_, rfl⟩
  have hlen : L.length = (n - i) * 4 := by
    rw [← hL]
    simp [Builtin.zeroCells, Value.cells]
  have hone : ∀ v ∈ L, v.oneCell' = true := by
    intro v hv
    rw [← hL] at hv
    simp [Builtin.zeroCells, Value.cells] at hv
    obtain ⟨k, _, rfl⟩ := hv
    have : k % 4 = 0 ∨ k % 4 = 1 ∨ k % 4 = 2 ∨ k % 4 = 3 := by omega
    rcases this with e | e | e | e <;> simp [e, Value.oneCell']
  obtain ⟨ys, h2, e2, g2⟩ := own_cells (i * 4) L (i * 4) w xs h (Nat.le_refl _)
  have hc : ∀ j, j < L.length → (w.cell? ⟨g, i * 4 + 0 + j, none⟩).isSome = true := fun j hj => by
    rw [h.cellAt _ (by omega)]
    have := h.1
    rw [List.getElem?_eq_getElem (by omega)]
    rfl
  have hf : ∀ j, j < L.length → w.frozen? ⟨g, i * 4 + 0 + j, none⟩ = false := fun j _ => h.frozenAt _
  have hst := run_storeCells_cells (P := Tryd.prog) g (i * 4) L 0 w hc hf hone
  simp only [Nat.add_zero] at hst
  refine ⟨w.setCells g (i * 4) L, ?_, ?_, g2⟩
  · rw [hm] at hL ⊢
    simp [Builtin.clear_, run_underlying Tryd.underlying37, hL, hst]
  · have := own_cut h2 i (by omega)
    rw [e2] at this
    exact this
theorem wp_clear {ops : Array Oper} {rest : List Oper} {o : Oper} {a : Act} {w : World} {Q : Exit → Act → World → Prop} (hgd : o.guard = none) (x : Operand) (ho : o.op = .call { callee := .builtin .clear, args := #[x], argTypes := #[37] })
    {B g n cap i c : Nat} {xs : List Value} (hx : a.eval x = .slice (some ⟨g, i * 4, none⟩) (n - i) c) (hown : w.ownsRow B 39 4 (.slice (some ⟨g, 0, none⟩) n cap) n xs) (hi : i < n)
    (h : ∀ w', w'.ownsRow B 39 4 (.slice (some ⟨g, 0, none⟩) i cap) i (xs.take (i * 4)) → w.grownBy w' (some g) → wpList Tryd.prog ops Q rest (a.put o.dst (.tuple #[])) w') :
    wpList Tryd.prog ops Q (o :: rest) a w := by
  refine wpList_plain hgd fun K hK => ?_
  obtain ⟨w', hr, h1, h2⟩ := clear_own hown i hi o.type c
  unfold Oper.wp execOp
  simp only [ho, resolve, invoke, builtin, Sem.run_bind, Sem.run_pure, Result.andThen_ok, List.map_toArray, List.map_cons, List.map_nil, hx, hr]
  exact hK _ _ (h w' h1 h2)
end Go.Proofs.YtfpkbfhaipgibaaDoor.Mmu
