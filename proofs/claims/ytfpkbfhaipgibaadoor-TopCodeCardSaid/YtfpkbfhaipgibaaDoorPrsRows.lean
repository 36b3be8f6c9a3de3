/- Rows of instructions that a call has built. -/
import Derived.Test.YtfpkbfhaipgibaaDoorPrsFind
import Derived.Test.YtfpkbfhaipgibaaDoorTextWalk
namespace Go.Proofs.YtfpkbfhaipgibaaDoor.Prs
open Go.RowKit Go.Maps Go.Proofs.YtfpkbfhaipgibaaDoor.Mem Go.Proofs.YtfpkbfhaipgibaaDoor.Hex Go.Proofs.YtfpkbfhaipgibaaDoor.Txt Go.Proofs.YtfpkbfhaipgibaaDoor.Isa

theorem infoIns : (Tryd.prog.info? 34).map (fun i => (i.zero, i.size, i.bytes)) = some (some (.agg #[.int .i64 0, .int .i64 0, .int .i64 0, .int .i64 0]), 4, 32) := by kernel_rfl
def cells4 (l : List (Int × Int × Int × Int)) : List Value := l.flatMap fun q => [.int .i64 q.1, .int .i64 q.2.1, .int .i64 q.2.2.1, .int .i64 q.2.2.2]
theorem cells4_len (l : List (Int × Int × Int × Int)) : (cells4 l).length = l.length * 4 := by
  induction l with
  | nil => rfl
  | cons q l ih =>
    have e : cells4 (q :: l) = .int .i64 q.1 :: .int .i64 q.2.1 :: .int .i64 q.2.2.1 :: .int .i64 q.2.2.2 :: cells4 l := rfl
    rw [e]
    simp only [List.length_cons, ih]
    omega
theorem cells4_at (l : List (Int × Int × Int × Int)) (j : Nat) (h : j < l.length) : (cells4 l)[j * 4]? = some (.int .i64 l[j].1) ∧ (cells4 l)[j * 4 + 1]? = some (.int .i64 l[j].2.1) ∧ (cells4 l)[j * 4 + 2]? = some (.int .i64 l[j].2.2.1) ∧ (cells4 l)[j * 4 + 3]? = some (.int .i64 l[j].2.2.2) := by
  induction l generalizing j with
  | nil => simp at h
  | cons q l ih =>
    have e : cells4 (q :: l) = .int .i64 q.1 :: .int .i64 q.2.1 :: .int .i64 q.2.2.1 :: .int .i64 q.2.2.2 :: cells4 l := rfl
    rw [e]
    cases j with
    | zero => exact ⟨rfl, rfl, rfl, rfl⟩
    | succ j =>
      have := ih j (by simpa using h)
      have e2 : (j + 1) * 4 = j * 4 + 4 := by omega
      rw [e2]
      exact this
theorem cells4_snoc (l : List (Int × Int × Int × Int)) (q : Int × Int × Int × Int) : cells4 (l ++ [q]) = cells4 l ++ [.int .i64 q.1, .int .i64 q.2.1, .int .i64 q.2.2.1, .int .i64 q.2.2.2] := by
  unfold cells4
  rw [List.flatMap_append]
  rfl
theorem four_new (W : World) (a b c d : Value) (e : TypeId) : ∀ (j : Nat) (x : Value), [a, b, c, d][j]? = some x → (W.alloc (.cells #[a, b, c, d] e)).cell? ((⟨W.heap.size, 0, none⟩ : Addr).add j) = some x := by
  intro j x h
  rw [show (⟨W.heap.size, 0, none⟩ : Addr).add j = ⟨W.heap.size, j, none⟩ from by unfold Addr.add; split <;> simp_all, World.cell?_alloc_at _ _ _ _ rfl]
  rw [← h]
  simp
theorem four_cell (a b c d : Int) : ∀ x ∈ [Value.int .i64 a, .int .i64 b, .int .i64 c, .int .i64 d], x.oneCell' = true := by
  intro x hx
  simp at hx
  rcases hx with rfl | rfl | rfl | rfl <;> rfl
/-- A list of instructions as a slice. -/
def Rows4 (w : World) (v : Value) (l : List (Int × Int × Int × Int)) : Prop := ∃ p cap, v = .slice p l.length cap ∧ l.length ≤ 100001 ∧ (l ≠ [] → ∃ b, p = some ⟨b, 0, none⟩ ∧ InsAt w b 0 l)
theorem Rows4.below {w w' : World} {v : Value} {l : List (Int × Int × Int × Int)} (h : Rows4 w v l) (hb : Below w.heap.size w w') : Rows4 w' v l := by
  obtain ⟨p, cap, h1, h2, h3⟩ := h
  refine ⟨p, cap, h1, h2, fun hl => ?_⟩
  obtain ⟨b, h4, h5⟩ := h3 hl
  exact ⟨b, h4, h5.below hb⟩
theorem Rows4.nil (w : World) : Rows4 w (.slice none 0 0) [] := ⟨none, 0, rfl, by simp, fun h => absurd rfl h⟩
theorem own_rows {w : World} {B : Nat} {v : Value} {l : List (Int × Int × Int × Int)} (h : w.ownsRow B 34 4 v l.length (cells4 l)) (hl : l.length ≤ 100001) : Rows4 w v l ∧ ∃ p n cap, v = .slice p n cap ∧ ∀ b, v.ownBlock = some b → B ≤ b := by
  rcases h.2 with ⟨rfl, h1⟩ | ⟨g, cap, cur, rfl, h1, _⟩
  · rw [List.length_eq_zero_iff.1 h1]
    exact ⟨Rows4.nil w, none, 0, 0, rfl, fun b e => by cases e⟩
  · refine ⟨⟨some ⟨g, 0, none⟩, cap, rfl, hl, fun _ => ⟨g, rfl, fun j hj => ?_⟩⟩, _, _, _, rfl, fun b e => by cases e; exact h1⟩
    obtain ⟨e0, e1, e2, e3⟩ := cells4_at l j hj
    simp only [Nat.zero_add]
    rw [h.cellAt (j * 4) (by omega), h.cellAt (j * 4 + 1) (by omega), h.cellAt (j * 4 + 2) (by omega), h.cellAt (j * 4 + 3) (by omega)]
    exact ⟨e0, e1, e2, e3⟩
theorem codeL_len (D : DataW Unit) (ls : List ByteArray) (k : Nat) : (codeL D (ls.take k)).length ≤ k := by
  unfold codeL
  have := List.length_filterMap_le (fun t => if labB t = true then none else some (insR D t).2) (ls.take k)
  rw [List.length_take] at this
  omega
end Go.Proofs.YtfpkbfhaipgibaaDoor.Prs
