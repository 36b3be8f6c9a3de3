/- keyholdlaw.words, keyholdref.Blank and keyholdref.Same, walked. -/
import Derived.Test.YtlkplpdnleaihagInts
import Derived.Test.YtlkplpdnleaihagKept
import Derived.Deep.QuietTactic
import Derived.BigQuiet
import Derived.OwnWalk
import Derived.Laws.OwnMore
namespace Go.Proofs.Ytlkplpdnleaihag.Nums
open Go.RowKit Go.Proofs.Ytlkplpdnleaihag.Mem

theorem info_get {P : Program} {t : TypeId} {z : Value} {s b : Nat} (h : (P.info? t).map (fun i => (i.zero, i.size, i.bytes)) = some (some z, s, b)) : ∃ i0, P.info? t = some i0 ∧ i0.zero = some z ∧ i0.size = s ∧ i0.bytes = b := by
  cases hi : P.info? t with
  | none => rw [hi] at h; cases h
  | some i0 =>
    rw [hi] at h
    simp at h
    exact ⟨i0, rfl, h.1, h.2.1, h.2.2⟩
theorem infoI : (Try.prog.info? 3).map (fun i => (i.zero, i.size, i.bytes)) = some (some (.int .i64 0), 1, 8) := by kernel_rfl
theorem new1 (W : World) (u : Value) (e : TypeId) : ∀ (j : Nat) (x : Value), [u][j]? = some x → (W.alloc (.cells #[u] e)).cell? ((⟨W.heap.size, 0, none⟩ : Addr).add j) = some x := by
  intro j x h
  rw [show (⟨W.heap.size, 0, none⟩ : Addr).add j = ⟨W.heap.size, j, none⟩ from by unfold Addr.add; split <;> simp_all, World.cell?_alloc_at _ _ _ _ rfl]
  rw [← h]
  simp
theorem int1 (a : Int) : ∀ x ∈ [Value.int .i64 a], x.oneCell' = true := by
  intro x hx
  simp at hx
  subst hx
  rfl
theorem own_below {w w' : World} {B e size n : Nat} {v : Value} {xs : List Value} (h : w.ownsRow B e size v n xs) (hb : Below w.heap.size w w') : w'.ownsRow B e size v n xs := by
  refine ⟨h.1, ?_⟩
  rcases h.2 with h2 | ⟨g, cap, cur, h1, h2, h3, h4⟩
  · exact .inl h2
  · have hl : g < w.heap.size := by
      by_cases hl : g < w.heap.size
      · exact hl
      · rw [Array.getElem?_eq_none (by omega)] at h3; cases h3
    exact .inr ⟨g, cap, cur, h1, h2, (hb.block g hl).trans h3, h4⟩
def ints (l : List Int) : List Value := l.map (.int .i64)
/-- Numbers as words. -/
def wordsL (zs : List Int) : List Int := zs.map (pickV · 65536)
theorem wordsL_take (zs : List Int) (k : Nat) (h : k < zs.length) : ints (wordsL (zs.take (k + 1))) = ints (wordsL (zs.take k)) ++ [.int .i64 (pickV zs[k] 65536)] := by
  unfold ints wordsL
  rw [List.take_succ_eq_append_getElem h, List.map_append, List.map_append]
  rfl
theorem wordsL_word (zs : List Int) : ∀ z ∈ wordsL zs, 0 ≤ z ∧ z < 65536 := by
  intro z hz
  obtain ⟨x, _, rfl⟩ := List.mem_map.1 hz
  exact pickV_bound x 65536 (by decide)
/-- A slice of numbers that was handed in. -/
def RawIn (w : World) (v : Value) (zs : List Int) : Prop := ∃ q b off cap, v = .slice q zs.length cap ∧ (0 < zs.length → q = some ⟨b, off, none⟩) ∧ IntsAt w b off zs ∧ ∀ z ∈ zs, -9223372036854775808 ≤ z ∧ z ≤ 9223372036854775807
theorem RawIn.below {w w' : World} {v : Value} {zs : List Int} (h : RawIn w v zs) (hb : Below w.heap.size w w') : RawIn w' v zs := by
  obtain ⟨q, b, off, cap, h1, h2, h3, h4⟩ := h
  exact ⟨q, b, off, cap, h1, h2, h3.below hb, h4⟩
end Go.Proofs.Ytlkplpdnleaihag.Nums
