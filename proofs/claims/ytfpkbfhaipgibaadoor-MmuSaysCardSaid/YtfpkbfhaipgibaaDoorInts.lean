/- Numbers in memory; keyholdref.Pick, walked. -/
import Derived.Test.YtfpkbfhaipgibaaDoorMem
import Derived.Test.YtfpkbfhaipgibaaDoorChecked
namespace Go.Proofs.YtfpkbfhaipgibaaDoor.Nums
open Go.RowKit Go.Proofs.YtfpkbfhaipgibaaDoor.Mem

/-- Numbers in memory. -/
def IntsAt (w : World) (b off : Nat) (zs : List Int) : Prop := ∀ j (h : j < zs.length), w.cell? ⟨b, off + j, none⟩ = some (.int .i64 zs[j])
theorem IntsAt.below {w w' : World} {b off : Nat} {zs : List Int} (h : IntsAt w b off zs) (hb : Below w.heap.size w w') : IntsAt w' b off zs :=
  fun j hj => (hb.cell (World.block_lt_of_cell? _ _ (h j hj))).trans (h j hj)
theorem IntsAt.far {w : World} {b off B i : Nat} {zs : List Int} (h : IntsAt w b off zs) (hne : B ≠ b) (v : Value) : IntsAt (w.setCell ⟨B, i, none⟩ v) b off zs := fun j hj => by
  rw [World.cell?_setCell_other w _ _ _ (by intro e; cases e; exact hne rfl)]
  exact h j hj
theorem IntsAt.set {w : World} {b k : Nat} {zs : List Int} (h : IntsAt w b 0 zs) (hk : k < zs.length) (x : Int) : IntsAt (w.setCell ⟨b, k, none⟩ (.int .i64 x)) b 0 (zs.set k x) := fun j hj => by
  rw [List.length_set] at hj
  by_cases e : k = j
  · subst e
    have := h k hk
    rw [Nat.zero_add] at this ⊢
    rw [World.cell?_setCell_same w _ _ this]
    simp
  · rw [World.cell?_setCell_other w _ _ _ (by intro h; cases h; omega), h j hj]
    rw [List.getElem_set_ne e]
def pickV (c n : Int) : Int := if c < 0 then (-(c + 1)).tmod n else c.tmod n
theorem pickV_bound (c n : Int) (hn : 0 < n) : 0 ≤ pickV c n ∧ pickV c n < n := by
  unfold pickV
  split
  · have : 0 ≤ -(c + 1) := by omega
    rw [Int.tmod_eq_emod_of_nonneg this]
    exact ⟨Int.emod_nonneg _ (by omega), Int.emod_lt_of_pos _ hn⟩
  · have : 0 ≤ c := by omega
    rw [Int.tmod_eq_emod_of_nonneg this]
    exact ⟨Int.emod_nonneg _ (by omega), Int.emod_lt_of_pos _ hn⟩
theorem pick_eq (c n : Int) (w : World) (h0 : -9223372036854775808 ≤ c) (h1 : c ≤ 9223372036854775807) (hn : 0 < n) :
    Calls Tryd.prog 28 #[.int .i64 c, .int .i64 n] w fun e w' => e = .returned (.int .i64 (pickV c n)) ∧ w = w' := by
  have hn0 : n ≠ 0 := by omega
  by_cases hc : c < 0
  · go_enter Tryd.func28, Tryd.ntmps28
    go_wp2_with fail
    go_ret
    refine ⟨ret_int ?_, rfl⟩
    unfold pickV
    rw [if_pos hc, Int.neg_tmod]
  · go_enter Tryd.func28, Tryd.ntmps28
    go_wp2_with fail
    go_ret
    refine ⟨ret_int ?_, rfl⟩
    unfold pickV
    rw [if_neg (by omega), Int.tmod_eq_emod_of_nonneg (by omega)]
theorem below_drew (w : World) (n : Nat) : Below w.heap.size w (w.drewN n) := ⟨rfl, rfl, rfl, Nat.le_refl _, fun _ _ => rfl⟩
theorem drew_cell (w : World) (n : Nat) (p : Addr) : (w.drewN n).cell? p = w.cell? p := rfl
/-- A list of numbers as a slice: a row of the call's own, or nil. -/
def Row1 (w : World) (v : Value) (zs : List Int) : Prop := ∃ p cap, v = .slice p zs.length cap ∧ (0 < zs.length → ∃ b, p = some ⟨b, 0, none⟩ ∧ IntsAt w b 0 zs)
theorem Row1.below {w w' : World} {v : Value} {zs : List Int} (h : Row1 w v zs) (hb : Below w.heap.size w w') : Row1 w' v zs := by
  obtain ⟨p, cap, h1, h2⟩ := h
  exact ⟨p, cap, h1, fun hl => let ⟨b, h3, h4⟩ := h2 hl; ⟨b, h3, h4.below hb⟩⟩
end Go.Proofs.YtfpkbfhaipgibaaDoor.Nums
