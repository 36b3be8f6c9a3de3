/- keyholdlaw.IsaSays, walked. -/
import Derived.Test.YtfpkbfhaipgibaaDoorDecWalk
import Derived.Test.YtfpkbfhaipgibaaDoorRefIns
import Derived.Test.YtfpkbfhaipgibaaDoorTell
namespace Go.Proofs.YtfpkbfhaipgibaaDoor.Isa
open Go.RowKit Go.Proofs.YtfpkbfhaipgibaaDoor.Mem

/-- A world in which the first new block still holds what it was given, and errors.errorType its handle. -/
structure KW (w : World) (arr : Array Value) (W : World) : Prop where
  bel : Below w.heap.size w W
  lt : w.heap.size < W.heap.size
  cell : ∀ o, W.cell? ⟨w.heap.size, o, none⟩ = arr[o]?
  et : ETok W
  gl : 2 < w.heap.size
theorem KW.next {w W W' : World} {arr : Array Value} (h : KW w arr W) (hb : Below W.heap.size W W') : KW w arr W' :=
  ⟨btr h.bel hb, Nat.lt_of_lt_of_le h.lt hb.size, fun o => (hb.cell (p := ⟨w.heap.size, o, none⟩) h.lt).trans (h.cell o), h.et.below hb, h.gl⟩
theorem KW.al {w W : World} {arr : Array Value} (h : KW w arr W) (o : Obj) : KW w arr (W.alloc o) := h.next (bal (Below.refl _ _) o)
theorem KW.start {w : World} (arr : Array Value) (t : TypeId) (hg : ETok w) : KW w arr (w.alloc (.cells arr t)) :=
  ⟨bal (Below.refl _ _) _, by simp, fun o => World.cell?_alloc_at _ _ _ _ rfl, hg.alloc _, hg.lt⟩
theorem err_any (n : Int) (w : World) :
    Calls Tryd.prog 15 #[.int .i64 n] w fun e w' => e = .returned (.agg #[.int .i64 n, .int .i64 (-1)]) ∧ Below w.heap.size w w' := by
  go_enter Tryd.func15, Tryd.ntmps15
  go_wp2
  refine bodyPost_ret (v := .agg #[.int .i64 n, .int .i64 (-1)]) (by simp [results, Tryd.results15, go_sem]) rfl ⟨rfl, ?_⟩
  exact bal (Below.refl _ _) _
theorem tdiv256 (x : Int) : (0 ≤ x → x.tdiv 256 = x / 256) ∧ (x < 0 → x.tdiv 256 = -((-x) / 256)) :=
  ⟨fun h => Int.tdiv_eq_ediv_of_nonneg h, fun h => by
    have e : x.tdiv 256 = -((-x).tdiv 256) := by rw [Int.neg_tdiv, Int.neg_neg]
    rw [e, Int.tdiv_eq_ediv_of_nonneg (by omega)]⟩
theorem tdiv16 (x : Int) : (0 ≤ x → x.tdiv 16 = x / 16) ∧ (x < 0 → x.tdiv 16 = -((-x) / 16)) :=
  ⟨fun h => Int.tdiv_eq_ediv_of_nonneg h, fun h => by
    have e : x.tdiv 16 = -((-x).tdiv 16) := by rw [Int.neg_tdiv, Int.neg_neg]
    rw [e, Int.tdiv_eq_ediv_of_nonneg (by omega)]⟩
theorem tdiv_fits (x : Int) (hx : -9223372036854775808 ≤ x ∧ x ≤ 9223372036854775807) : wrap64 (x.tdiv 256) = x.tdiv 256 ∧ wrap64 (x.tdiv 16) = x.tdiv 16 := by
  have a := tdiv256 x
  have b := tdiv16 x
  generalize x.tdiv 256 = p at *
  generalize x.tdiv 16 = q at *
  rw [wrap64, wrap64]
  rcases Int.lt_or_le x 0 with h | h
  · have := a.2 h; have := b.2 h; constructor <;> omega
  · have := a.1 h; have := b.1 h; constructor <;> omega
theorem dec_of_word {x y : Int} (hw : IP.word x y) : dO x = x / 256 ∧ dA x = x / 16 % 16 ∧ dB x = x % 16 ∧ dY y = IP.dI y := by
  obtain ⟨x0, x1, y0, y1⟩ := hw
  have f := tdiv_fits x (by omega)
  unfold dO dA dB dY IP.dI
  rw [f.1, f.2, (tdiv256 x).1 x0, (tdiv16 x).1 x0, Int.tmod_eq_emod_of_nonneg (by omega), Int.tmod_eq_emod_of_nonneg x0]
  refine ⟨rfl, rfl, rfl, ?_⟩
  split
  · rw [wrap64]; omega
  · rfl
theorem KW.set {w W : World} {arr : Array Value} (h : KW w arr W) {b o : Nat} (hb : w.heap.size < b) (v : Value) : KW w arr (W.setCell ⟨b, o, none⟩ v) :=
  ⟨bset h.bel (Nat.le_of_lt hb) v, by rw [show (W.setCell ⟨b, o, none⟩ v).heap.size = W.heap.size from by simp [World.setCell]]; exact h.lt, cells_far h.cell (by omega) v,
    (World.cell?_setCell_other W _ _ _ (by intro e; cases e; have := h.gl; omega)).trans h.et, h.gl⟩
theorem size_two (W : World) (a b : Addr) (v u : Value) : ((W.setCell a v).setCell b u).heap.size = W.heap.size := by simp [World.setCell]
end Go.Proofs.YtfpkbfhaipgibaaDoor.Isa
