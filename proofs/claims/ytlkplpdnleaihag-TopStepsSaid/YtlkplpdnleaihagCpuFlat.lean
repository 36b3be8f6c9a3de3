/- A memory without tables (keyholdlaw.flat): its two methods, and cpu.load, cpu.store over it, walked. -/
import Derived.Test.YtlkplpdnleaihagCpuWalk
import Derived.Test.YtlkplpdnleaihagInts
import Derived.Test.YtlkplpdnleaihagKept
import Derived.Deep.RegionWith
import Derived.Deep.QuietTactic
import Derived.BigQuiet
namespace Go.Proofs.Ytlkplpdnleaihag.Cpu
open Go.RowKit Go.Proofs.Ytlkplpdnleaihag.Mem Go.Proofs.Ytlkplpdnleaihag.Bw Go.Proofs.Ytlkplpdnleaihag.Nums

/-- A memory without tables. -/
structure FlatAt (w : World) (p : Nat) (q : Option Addr) (b cap : Nat) (zs : List Int) (low : Int) : Prop where
  c0 : w.cell? ⟨p, 0, none⟩ = some (.slice q zs.length cap)
  c1 : w.cell? ⟨p, 1, none⟩ = some (.int .i64 low)
  hq : 0 < zs.length → q = some ⟨b, 0, none⟩
  ints : IntsAt w b 0 zs
  froz : ∀ j, j < zs.length → w.frozen? ⟨b, j, none⟩ = false
  ne : 0 < zs.length → p ≠ b
  len : zs.length ≤ 1000
  words : ∀ z ∈ zs, 0 ≤ z ∧ z < 65536
def okL (zs : List Int) (at_ : Int) : Bool := decide (at_ < zs.length)
def ldL (zs : List Int) (at_ : Int) : Int := zs.getD at_.toNat 0
theorem FlatAt.below {w w' : World} {p b cap : Nat} {q : Option Addr} {zs : List Int} {low : Int} (h : FlatAt w p q b cap zs low) (hb : Below w.heap.size w w') : FlatAt w' p q b cap zs low where
  c0 := (hb.cell (World.block_lt_of_cell? _ _ h.c0)).trans h.c0
  c1 := (hb.cell (World.block_lt_of_cell? _ _ h.c1)).trans h.c1
  hq := h.hq
  ints := h.ints.below hb
  froz := fun j hj => (hb.frozen (World.block_lt_of_cell? _ ⟨b, j, none⟩ (by have := h.ints j hj; rw [Nat.zero_add] at this; exact this))).trans (h.froz j hj)
  ne := h.ne
  len := h.len
  words := h.words
theorem FlatAt.far {w : World} {p b cap B o : Nat} {q : Option Addr} {zs : List Int} {low : Int} (h : FlatAt w p q b cap zs low) (hp : B ≠ p) (hb : 0 < zs.length → B ≠ b) (v : Value) : FlatAt (w.setCell ⟨B, o, none⟩ v) p q b cap zs low where
  c0 := (World.cell?_setCell_other w _ _ _ (by intro e; cases e; exact hp rfl)).trans h.c0
  c1 := (World.cell?_setCell_other w _ _ _ (by intro e; cases e; exact hp rfl)).trans h.c1
  hq := h.hq
  ints := fun j hj => h.ints.far (hb (by omega)) v j hj
  froz := fun j hj => by rw [World.frozen?_setCell]; exact h.froz j hj
  ne := h.ne
  len := h.len
  words := h.words
def okS (zs : List Int) (low at_ : Int) : Bool := decide (low ≤ at_ ∧ at_ < zs.length)
/-- What the memory is behind a store. -/
def stL (zs : List Int) (low at_ v : Int) : List Int := if low ≤ at_ ∧ at_ < zs.length then zs.set at_.toNat v else zs
theorem FlatAt.store {w : World} {p b cap : Nat} {q : Option Addr} {zs : List Int} {low at_ v : Int} (h : FlatAt w p q b cap zs low) (h0 : 0 ≤ at_) (hn : okS zs low at_ = true) (v0 : 0 ≤ v) (v1 : v < 65536) : FlatAt (w.setCell ⟨b, at_.toNat, none⟩ (.int .i64 v)) p q b cap (stL zs low at_ v) low := by
  unfold okS at hn
  rw [decide_eq_true_iff] at hn
  have hk : at_.toNat < zs.length := by omega
  have e : stL zs low at_ v = zs.set at_.toNat v := by unfold stL; rw [if_pos hn]
  have hne := h.ne (by omega)
  rw [e]
  have hfar : ∀ o, (w.setCell ⟨b, at_.toNat, none⟩ (.int .i64 v)).cell? ⟨p, o, none⟩ = w.cell? ⟨p, o, none⟩ := fun o => World.cell?_setCell_other w _ _ _ (by intro e; cases e; exact hne rfl)
  exact ⟨by rw [hfar, List.length_set]; exact h.c0, by rw [hfar]; exact h.c1, fun hl => h.hq (by rw [List.length_set] at hl; exact hl), h.ints.set hk v, fun j hj => by rw [List.length_set] at hj; rw [World.frozen?_setCell]; exact h.froz j hj, fun _ => hne, by rw [List.length_set]; exact h.len,
    fun z hz => by
      rcases List.mem_or_eq_of_mem_set hz with hz | rfl
      · exact h.words z hz
      · exact ⟨v0, v1⟩⟩
theorem ldL_word {zs : List Int} (h : ∀ z ∈ zs, 0 ≤ z ∧ z < 65536) (at_ : Int) : 0 ≤ ldL zs at_ ∧ ldL zs at_ < 65536 := by
  unfold ldL
  rw [List.getD_eq_getElem?_getD]
  by_cases hk : at_.toNat < zs.length
  · rw [List.getElem?_eq_getElem hk]
    exact h _ (List.getElem_mem hk)
  · rw [List.getElem?_eq_none (by omega)]
    exact ⟨by decide, by decide⟩
end Go.Proofs.Ytlkplpdnleaihag.Cpu
