/- keyholdref.UnhexOf, walked. -/
import Derived.Test.YtfpkbfhaipgibaaDoorReadWalk
import Derived.Test.YtfpkbfhaipgibaaDoorIsaTextsWalk
namespace Go.Proofs.YtfpkbfhaipgibaaDoor.Hex
open Go.RowKit Go.Proofs.YtfpkbfhaipgibaaDoor.Mem Go.Proofs.YtfpkbfhaipgibaaDoor.Isa Go.Proofs.YtfpkbfhaipgibaaDoor.Txt

theorem infoInt : (Tryd.prog.info? 3).map (fun i => (i.zero, i.size, i.bytes)) = some (some (.int .i64 0), 1, 8) := by kernel_rfl
def nums (zs : List ByteArray) : List Int := zs.map fun t => (num t.data.toList : Int)
def ints (l : List Int) : List Value := l.map (.int .i64)
def wordB (t : ByteArray) : Bool := isWord t.data.toList
theorem hex_all : ∀ d : Fin 16, (hexes.data[d.val]'(show d.val < hexes.data.size from d.isLt)).toNat = if d.val < 10 then d.val + 48 else d.val + 87 := by decide
theorem hex_at (d : Nat) (h2 : d < hexes.size) : hexes[d].toNat = if d < 10 then d + 48 else d + 87 := hex_all ⟨d, h2⟩
theorem hex_miss (b : UInt8) (d : Nat) (h : d < worth b.toNat) (h2 : d < hexes.size) : ((hexes[d].toNat : Int) != (b.toNat : Int)) = true := by
  have e := hex_at d h2
  generalize hexes[d].toNat = x at e ⊢
  have hd : d < 16 := h2
  rw [bne_iff_ne]
  intro e1
  have e2 : x = b.toNat := by omega
  rw [← e2, e] at h
  unfold worth at h
  split at h <;> split at h <;> (try split at h) <;> (try split at h) <;> omega
theorem hex_hit (b : UInt8) (d : Nat) (h : d = worth b.toNat) (h2 : d < hexes.size) : ((hexes[d].toNat : Int) != (b.toNat : Int)) = false := by
  have e := hex_at d h2
  generalize hexes[d].toNat = x at e ⊢
  have hd : d < 16 := h2
  have hb := b.toNat_lt
  have e2 : x = b.toNat := by
    rw [e]
    unfold worth at h
    split at h
    · rw [if_pos (by omega)]; omega
    · split at h
      · rw [if_neg (by omega)]; omega
      · omega
  rw [bne_eq_false_iff_eq, e2]
theorem not_empty {s : ByteArray} (h : s.size ≠ 0) : s.toList.isEmpty = false := by
  rw [List.isEmpty_eq_false_iff]
  intro e
  apply h
  have h1 := congrArg List.length e
  rw [ByteArray.toList_eq] at h1
  exact h1
theorem IntsAt.far {w : World} {b off B i : Nat} {zs : List Int} (h : IntsAt w b off zs) (hne : B ≠ b) (v : Value) : IntsAt (w.setCell ⟨B, i, none⟩ v) b off zs := fun j hj => by
  rw [World.cell?_setCell_other w _ _ _ (by intro e; cases e; exact hne rfl)]
  exact h j hj
end Go.Proofs.YtfpkbfhaipgibaaDoor.Hex
