/- What a closure has kept: cells that are not of the world. -/
import Derived.Test.YtjcbkollogdlcaaGreatDoorGWr
import Derived.Test.YtjcbkollogdlcaaGreatDoorRegF
namespace Go.Proofs.YtjcbkollogdlcaaGreatDoor.Wd
open Go.RowKit Go.Proofs.YtjcbkollogdlcaaGreatDoor.Mem Go.Proofs.YtjcbkollogdlcaaGreatDoor.Bw Go.Proofs.YtjcbkollogdlcaaGreatDoor.Nums Go.Proofs.YtjcbkollogdlcaaGreatDoor.Mmu

def ptr (b : Nat) : Value := .pointer (some ⟨b, 0, none⟩)
def Caps (cs : List (Nat × Value)) (W : World) : Prop := ∀ x ∈ cs, W.cell? ⟨x.1, 0, none⟩ = some x.2
def CapsT (cs : List (Nat × Value)) (tag : Nat → Nat) (W : World) : Prop := ∀ x ∈ cs, W.cell? ⟨x.1, 0, none⟩ = some x.2 ∧ tag x.1 = 0
theorem Caps.below {cs : List (Nat × Value)} {w w' : World} (h : Caps cs w) (hb : Below w.heap.size w w') : Caps cs w' := fun x hx => (hb.cell (World.block_lt_of_cell? _ _ (h x hx))).trans (h x hx)
theorem CapsT.kt {cs : List (Nat × Value)} {tag tag' : Nat → Nat} {w w' : World} (h : CapsT cs tag w) (hk : Kt tag tag' w w') : CapsT cs tag' w' := fun x hx => ⟨hk.cell (h x hx).1 (h x hx).2, hk.tag0 (h x hx).1 (h x hx).2⟩
theorem caps_lo {W : World} {lo c : Nat} {x : Value} (h : ∀ W', Below lo W W' → W'.cell? ⟨c, 0, none⟩ = some x) : c < lo := by
  apply Classical.byContradiction
  intro hn
  have h0 := h W (Below.refl _ _)
  have h1 := h (W.setCell ⟨c, 0, none⟩ (.bool true)) ((Below.refl lo W).setCell (p := ⟨c, 0, none⟩) (by simp; omega) _)
  have h2 := h (W.setCell ⟨c, 0, none⟩ (.bool false)) ((Below.refl lo W).setCell (p := ⟨c, 0, none⟩) (by simp; omega) _)
  rw [World.cell?_setCell_same W _ _ h0] at h1 h2
  cases h1.trans h2.symm
theorem caps_tag {cs : List (Nat × Value)} {W : World} {lo : Nat} {tag : Nat → Nat} (h : ∀ W', Below lo W W' → Caps cs W') (ht : ∀ k, k < lo → tag k = 0) : CapsT cs tag W := fun x hx =>
  ⟨h W (Below.refl _ _) x hx, ht _ (caps_lo fun W' hb => h W' hb x hx)⟩
theorem DeedT.caps {N : Nat} {caps : Array Value} {cs : List (Nat × Value)} {ans : Int → Value} {p p' : PW} {e : Int} (h : DeedT N caps (CapsT cs) ans p p' e) (hl : ∀ l ∈ p'.tlbs, l.length ≤ 100) : DeedF N caps (Caps cs) ans p p' e :=
  h.f hl (fun _ _ _ h1 h2 => caps_tag h1 h2)
end Go.Proofs.YtjcbkollogdlcaaGreatDoor.Wd
