/- A world that is handed in: its slices have room for what is in them. -/
import Derived.Test.YtacpjedncjpmpaaGreatDoorGOpenW
namespace Go.Proofs.YtacpjedncjpmpaaGreatDoor.Wd
open Go.ChangeShapes Go.WideShapes Go.RowKit Go.Deep Go.Joins Go.Proofs.YtacpjedncjpmpaaGreatDoor.Mem Go.Proofs.YtacpjedncjpmpaaGreatDoor.Nums Go.Proofs.YtacpjedncjpmpaaGreatDoor.Mmu
theorem row_room {H : Type} {enc : TypeId × Value → H} {w : World} {base : Nat} {spare : Nat → Bool} {held : Bool} {fuel : Nat} {cs : List Value} {x : DataW H × List MemPlace} {T E : Nat} (hT : Tryz.prog.underlying T = some (.slice E))
  (h : DataW.trod enc Tryz.prog w base spare held fuel T cs = some x) (v : Value) (e : cs = [v]) : RoomV v := by
 rcases open_slice hT h with ⟨rfl, _⟩ | ⟨a, len, cap, m, n', D, Pl, rfl, _, hl, _⟩
 ·cases e
  exact Nat.le_refl 0
 ·cases e
  exact hl
set_option maxRecDepth 100000 in
theorem world_room {H : Type} {enc : TypeId × Value → H} {W : World} {V : Nat → Value} {d : DataW H} {pl : List MemPlace} (h : DataW.Trod enc Tryz.prog W 0 (fun _ => true) true 28 (.agg (arr11 V)) d pl) : RoomV (V 0) ∧ RoomV (V 2) := by
 obtain ⟨fuel, hf⟩ := h
 obtain ⟨xs, n, _, _, _, hl, hx⟩ := DataW.trod_struct Tryz.underlying28 hf
 have t0 := hx 0 _ rfl
 have t2 := hx 2 _ rfl
 have hl' : xs.length = 11 := by rw [hl]; simp
 rw [List.getElem?_eq_getElem (by omega)] at t0 t2
 exact ⟨row_room Tryz.underlying22 t0 (V 0) rfl, row_room Tryz.underlying23 t2 (V 2) rfl⟩
end Go.Proofs.YtacpjedncjpmpaaGreatDoor.Wd
