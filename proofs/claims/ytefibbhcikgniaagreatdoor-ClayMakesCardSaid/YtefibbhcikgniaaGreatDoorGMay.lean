/- Whether a world is sound, by the other text: keyholdref.WorldMay and Sound; walked. (Written by mk_may.py.) · keyholdlaw.WorldSays, walked. (Written by mk_says.py.) -/
import Derived.Test.YtefibbhcikgniaaGreatDoorWdMayNo
import Derived.Test.YtefibbhcikgniaaGreatDoorWdMayYes
import Derived.Test.YtefibbhcikgniaaGreatDoorGLook
namespace Go.Proofs.YtefibbhcikgniaaGreatDoor.Wd
open Go.RowKit Go.Proofs.YtefibbhcikgniaaGreatDoor.Mem Go.Proofs.YtefibbhcikgniaaGreatDoor.Bw Go.Proofs.YtefibbhcikgniaaGreatDoor.Nums Go.Proofs.YtefibbhcikgniaaGreatDoor.Mmu

theorem worldMay_any (V : Nat → Value) (p : PW) (w : World) (hv : WorldV w V p) (hp : p.Fits) :
    Calls Tryz.prog 93 #[.agg (arr11 V)] w fun r w' => r = .returned (.agg #[.int .i64 (wmA p).1, .int .i64 (wmA p).2]) ∧ Below w.heap.size w w' := by
  cases h : (lfB p && within 0 1000000 p.time) with
  | false => exact worldMay_no V p w hv hp h
  | true =>
    have h2 := h
    rw [Bool.and_eq_true] at h2
    exact worldMay_yes V p w hv hp (lfB_in h2.1) h2.2 (by unfold wmA; rw [h]; rfl)
end Go.Proofs.YtefibbhcikgniaaGreatDoor.Wd
namespace Go.Proofs.YtefibbhcikgniaaGreatDoor.Wd
open Go.RowKit Go.Proofs.YtefibbhcikgniaaGreatDoor.Mem Go.Proofs.YtefibbhcikgniaaGreatDoor.Bw Go.Proofs.YtefibbhcikgniaaGreatDoor.Nums Go.Proofs.YtefibbhcikgniaaGreatDoor.Mmu

theorem EntsRaw.below {w w' : World} {v : Value} {l : List Ent} (h : EntsRaw w v l) (hb : Below w.heap.size w w') : EntsRaw w' v l := by
  obtain ⟨q, b, off, cap, h1, h2, h3, h4⟩ := h
  exact ⟨q, b, off, cap, h1, h2, h3.below hb, h4⟩
theorem ListsRaw.below {w w' : World} {v : Value} {ls : List (List Int)} (h : ListsRaw w v ls) (hb : Below w.heap.size w w') : ListsRaw w' v ls := by
  obtain ⟨q, b, off, cap, h1, h2, h3, h4⟩ := h
  refine ⟨q, b, off, cap, h1, h2, fun j hj => ?_, h4⟩
  obtain ⟨y, hy, hr, hm⟩ := h3 j hj
  exact ⟨y, (hb.cell (World.block_lt_of_cell? _ _ hy)).trans hy, hr.below hb, hm⟩
theorem TlbsRaw.below {w w' : World} {v : Value} {ls : List (List Ent)} (h : TlbsRaw w v ls) (hb : Below w.heap.size w w') : TlbsRaw w' v ls := by
  obtain ⟨q, b, off, cap, h1, h2, h3, h4⟩ := h
  refine ⟨q, b, off, cap, h1, h2, fun j hj => ?_, h4⟩
  obtain ⟨y, hy, hr, hm⟩ := h3 j hj
  exact ⟨y, (hb.cell (World.block_lt_of_cell? _ _ hy)).trans hy, hr.below hb, hm⟩
theorem WorldR.below {w w' : World} {v : Nat → Value} {p : PW} (h : WorldR w v p) (hb : Below w.heap.size w w') : WorldR w' v p :=
  ⟨⟨h.ram.1.below hb, h.ram.2⟩, ⟨h.kinds.1.below hb, h.kinds.2⟩, ⟨h.slots.1.below hb, h.slots.2⟩, ⟨h.tasks.1.below hb, h.tasks.2⟩, h.lines.below hb, ⟨h.bits.1.below hb, h.bits.2⟩, ⟨h.cores.1.below hb, h.cores.2⟩, h.ready.below hb, h.tlbs.below hb, ⟨h.doms.1.below hb, h.doms.2⟩, h.time⟩
theorem chk_tells {w : World} {x : Value} {r : Int × Int} (h : ChkV w x r) : Tells w x r.1 r.2 := by
  cases h with
  | fine => exact .inl ⟨rfl, rfl, rfl⟩
  | all e he => exact .inr (.inl ⟨rfl, rfl⟩)
  | «at» b he h0 h1 => exact .inr (.inr ⟨b, 0, rfl, h0, h1⟩)
end Go.Proofs.YtefibbhcikgniaaGreatDoor.Wd
