/- Whether a world is sound, by the other text: keyholdref.WorldMay and Sound; walked. (Written by mk_may.py.) · keyholdlaw.WorldSays, walked. (Written by mk_says.py.) · What a sound world is; keyholdref.Sound and keyholdlaw.sound, walked. · The slot and the key at an address, by the document: keyholdref.SlotAt, KeyAt; walked. (Written by mk_slat.py.) · The slot and the key at an address: slots.Find, slots.Get; walked. (Written by mk_slat.py.) -/
import Derived.Test.YtoebmjgkfkfhjaaGreatDoorWdMayNo
import Derived.Test.YtoebmjgkfkfhjaaGreatDoorWdMayYes
import Derived.Test.YtoebmjgkfkfhjaaGreatDoorGLook
namespace Go.Proofs.YtoebmjgkfkfhjaaGreatDoor.Wd
open Go.RowKit Go.Proofs.YtoebmjgkfkfhjaaGreatDoor.Mem Go.Proofs.YtoebmjgkfkfhjaaGreatDoor.Bw Go.Proofs.YtoebmjgkfkfhjaaGreatDoor.Nums Go.Proofs.YtoebmjgkfkfhjaaGreatDoor.Mmu
theorem worldMay_any (V : Nat → Value) (p : PW) (w : World) (hv : WorldV w V p) (hp : p.Fits) :
  Calls Tryz.prog 61 #[.agg (arr11 V)] w fun r w' => r = .returned (.agg #[.int .i64 (wmA p).1, .int .i64 (wmA p).2]) ∧ Below w.heap.size w w' := by
 cases h : (lfB p && within 0 1000000 p.time) with
 | false => exact worldMay_no V p w hv hp h
 | true =>
  have h2 := h
  rw [Bool.and_eq_true] at h2
  exact worldMay_yes V p w hv hp (lfB_in h2.1) h2.2 (by unfold wmA; rw [h]; rfl)
theorem EntsRaw.below {w w' : World} {v : Value} {l : List Ent} (h : EntsRaw w v l) (hb : Below w.heap.size w w') : EntsRaw w' v l := by
 obtain ⟨q, b, off, cap, h1, h2, h3, h4⟩ := h
 exact ⟨q, b, off, cap, h1, h2, h3.below hb, h4⟩
theorem ListsRaw.below {w w' : World} {v : Value} {ls : List (List Int)} (h : ListsRaw w v ls) (hb : Below w.heap.size w w') : ListsRaw w' v ls := by
 obtain ⟨q, b, off, cap, h1, h2, h3, h4⟩ := h
 refine ⟨q, b, off, cap, h1, h2, fun j hj => ?_, h4⟩
 obtain ⟨y, hy, hr, hm⟩ := h3 j hj
 exact ⟨y, (hb.cell (World.block_lt_of_cell? _ _ hy)).trans hy, hr.below hb, hm⟩
theorem TlbsRaw.below {w w' : World} {v : Value} {ls : List (List Ent)} (h : TlbsRaw w v ls) (hb : Below w.heap.size w w') : TlbsRaw w' v ls := by
 obtain ⟨q, b, off, cap, h1, h2, h3, h4⟩ := h
 refine ⟨q, b, off, cap, h1, h2, fun j hj => ?_, h4⟩
 obtain ⟨y, hy, hr, hm⟩ := h3 j hj
 exact ⟨y, (hb.cell (World.block_lt_of_cell? _ _ hy)).trans hy, hr.below hb, hm⟩
theorem WorldR.below {w w' : World} {v : Nat → Value} {p : PW} (h : WorldR w v p) (hb : Below w.heap.size w w') : WorldR w' v p :=
 ⟨⟨h.ram.1.below hb, h.ram.2⟩, ⟨h.kinds.1.below hb, h.kinds.2⟩, ⟨h.slots.1.below hb, h.slots.2⟩, ⟨h.tasks.1.below hb, h.tasks.2⟩, h.lines.below hb, ⟨h.bits.1.below hb, h.bits.2⟩, ⟨h.cores.1.below hb, h.cores.2⟩, h.ready.below hb, h.tlbs.below hb, ⟨h.doms.1.below hb, h.doms.2⟩, h.time⟩
def sndB (p : PW) : Bool := (wmA p).1 == 0
theorem chk_nil {w : World} {x : Value} {p : PW} (h : ChkV w x (wmA p)) (hs : sndB p = true) : x = .nilIface := by
 unfold sndB at hs
 generalize wmA p = r at h hs
 rcases h with ⟨rfl, rfl⟩ | ⟨e, he, rfl, rfl⟩ | ⟨e, k, b, he, h0, h1, rfl, rfl⟩
 ·rfl
 ·exact absurd (by simpa using hs) he
 ·exact absurd (by simpa using hs) he
theorem firstOf_zero : ∀ l : List (Int × Option Nat), (∀ x ∈ l, x.1 ≠ 0) → (firstOf l).1 = 0 → ∀ x ∈ l, x.2 = none
 | [], _, _ => fun _ h => by cases h
 | (e, some k) :: r, h, h0 => absurd h0 (h _ (List.mem_cons_self ..))
 | (e, none) :: r, h, h0 => fun x hx => by
  rcases List.mem_cons.1 hx with rfl | hx
  ·rfl
  ·exact firstOf_zero r (fun y hy => h y (List.mem_cons_of_mem _ hy)) h0 x hx
theorem lk_all {α : Type} {bad : Nat → α → Bool} {l : List α} (h : lk bad l = none) : ∀ k (hk : k < l.length), bad k l[k] = false := fun k hk => by
 unfold lk at h
 rw [List.find?_eq_none] at h
 have := h k (List.mem_range.2 hk)
 rw [List.getElem?_eq_getElem hk] at this
 simpa using this
/-- A sound world: nothing is found in it. -/
structure Snd (p : PW) : Prop where
 lf : LF p
 tm : within 0 1000000 p.time = true
 b0 : ∀ k (hk : k < p.ram.length), bad0 p k p.ram[k] = false
 b1 : ∀ k (hk : k < p.kinds.length), bad1 p k p.kinds[k] = false
 b2 : ∀ k (hk : k < p.doms.length), bad2 p k p.doms[k] = false
 b3 : ∀ k (hk : k < p.slots.length), bad3 p k p.slots[k] = false
 b4 : ∀ k (hk : k < p.kinds.length), bad4 p k p.kinds[k] = false
 b5 : ∀ k (hk : k < p.tasks.length), bad5 p k p.tasks[k] = false
 b6 : ∀ k (hk : k < p.lines.length), bad6 p k p.lines[k] = false
 b7 : ∀ k (hk : k < p.cores.length), bad7 p k p.cores[k] = false
 b8 : ∀ k (hk : k < p.ready.length), bad8 p k p.ready[k] = false
 b9 : ∀ k (hk : k < p.ram.length), bad9 p k p.ram[k] = false
 b10 : ∀ k (hk : k < p.tlbs.length), bad10 p k p.tlbs[k] = false
theorem snd_of {p : PW} (h : sndB p = true) : Snd p := by
 unfold sndB wmA at h
 cases hl : (lfB p && within 0 1000000 p.time) with
 | false => rw [hl] at h; cases h
 | true =>
  rw [hl, if_pos rfl, looks_eq] at h
  have h2 := hl
  rw [Bool.and_eq_true] at h2
  have h3 := eq_of_beq h
  have g := firstOf_zero _ (by simp) h3
  exact ⟨lfB_in h2.1, h2.2, lk_all (g (1, lk (bad0 p) p.ram) (by simp)), lk_all (g (3, lk (bad1 p) p.kinds) (by simp)), lk_all (g (2, lk (bad2 p) p.doms) (by simp)), lk_all (g (8, lk (bad3 p) p.slots) (by simp)), lk_all (g (8, lk (bad4 p) p.kinds) (by simp)), lk_all (g (8, lk (bad5 p) p.tasks) (by simp)), lk_all (g (8, lk (bad6 p) p.lines) (by simp)), lk_all (g (8, lk (bad7 p) p.cores) (by simp)), lk_all (g (8, lk (bad8 p) p.ready) (by simp)), lk_all (g (9, lk (bad9 p) p.ram) (by simp)), lk_all (g (9, lk (bad10 p) p.tlbs) (by simp))⟩
set_option maxRecDepth 100000 in
theorem sound_ref (V : Nat → Value) (p : PW) (w : World) (hv : WorldV w V p) (hp : p.Fits) :
  Calls Tryz.prog 34 #[.agg (arr11 V)] w fun r w' => r = .returned (.bool (sndB p)) ∧ Below w.heap.size w w' := by
 have RGc := hid (boxed w V 28)
 have B0 := hid (bal (Below.refl w.heap.size w) (.cells (arr11 V) 28))
 have HM := hid (worldMay_any V p (w.alloc (.cells (arr11 V) 28)) (hv.below B0.out) hp)
 have HB := hid (show sndB p = ((wmA p).1 == 0) from rfl)
 clear hv hp
 go_enter Tryz.func34, Tryz.ntmps34
 go_wp2_with (first | ((with_reducible (show wpList _ _ _ (⟨_, Op.load 28 _, _, _, _, _⟩ :: _) _ _)); refine wp_ldWg (by rfl) _ rfl _ rfl V RGc.out ?_))
 refine HM.out.mono ?_
 rintro r w1 ⟨rfl, hb⟩
 generalize (wmA p).1 = x at HB ⊢
 generalize (wmA p).2 = y
 have hfd : ∀ W : World, (Instr.field 53 (.agg #[.int .i64 x, .int .i64 y]) 0).run Tryz.prog W = .ok (.int .i64 x) W := fun _ => by kernel_rfl
 go_wp2_with fail
 go_ret
 exact ⟨by rw [HB.out]; rfl, btr B0.out hb⟩
def sndE (p : PW) : Int := if sndB p then 0 else 8
set_option maxRecDepth 100000 in
theorem sound_law (V : Nat → Value) (p : PW) (w : World) (hv : WorldV w V p) (hp : p.Fits) :
  Calls Tryz.prog 10 #[.agg (arr11 V)] w fun r w' => r = .returned (.int .i64 (sndE p)) ∧ Below w.heap.size w w' := by
 have RGc := hid (boxed w V 28)
 have B0 := hid (bal (Below.refl w.heap.size w) (.cells (arr11 V) 28))
 have HM := hid (sound_ref V p (w.alloc (.cells (arr11 V) 28)) (hv.below B0.out) hp)
 have HB := hid (show sndE p = if sndB p then 0 else 8 from rfl)
 clear hv hp
 go_enter Tryz.func10, Tryz.ntmps10
 go_wp2_with (first | ((with_reducible (show wpList _ _ _ (⟨_, Op.load 28 _, _, _, _, _⟩ :: _) _ _)); refine wp_ldWg (by rfl) _ rfl _ rfl V RGc.out ?_))
 refine HM.out.mono ?_
 rintro r w1 ⟨rfl, hb⟩
 have BB := hid (btr B0.out hb)
 clear hb HM
 generalize sndB p = x at HB ⊢
 cases x with
 | true =>
  go_wp2_with fail
  go_ret
  exact ⟨by rw [HB.out]; rfl, BB.out⟩
 | false =>
  go_wp2_with fail
  go_ret
  exact ⟨by rw [HB.out]; rfl, BB.out⟩
/-- The error of a number. -/
def eV (e : Int) : Value := if e = 0 then .nilIface else .iface 35 (.int .i64 e)
theorem eV_0 : eV 0 = .nilIface := rfl
theorem eV_n {e : Int} (h : ¬ e = 0) : eV e = .iface 35 (.int .i64 e) := if_neg h
theorem eV_tells {w : World} (e : Int) : Tells w (eV e) e (-1) := by
 by_cases h : e = 0
 ·subst h; exact .inl ⟨rfl, rfl, rfl⟩
 ·rw [eV_n h]; exact .inr (.inl ⟨rfl, rfl⟩)
theorem chk_not3 {w : World} {x : Value} {p : PW} (h : ChkV w x (wmA p)) (hs : sndB p = false) : (∃ e, x = .iface 35 (.int .i64 e)) ∨ ∃ b, x = .iface 104 (.pointer (some ⟨b, 0, none⟩)) := by
 unfold sndB at hs
 generalize wmA p = r at h hs
 rcases h with ⟨rfl, rfl⟩ | ⟨e, he, rfl, rfl⟩ | ⟨e, k, b, he, h0, h1, rfl, rfl⟩
 ·simp at hs
 ·exact .inl ⟨_, rfl⟩
 ·exact .inr ⟨_, rfl⟩
end Go.Proofs.YtoebmjgkfkfhjaaGreatDoor.Wd
