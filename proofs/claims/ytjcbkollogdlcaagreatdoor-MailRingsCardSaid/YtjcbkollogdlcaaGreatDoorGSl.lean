/- What a sound world is; keyholdref.Sound and keyholdlaw.sound, walked. · The slot and the key at an address, by the document: keyholdref.SlotAt, KeyAt; walked. (Written by mk_slat.py.) · The slot and the key at an address: slots.Find, slots.Get; walked. (Written by mk_slat.py.) -/
import Derived.Test.YtjcbkollogdlcaaGreatDoorGMay
namespace Go.Proofs.YtjcbkollogdlcaaGreatDoor.Wd
open Go.RowKit Go.Proofs.YtjcbkollogdlcaaGreatDoor.Mem Go.Proofs.YtjcbkollogdlcaaGreatDoor.Bw Go.Proofs.YtjcbkollogdlcaaGreatDoor.Nums Go.Proofs.YtjcbkollogdlcaaGreatDoor.Mmu

def sndB (p : PW) : Bool := (wmA p).1 == 0
theorem chk_nil {w : World} {x : Value} {p : PW} (h : ChkV w x (wmA p)) (hs : sndB p = true) : x = .nilIface := by
  unfold sndB at hs
  generalize wmA p = r at h hs
  cases h with
  | fine => rfl
  | all e he => exact absurd (by simpa using hs) he
  | «at» b he h0 h1 => exact absurd (by simpa using hs) he
theorem chk_not {w : World} {x : Value} {p : PW} (h : ChkV w x (wmA p)) (hs : sndB p = false) : ∃ t v, x = .iface t v := by
  unfold sndB at hs
  generalize wmA p = r at h hs
  cases h with
  | fine => simp at hs
  | all e he => exact ⟨_, _, rfl⟩
  | «at» b he h0 h1 => exact ⟨_, _, rfl⟩
theorem firstOf_zero : ∀ l : List (Int × Option Nat), (∀ x ∈ l, x.1 ≠ 0) → (firstOf l).1 = 0 → ∀ x ∈ l, x.2 = none
  | [], _, _ => fun _ h => by cases h
  | (e, some k) :: r, h, h0 => absurd h0 (h _ (List.mem_cons_self ..))
  | (e, none) :: r, h, h0 => fun x hx => by
    rcases List.mem_cons.1 hx with rfl | hx
    · rfl
    · exact firstOf_zero r (fun y hy => h y (List.mem_cons_of_mem _ hy)) h0 x hx
theorem lk_all {α : Type} {bad : Nat → α → Bool} {l : List α} (h : lk bad l = none) : ∀ k (hk : k < l.length), bad k l[k] = false := fun k hk => by
  unfold lk at h
  rw [List.find?_eq_none] at h
  have := h k (List.mem_range.2 hk)
  rw [List.getElem?_eq_getElem hk] at this
  simpa using this
/-- A sound world: nothing is found in it. -/
structure Snd (p : PW) : Prop where
  lf : LF p
  tm : within 0 1000000 p.time = true
  b0 : ∀ k (hk : k < p.ram.length), bad0 p k p.ram[k] = false
  b1 : ∀ k (hk : k < p.kinds.length), bad1 p k p.kinds[k] = false
  b2 : ∀ k (hk : k < p.doms.length), bad2 p k p.doms[k] = false
  b3 : ∀ k (hk : k < p.slots.length), bad3 p k p.slots[k] = false
  b4 : ∀ k (hk : k < p.kinds.length), bad4 p k p.kinds[k] = false
  b5 : ∀ k (hk : k < p.tasks.length), bad5 p k p.tasks[k] = false
  b6 : ∀ k (hk : k < p.lines.length), bad6 p k p.lines[k] = false
  b7 : ∀ k (hk : k < p.cores.length), bad7 p k p.cores[k] = false
  b8 : ∀ k (hk : k < p.ready.length), bad8 p k p.ready[k] = false
  b9 : ∀ k (hk : k < p.ram.length), bad9 p k p.ram[k] = false
  b10 : ∀ k (hk : k < p.tlbs.length), bad10 p k p.tlbs[k] = false
theorem snd_of {p : PW} (h : sndB p = true) : Snd p := by
  unfold sndB wmA at h
  cases hl : (lfB p && within 0 1000000 p.time) with
  | false => rw [hl] at h; cases h
  | true =>
    rw [hl, if_pos rfl, looks_eq] at h
    have h2 := hl
    rw [Bool.and_eq_true] at h2
    have h3 := eq_of_beq h
    have g := firstOf_zero _ (by simp) h3
    exact ⟨lfB_in h2.1, h2.2, lk_all (g (1, lk (bad0 p) p.ram) (by simp)), lk_all (g (3, lk (bad1 p) p.kinds) (by simp)), lk_all (g (2, lk (bad2 p) p.doms) (by simp)), lk_all (g (8, lk (bad3 p) p.slots) (by simp)), lk_all (g (8, lk (bad4 p) p.kinds) (by simp)), lk_all (g (8, lk (bad5 p) p.tasks) (by simp)), lk_all (g (8, lk (bad6 p) p.lines) (by simp)), lk_all (g (8, lk (bad7 p) p.cores) (by simp)), lk_all (g (8, lk (bad8 p) p.ready) (by simp)), lk_all (g (9, lk (bad9 p) p.ram) (by simp)), lk_all (g (9, lk (bad10 p) p.tlbs) (by simp))⟩
theorem snd_op {p : PW} (h : Snd p) {k : Nat} (hk : k < p.slots.length) (h0 : p.slots[k] 0 ≠ 0) : opB p p.slots[k] = true := by
  have h1 : bsB p (p.kinds.getD (k / 16) 0) p.slots[k] = false := h.b3 k hk
  generalize p.slots[k] = s at h0 h1 ⊢
  unfold bsB at h1
  rw [show zkB s = false from decide_eq_false fun hz => h0 hz.1, if_neg (by decide)] at h1
  simp only [Bool.not_eq_false', Bool.and_eq_true] at h1
  exact h1.1.1.2
theorem snd_kb {p : PW} (h : Snd p) : ∀ s ∈ p.slots, KB s := kb_of (g := fun k => p.kinds.getD (k / 16) 0) h.b3
theorem snd_key {p : PW} (h : Snd p) {k : Nat} (hk : k < p.slots.length) (h0 : p.slots[k] 0 ≠ 0) : 0 ≤ p.slots[k] 1 ∧ 1 ≤ p.slots[k] 2 ∧ p.slots[k] 1 + p.slots[k] 2 ≤ (p.kinds.length : Int) ∧ 0 ≤ p.slots[k] 4 ∧ p.slots[k] 4 ≤ 7 := by
  have ho := snd_op h hk h0
  generalize p.slots[k] = s at h0 ho ⊢
  unfold opB at ho
  simp only [Bool.and_eq_true, beq_iff_eq, decide_eq_true_eq] at ho
  obtain ⟨b0, b1, l0, l1, r0, r1⟩ := key_bounds ho.1.1 h0
  exact ⟨b0, l0, ho.1.2, r0, r1⟩
set_option maxRecDepth 100000 in
theorem sound_ref (V : Nat → Value) (p : PW) (w : World) (hv : WorldV w V p) (hp : p.Fits) :
    Calls Tryz.prog 53 #[.agg (arr11 V)] w fun r w' => r = .returned (.bool (sndB p)) ∧ Below w.heap.size w w' := by
  have RGc := hid (boxed w V 28)
  have B0 := hid (bal (Below.refl w.heap.size w) (.cells (arr11 V) 28))
  have HM := hid (worldMay_any V p (w.alloc (.cells (arr11 V) 28)) (hv.below B0.out) hp)
  have HB := hid (show sndB p = ((wmA p).1 == 0) from rfl)
  clear hv hp
  go_enter Tryz.func53, Tryz.ntmps53
  go_wp2_with (first | ((with_reducible (show wpList _ _ _ (⟨_, Op.load 28 _, _, _, _, _⟩ :: _) _ _)); refine wp_ldWg (by rfl) _ rfl _ rfl V RGc.out ?_))
  refine HM.out.mono ?_
  rintro r w1 ⟨rfl, hb⟩
  generalize (wmA p).1 = x at HB ⊢
  generalize (wmA p).2 = y
  have hfd : ∀ W : World, (Instr.field 49 (.agg #[.int .i64 x, .int .i64 y]) 0).run Tryz.prog W = .ok (.int .i64 x) W := fun _ => by kernel_rfl
  go_wp2_with fail
  go_ret
  exact ⟨by rw [HB.out]; rfl, btr B0.out hb⟩
def sndE (p : PW) : Int := if sndB p then 0 else 8
set_option maxRecDepth 100000 in
theorem sound_law (V : Nat → Value) (p : PW) (w : World) (hv : WorldV w V p) (hp : p.Fits) :
    Calls Tryz.prog 12 #[.agg (arr11 V)] w fun r w' => r = .returned (.int .i64 (sndE p)) ∧ Below w.heap.size w w' := by
  have RGc := hid (boxed w V 28)
  have B0 := hid (bal (Below.refl w.heap.size w) (.cells (arr11 V) 28))
  have HM := hid (sound_ref V p (w.alloc (.cells (arr11 V) 28)) (hv.below B0.out) hp)
  have HB := hid (show sndE p = if sndB p then 0 else 8 from rfl)
  clear hv hp
  go_enter Tryz.func12, Tryz.ntmps12
  go_wp2_with (first | ((with_reducible (show wpList _ _ _ (⟨_, Op.load 28 _, _, _, _, _⟩ :: _) _ _)); refine wp_ldWg (by rfl) _ rfl _ rfl V RGc.out ?_))
  refine HM.out.mono ?_
  rintro r w1 ⟨rfl, hb⟩
  have BB := hid (btr B0.out hb)
  clear hb HM
  generalize sndB p = x at HB ⊢
  cases x with
  | true =>
    go_wp2_with fail
    go_ret
    exact ⟨by rw [HB.out]; rfl, BB.out⟩
  | false =>
    go_wp2_with fail
    go_ret
    exact ⟨by rw [HB.out]; rfl, BB.out⟩
end Go.Proofs.YtjcbkollogdlcaaGreatDoor.Wd
namespace Go.Proofs.YtjcbkollogdlcaaGreatDoor.Wd
open Go.RowKit Go.Proofs.YtjcbkollogdlcaaGreatDoor.Mem Go.Proofs.YtjcbkollogdlcaaGreatDoor.Bw Go.Proofs.YtjcbkollogdlcaaGreatDoor.Nums Go.Proofs.YtjcbkollogdlcaaGreatDoor.Mmu

/-- The slot at an address, and the error. -/
def sAt (p : PW) (n a : Int) : Int × Int :=
  if isB p n 5 then (if within 0 255 a then (if a < 16 then (n * 16 + a, 0) else
    if (p.slots.getD (n * 16 + a / 16).toNat (fun _ => 0)) 0 = 5 then ((p.slots.getD (n * 16 + a / 16).toNat (fun _ => 0)) 1 * 16 + a % 16, 0) else (0, 3)) else (0, 2)) else (0, 3)
theorem sAt_in {p : PW} (h : Snd p) {n a : Int} (h0 : (sAt p n a).2 = 0) : 0 ≤ (sAt p n a).1 ∧ (sAt p n a).1 < (p.slots.length : Int) := by
  unfold sAt at h0 ⊢
  have hl := h.lf.slots
  cases hi : isB p n 5 with
  | false => rw [hi] at h0; simp at h0
  | true =>
    obtain ⟨j, rfl, hj⟩ := isB_in hi
    rw [hi] at h0
    rw [if_pos rfl] at h0 ⊢
    cases hw : within 0 255 a with
    | false => rw [hw] at h0; simp at h0
    | true =>
      have hb := of_decide_eq_true hw
      rw [hw] at h0
      rw [if_pos rfl] at h0 ⊢
      by_cases h16 : a < 16
      · rw [if_pos h16]
        simp only
        omega
      · rw [if_neg h16] at h0 ⊢
        have hi2 : ((j : Int) * 16 + a / 16).toNat < p.slots.length := by omega
        rw [List.getD_eq_getElem?_getD, List.getElem?_eq_getElem hi2] at h0 ⊢
        simp only [Option.getD_some] at h0 ⊢
        split at h0
        · rename_i h5
          rw [if_pos h5]
          have := snd_key h hi2 (by omega)
          simp only
          omega
        · simp at h0
/-- The key at an address, and the error. -/
def nkey : Nat → Int := fun _ => 0
def kOf (s : Nat → Int) (k r : Int) : (Nat → Int) × Int :=
  if s 0 = 0 then (nkey, 6) else if s 0 = k then (if bits .and .i64 (s 4) r = r then (s, 0) else (nkey, 4)) else (nkey, 3)
def kAt (p : PW) (n a k r : Int) : (Nat → Int) × Int :=
  if (sAt p n a).2 = 0 then kOf (p.slots.getD (sAt p n a).1.toNat nkey) k r else (nkey, (sAt p n a).2)
theorem six_set {W : World} {B : Nat} {v0 v1 v2 v3 v4 v5 x0 x1 x2 x3 x4 x5 : Value} (h : ∀ o, W.cell? ⟨B, o, none⟩ = (#[x0, x1, x2, x3, x4, x5] : Array Value)[o]?) :
    ∀ o, ((((((W.setCell ⟨B, 0, none⟩ v0).setCell ⟨B, 1, none⟩ v1).setCell ⟨B, 2, none⟩ v2).setCell ⟨B, 3, none⟩ v3).setCell ⟨B, 4, none⟩ v4).setCell ⟨B, 5, none⟩ v5).cell? ⟨B, o, none⟩ = (#[v0, v1, v2, v3, v4, v5] : Array Value)[o]? :=
  cells_set (cells_set (cells_set (cells_set (cells_set (cells_set h 0 (by simp) v0) 1 (by simp) v1) 2 (by simp) v2) 3 (by simp) v3) 4 (by simp) v4) 5 (by simp) v5
theorem bset6 {w W : World} {v0 v1 v2 v3 v4 v5 : Value} (h : Below w.heap.size w W) : Below w.heap.size w ((((((W.setCell ⟨w.heap.size, 0, none⟩ v0).setCell ⟨w.heap.size, 1, none⟩ v1).setCell ⟨w.heap.size, 2, none⟩ v2).setCell ⟨w.heap.size, 3, none⟩ v3).setCell ⟨w.heap.size, 4, none⟩ v4).setCell ⟨w.heap.size, 5, none⟩ v5) :=
  bset (bset (bset (bset (bset (bset h (Nat.le_refl _) _) (Nat.le_refl _) _) (Nat.le_refl _) _) (Nat.le_refl _) _) (Nat.le_refl _) _) (Nat.le_refl _) _
end Go.Proofs.YtjcbkollogdlcaaGreatDoor.Wd
namespace Go.Proofs.YtjcbkollogdlcaaGreatDoor.Wd
open Go.RowKit Go.Proofs.YtjcbkollogdlcaaGreatDoor.Mem Go.Proofs.YtjcbkollogdlcaaGreatDoor.Bw Go.Proofs.YtjcbkollogdlcaaGreatDoor.Nums Go.Proofs.YtjcbkollogdlcaaGreatDoor.Mmu

/-- The error of a number. -/
def eV (e : Int) : Value := if e = 0 then .nilIface else .iface 35 (.int .i64 e)
theorem eV_0 : eV 0 = .nilIface := rfl
theorem eV_n {e : Int} (h : ¬ e = 0) : eV e = .iface 35 (.int .i64 e) := if_neg h
theorem eV_tells {w : World} (e : Int) : Tells w (eV e) e (-1) := by
  by_cases h : e = 0
  · subst h; exact .inl ⟨rfl, rfl, rfl⟩
  · rw [eV_n h]; exact .inr (.inl ⟨rfl, rfl⟩)
theorem chk_not3 {w : World} {x : Value} {p : PW} (h : ChkV w x (wmA p)) (hs : sndB p = false) : (∃ e, x = .iface 35 (.int .i64 e)) ∨ ∃ b, x = .iface 119 (.pointer (some ⟨b, 0, none⟩)) := by
  unfold sndB at hs
  generalize wmA p = r at h hs
  cases h with
  | fine => simp at hs
  | all e he => exact .inl ⟨_, rfl⟩
  | «at» b he h0 h1 => exact .inr ⟨_, rfl⟩
def fA (p : PW) (n a : Int) : Int × Int := if sndB p then sAt p n a else (0, 8)
/-- 'a &^ b' is nothing where 'b & a' is a. -/
theorem and_not (a b : Int) (h : -9223372036854775808 ≤ a ∧ a ≤ 9223372036854775807) : bits .and .i64 b a = a ↔ bits .andNot .i64 a b = 0 := by
  have hw : ∀ n : Nat, n < 18446744073709551616 → ∀ z : Int, (-9223372036854775808 ≤ z ∧ z ≤ 9223372036854775807) → (IntKind.i64.wrap (n : Int) = z ↔ (n : Int) = z % 18446744073709551616) := fun n hn z hz => by
    rw [IntKind.wrap_i64]
    omega
  have e1 : bits .and .i64 b a = IntKind.i64.wrap ((BitVec.ofInt 64 b &&& BitVec.ofInt 64 a).toNat : Int) := rfl
  have e2 : bits .andNot .i64 a b = IntKind.i64.wrap ((BitVec.ofInt 64 a &&& ~~~ BitVec.ofInt 64 b).toNat : Int) := rfl
  have ha : ((BitVec.ofInt 64 a).toNat : Int) = a % 18446744073709551616 := by
    rw [BitVec.toNat_ofInt]
    omega
  rw [e1, e2, hw _ (BitVec.isLt _) a h, hw _ (BitVec.isLt _) 0 (by decide), ← ha]
  generalize BitVec.ofInt 64 a = A
  generalize BitVec.ofInt 64 b = B
  have k1 : (((B &&& A).toNat : Int) = (A.toNat : Int)) ↔ B &&& A = A := ⟨fun e => BitVec.eq_of_toNat_eq (by omega), fun e => by rw [e]⟩
  have k2 : (((A &&& ~~~ B).toNat : Int) = 0 % 18446744073709551616) ↔ A &&& ~~~ B = 0#64 := ⟨fun e => BitVec.eq_of_toNat_eq (by simpa using e), fun e => by rw [e]; rfl⟩
  rw [k1, k2]
  constructor
  · intro e
    refine BitVec.eq_of_getLsbD_eq fun i hi => ?_
    have := congrArg (fun x => x.getLsbD i) e
    simp at this ⊢
    intro g
    exact fun _ => this g
  · intro e
    refine BitVec.eq_of_getLsbD_eq fun i hi => ?_
    have := congrArg (fun x => x.getLsbD i) e
    simp at this ⊢
    intro g
    exact this g hi
def gA (p : PW) (n a k r : Int) : (Nat → Int) × Int := if sndB p then kAt p n a k r else (nkey, 8)
theorem bset6s {w W : World} {v0 v1 v2 v3 v4 v5 : Value} (h : Below w.heap.size w W) : Below w.heap.size w ((((((W.setCell ⟨w.heap.size + 1, 0, none⟩ v0).setCell ⟨w.heap.size + 1, 1, none⟩ v1).setCell ⟨w.heap.size + 1, 2, none⟩ v2).setCell ⟨w.heap.size + 1, 3, none⟩ v3).setCell ⟨w.heap.size + 1, 4, none⟩ v4).setCell ⟨w.heap.size + 1, 5, none⟩ v5) :=
  bset (bset (bset (bset (bset (bset h (Nat.le_succ _) _) (Nat.le_succ _) _) (Nat.le_succ _) _) (Nat.le_succ _) _) (Nat.le_succ _) _) (Nat.le_succ _) _
end Go.Proofs.YtjcbkollogdlcaaGreatDoor.Wd
