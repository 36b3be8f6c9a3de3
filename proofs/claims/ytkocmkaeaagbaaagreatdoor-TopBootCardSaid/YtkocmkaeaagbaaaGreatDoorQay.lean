/- Numbers of a line of a text: boot.number, lines.Numbers, boot.numbers, walked. · A world out of a text: the builder; hasBegun, mayCome, become, fault; walked. · Maps that a call makes, word by word, and looks into: what stands under each word. · A world out of a text: how the words of a line are read: boot.just, atLeast, counted, kinds, thing, orders; walked. -/
import Derived.Maps.OwnSet
import Derived.Maps.Views
import Derived.StringKeys
import Derived.Test.YtkocmkaeaagbaaaGreatDoorQax
import Derived.Test.YtkocmkaeaagbaaaGreatDoorQal
import Derived.Test.YtkocmkaeaagbaaaGreatDoorQaw
import Derived.Test.YtkocmkaeaagbaaaGreatDoorQap
import Derived.Test.YtkocmkaeaagbaaaGreatDoorQaa
namespace Go.Proofs.YtkocmkaeaagbaaaGreatDoor.Wd
open Go.RowKit Go.Proofs.YtkocmkaeaagbaaaGreatDoor.Mem Go.Proofs.YtkocmkaeaagbaaaGreatDoor.Nums Go.Proofs.YtkocmkaeaagbaaaGreatDoor.Hex Go.Proofs.YtkocmkaeaagbaaaGreatDoor.Prs
def dashB : ByteArray := ⟨#[45]⟩
/-- A number, or a dash for none. -/
def nbV (d : ByteArray) : Int × Bool := if d = dashB then (-1, true) else numD false d
theorem bytes_no {a b : ByteArray} (h : a ≠ b) : (a.toList == b.toList) = false := by
 rw [ByteArray.toList_eq, ByteArray.toList_eq]
 refine beq_eq_false_iff_ne.2 fun e => h (bytes_ext e)
set_option maxHeartbeats 1000000 in
theorem bootNumber_any (d : ByteArray) (w : World) :
  Calls Tryz.prog 159 #[.string d] w fun e w' => e = .returned (.tuple #[.int .i64 (nbV d).1, .bool (nbV d).2]) ∧ Below w.heap.size w w' := by
 have NA := hid (number_any d w)
 by_cases e : d = dashB
 ·subst e
  have hv : nbV dashB = (-1, true) := if_pos rfl
  rw [hv]
  unfold dashB
  go_enter Tryz.func159, Tryz.ntmps159
  go_wp2_with fail
  go_ret2
  exact ⟨rfl, Below.refl _ _⟩
 ·have hv : nbV d = numD false d := if_neg e
  rw [hv]
  have e2 : (d.toList == [45]) = false := by
   rw [show ([45] : List UInt8) = dashB.toList by rw [ByteArray.toList_eq]; rfl]
   exact bytes_no e
  generalize (numD false d).1 = x at NA ⊢
  generalize (numD false d).2 = y at NA ⊢
  clear hv
  go_enter Tryz.func159, Tryz.ntmps159
  go_wp2_with fail
  refine NA.out.mono ?_
  rintro r w1 ⟨rfl, hb⟩
  have B1 := hid hb
  clear hb NA e2
  go_wp2_with fail
  go_ret2
  exact ⟨rfl, B1.out⟩
/-- The numbers of words, or that one is none. -/
def NumsA (w w' : World) (ts : List ByteArray) (r : Ending) : Prop := (∃ g c, r = .returned (.tuple #[.slice (some ⟨g, 0, none⟩) ts.length c, .nilIface]) ∧ ts.length ≤ c ∧ w.heap.size ≤ g ∧ IntsAt w' g 0 (ts.map fun t => (nbV t).1) ∧ ∀ t ∈ ts, (nbV t).2 = true) ∨ (r = .returned (.tuple #[.slice none 0 0, .iface 29 (.int .i64 1)]) ∧ ∃ t ∈ ts, (nbV t).2 = false)
/-- What is there behind k words. -/
def filled (ts : List ByteArray) (k : Nat) : List Int := (List.range ts.length).map fun j => if j < k then (nbV (ts.getD j ⟨#[]⟩)).1 else 0
theorem filled_len (ts : List ByteArray) (k : Nat) : (filled ts k).length = ts.length := by unfold filled; simp
theorem filled_at (ts : List ByteArray) (k j : Nat) (h : j < (filled ts k).length) : (filled ts k)[j] = if j < k then (nbV (ts.getD j ⟨#[]⟩)).1 else 0 := by simp [filled]
theorem filled_set (ts : List ByteArray) (k : Nat) (h : k < ts.length) : (filled ts k).set k (nbV ts[k]).1 = filled ts (k + 1) := by
 refine List.ext_getElem (by rw [List.length_set, filled_len, filled_len]) fun j h1 h2 => ?_
 rw [List.getElem_set, filled_at, filled_at]
 by_cases e : k = j
 ·subst e
  rw [if_pos rfl, if_pos (by omega), List.getD_eq_getElem?_getD, List.getElem?_eq_getElem h]; rfl
 ·rw [if_neg e]
  by_cases e2 : j < k
  ·rw [if_pos e2, if_pos (by omega)]
  ·rw [if_neg e2, if_neg (by omega)]
theorem filled_all (ts : List ByteArray) : filled ts ts.length = ts.map fun t => (nbV t).1 := by
 refine List.ext_getElem (by rw [filled_len, List.length_map]) fun j h1 h2 => ?_
 rw [filled_at, List.getElem_map]
 rw [filled_len] at h1
 rw [if_pos h1, List.getD_eq_getElem?_getD, List.getElem?_eq_getElem h1]; rfl
theorem info1 : (Tryz.prog.info? 3).map (fun i => (i.zero, i.size, i.bytes)) = some (some (.int .i64 0), 1, 8) := by kernel_rfl
theorem make_int (n : Nat) (hn : n ≤ 100000) (w : World) : (Instr.makeSlice 22 (.int .i64 n) (.int .i64 n)).run Tryz.prog w = .ok (.slice (some ⟨w.heap.size, 0, none⟩) n n) (w.alloc (.cells (madeCells (Value.cells (.int .i64 0)) (n * 1)) 3)) := by
 obtain ⟨i0, hi, hz0, hz1, hz2⟩ := info_get info1
 have hr := run_makeSlice (P := Tryz.prog) w 22 3 i0 (.int .i64 0) Tryz.underlying22 hi hz0 .i64 .i64 n n (by omega) (Int.le_refl _) (by simp only [Int.toNat_natCast]; rw [hz1]; omega) (by rw [hz2]; omega) (by omega)
 simp only [Int.toNat_natCast] at hr
 rw [hz1] at hr
 exact hr
theorem made_at (w : World) (n : Nat) : IntsAt (w.alloc (.cells (madeCells (Value.cells (.int .i64 0)) (n * 1)) 3)) w.heap.size 0 (List.replicate n 0) := fun j hj => by
 rw [List.length_replicate] at hj
 rw [Nat.zero_add, World.cell?_alloc_at _ _ _ _ rfl, made_one _ _ _ rfl hj, List.getElem_replicate]
theorem filled_zero (ts : List ByteArray) : filled ts 0 = List.replicate ts.length 0 := by
 refine List.ext_getElem (by rw [filled_len, List.length_replicate]) fun j h1 h2 => ?_
 rw [filled_at, if_neg (by omega), List.getElem_replicate]
set_option maxRecDepth 100000 in
set_option maxHeartbeats 4000000 in
theorem numbers_any (xb xo cap : Nat) (ts : List ByteArray) (w : World) (hS : StrsAt w xb xo ts) (hl : ts.length ≤ 100000) :
  Calls Tryz.prog 158 #[.slice (some ⟨xb, xo, none⟩) ts.length cap, .func (.func 159) #[] #[]] w fun r w' => Below w.heap.size w w' ∧ NumsA w w' ts r := by
 have HS := hid hS
 have hmk := make_int ts.length hl w
 have B0 := hid (bal (Below.refl w.heap.size w) (.cells (madeCells (Value.cells (.int .i64 0)) (ts.length * 1)) 3))
 have I0 := hid (made_at w ts.length)
 rw [← filled_zero] at I0
 have F0 := hid (show ∀ o, (w.alloc (.cells (madeCells (Value.cells (.int .i64 0)) (ts.length * 1)) 3)).frozen? ⟨w.heap.size, o, none⟩ = false from fun o => World.frozen?_alloc_at _ _ _ _ rfl)
 have S0 := hid (show w.heap.size < (w.alloc (.cells (madeCells (Value.cells (.int .i64 0)) (ts.length * 1)) 3)).heap.size by simp)
 clear hS
 have hl2 : (ts.length : Int) ≤ 100000 := by omega
 generalize w.alloc (.cells (madeCells (Value.cells (.int .i64 0)) (ts.length * 1)) 3) = w0 at hmk B0 I0 S0 F0
 go_enter Tryz.func158, Tryz.ntmps158
 go_wp2_with fail
 clear hmk
 go_loopw [16] (fun i wr => ∃ k : Nat, k ≤ ts.length ∧ i = .int .i64 (k : Int) ∧ Hid (Below w.heap.size w wr) ∧ Hid (IntsAt wr w.heap.size 0 (filled ts k)) ∧ Hid (w.heap.size < wr.heap.size) ∧ Hid (∀ o, wr.frozen? ⟨w.heap.size, o, none⟩ = false) ∧ Hid (∀ t ∈ ts.take k, (nbV t).2 = true)) (fun i _ => ts.length - (intOf i).toNat)
 case atStart => exact ⟨0, by omega, rfl, B0, I0, S0, F0, hid (by simp)⟩
 case round =>
  obtain ⟨k, hk, rfl, BR, IR, SR, FR, AR⟩ := hrel
  clear B0 I0 S0 F0
  by_cases hlt : k < ts.length
  ·have hlt2 : (k : Int) < (ts.length : Int) := by omega
   have ck : wr.cell? ⟨xb, xo + k, none⟩ = some (.string ts[k]) := (BR.out.cell (World.block_lt_of_cell? _ _ (HS.out k hlt))).trans (HS.out k hlt)
   have NB := hid (bootNumber_any ts[k] wr)
   have FS := hid (filled_set ts k hlt)
   have TK := hid (show (nbV ts[k]).2 = true → ∀ t ∈ ts.take (k + 1), (nbV t).2 = true from fun h t ht => by
    rw [List.take_succ_eq_append_getElem hlt, List.mem_append, List.mem_singleton] at ht
    rcases ht with ht | rfl
    ·exact AR.out t ht
    ·exact h)
   have NF := hid (show (nbV ts[k]).2 = false → ∃ t ∈ ts, (nbV t).2 = false from fun h => ⟨_, List.getElem_mem hlt, h⟩)
   generalize ts[k] = z at ck NB FS TK NF
   generalize nbV z = y at NB FS TK NF
   obtain ⟨y1, y2⟩ := y
   cases y2 with
   | false =>
    go_wp2_with (first | (go_at_call 159; refine NB.out.mono ?_; rintro r w1 ⟨rfl, hb⟩; have B1 := hid (btr BR.out hb); clear hb ck NB))
    go_ret2
    exact ⟨B1.out, Or.inr ⟨rfl, NF.out (by simp)⟩⟩
   | true =>
    go_wp2_with (first | (go_at_call 159; refine NB.out.mono ?_; rintro r w1 ⟨rfl, hb⟩; have B1 := hid (btr BR.out hb); have I1 := hid (IR.out.below hb); have S1 := hid (Nat.lt_of_lt_of_le SR.out hb.size); have fz : ∀ o, w1.frozen? ⟨w.heap.size, o, none⟩ = false := (fun o => (hb.frozen (p := ⟨w.heap.size, o, none⟩) SR.out).trans (FR.out o)); have cg := I1.out k (by rw [filled_len]; exact hlt); rw [Nat.zero_add] at cg; clear hb ck NB))
    have KI := I1.out.set (k := k) (by rw [filled_len]; exact hlt) y1
    rw [FS.out] at KI
    exact ⟨⟨k + 1, by omega, by go_num, hid (bset B1.out (Nat.le_refl _) _), hid KI, hid (by simp [World.setCell]; exact S1.out), hid (fun o => by simp [fz]), hid (TK.out (by simp))⟩, by simp [intOf]; omega⟩
  ·obtain rfl : k = ts.length := by omega
   have hge : ¬ ((ts.length : Int) < (ts.length : Int)) := by omega
   go_wp2_with fail
   go_ret2
   exact ⟨BR.out, Or.inl ⟨w.heap.size, ts.length, rfl, Nat.le_refl _, Nat.le_refl _, by rw [← filled_all]; exact IR.out, by have := AR.out; rw [List.take_length] at this; exact this⟩⟩
set_option maxRecDepth 100000 in
set_option maxHeartbeats 1000000 in
theorem bootNumbers_any (xb xo cap : Nat) (ts : List ByteArray) (w : World) (hS : StrsAt w xb xo ts) (hl : ts.length ≤ 100000) :
  Calls Tryz.prog 121 #[.slice (some ⟨xb, xo, none⟩) ts.length cap] w fun r w' => Below w.heap.size w w' ∧ NumsA w w' ts r := by
 have NA := hid (numbers_any xb xo cap ts w hS hl)
 clear hS
 go_enter Tryz.func121, Tryz.ntmps121
 go_wp2_with fail
 refine NA.out.mono ?_
 rintro r w1 ⟨hb, h⟩
 have B1 := hid hb
 have H1 := hid h
 clear hb h NA
 rcases H1.out with ⟨g, c, rfl, h0, h1, h2, h3⟩ | ⟨rfl, h1⟩
 ·have X0 := hid h0
  have X1 := hid h1
  have X2 := hid h2
  have X3 := hid h3
  clear h0 h1 h2 h3 H1
  go_wp2_with fail
  go_ret2
  exact ⟨B1.out, Or.inl ⟨g, c, rfl, X0.out, X1.out, X2.out, X3.out⟩⟩
 ·have X1 := hid h1
  clear H1 h1
  go_wp2_with fail
  go_ret2
  exact ⟨B1.out, Or.inr ⟨rfl, X1.out⟩⟩
end Go.Proofs.YtkocmkaeaagbaaaGreatDoor.Wd
namespace Go.Proofs.YtkocmkaeaagbaaaGreatDoor.Wd
open Go.RowKit Go.Proofs.YtkocmkaeaagbaaaGreatDoor.Mem Go.Proofs.YtkocmkaeaagbaaaGreatDoor.Bw Go.Proofs.YtkocmkaeaagbaaaGreatDoor.Nums Go.Proofs.YtkocmkaeaagbaaaGreatDoor.Mmu
/-- An error that can be told. -/
def ErrT (w : World) (v : Value) : Prop := ∃ e a, Tells w v e a
theorem errT_nil (w : World) : ErrT w .nilIface := ⟨0, -1, .inl ⟨rfl, rfl, rfl⟩⟩
theorem errT_no (w : World) (e : Int) : ErrT w (.iface 29 (.int .i64 e)) := ⟨e, -1, .inr (.inl ⟨rfl, rfl⟩)⟩
set_option maxHeartbeats 1000000 in
theorem hasBegun_any (bb : Nat) (q : Option Addr) (n c : Nat) (w : World) (h : w.cell? ⟨bb, 1, none⟩ = some (.slice q n c)) :
  Calls Tryz.prog 20 #[.pointer (some ⟨bb, 0, none⟩)] w fun r w' => r = .returned (.bool (decide (0 < n))) ∧ w = w' := by
 go_enter Tryz.func20, Tryz.ntmps20
 go_wp2_with fail
 go_ret
 exact ⟨by simp, rfl⟩
def wdB : ByteArray := ⟨#[119, 111, 114, 108, 100]⟩
def mcE (nm : ByteArray) (bg : Bool) : Int := if nm = wdB then (if bg then 12 else 0) else (if bg then 0 else 10)
set_option maxHeartbeats 2000000 in
theorem mayCome_any (bb : Nat) (q : Option Addr) (n c : Nat) (nm : ByteArray) (w : World) (h : w.cell? ⟨bb, 1, none⟩ = some (.slice q n c)) :
  Calls Tryz.prog 39 #[.pointer (some ⟨bb, 0, none⟩), .string nm] w fun r w' => r = .returned (eV (mcE nm (decide (0 < n)))) ∧ w = w' := by
 have HB := hid (hasBegun_any bb q n c w h)
 clear h
 unfold mcE
 by_cases e : nm = wdB
 ·subst e
  rw [if_pos rfl]
  unfold wdB
  by_cases hn : 0 < n
  ·rw [decide_eq_true hn] at HB ⊢
   go_enter Tryz.func39, Tryz.ntmps39
   go_wp2_with (first | (go_at_call 20; refine HB.out.mono ?_; rintro r w' ⟨rfl, rfl⟩))
   go_ret
   exact ⟨rfl, rfl⟩
  ·rw [decide_eq_false hn] at HB ⊢
   go_enter Tryz.func39, Tryz.ntmps39
   go_wp2_with (first | (go_at_call 20; refine HB.out.mono ?_; rintro r w' ⟨rfl, rfl⟩))
   go_ret
   exact ⟨rfl, rfl⟩
 ·have e2 : (nm.toList == [119, 111, 114, 108, 100]) = false := by
   rw [show ([119, 111, 114, 108, 100] : List UInt8) = wdB.toList by rw [ByteArray.toList_eq]; rfl]
   exact bytes_no e
  rw [if_neg e]
  by_cases hn : 0 < n
  ·rw [decide_eq_true hn] at HB ⊢
   go_enter Tryz.func39, Tryz.ntmps39
   go_wp2_with (first | (go_at_call 20; refine HB.out.mono ?_; rintro r w' ⟨rfl, rfl⟩))
   go_ret
   exact ⟨rfl, rfl⟩
  ·rw [decide_eq_false hn] at HB ⊢
   go_enter Tryz.func39, Tryz.ntmps39
   go_wp2_with (first | (go_at_call 20; refine HB.out.mono ?_; rintro r w' ⟨rfl, rfl⟩))
   go_ret
   exact ⟨rfl, rfl⟩
set_option maxHeartbeats 2000000 in
theorem fault_any (n : Int) (v : Value) (w : World) (hv : ErrT w v) (hg : ETok w) :
  Calls Tryz.prog 19 #[.int .i64 n, v] w fun r w' => (∃ b, r = .returned (.iface 96 (.pointer (some ⟨b, 0, none⟩)))) ∧ Below w.heap.size w w' := by
 obtain ⟨e, a, ht⟩ := hv
 have TL := hid (tell_any v e a w hg ht)
 clear ht hg
 go_enter Tryz.func19, Tryz.ntmps19
 go_wp2_with fail
 refine TL.out.mono ?_
 rintro r w1 ⟨rfl, hb⟩
 have B1 := hid hb
 clear hb TL
 go_wp2_with fail
 go_ret
 exact ⟨⟨_, rfl⟩, bal B1.out _⟩
end Go.Proofs.YtkocmkaeaagbaaaGreatDoor.Wd
namespace Go.Proofs.YtkocmkaeaagbaaaGreatDoor.Mem
open Go.RowKit
/-- A value of a map reads as itself. -/
def hld (v : Value) : Option (DataW Value × List MemPlace) := some (.held v, [])
/-- A map of the call's own, of at most n words. -/
def TabAt (w : World) (b n : Nat) (f : ByteArray → Option Value) : Prop :=
 ∃ D : DataW Value, w.ownsMap Tryz.prog 9 hld b n D ∧ Maps.IsMap D ∧ ∀ x : ByteArray, Maps.has D (.string x.data.toList) = (f x).isSome ∧ ∀ z, D.atKey (.string x.data.toList) z = ((f x).map DataW.held).getD z
theorem tab_made (w : World) : TabAt (w.alloc (.map #[] 0)) w.heap.size 0 (fun _ => none) :=
 ⟨_, World.ownsMap_made w Tryz.prog 9 hld, Maps.isMap_empty, fun _ => ⟨rfl, fun _ => rfl⟩⟩
theorem TabAt.kept {w w' : World} {b n : Nat} {f : ByteArray → Option Value} (h : TabAt w b n f) (hb : Below w.heap.size w w') : TabAt w' b n f := by
 obtain ⟨D, h1, h2, h3⟩ := h
 have hl := h1.lt
 obtain ⟨es, clock, e1, e2, e3, e4⟩ := h1
 exact ⟨D, ⟨es, clock, (hb.block b hl).trans e1, e2, e3, e4⟩, h2, h3⟩
theorem key_ne {x y : ByteArray} (h : ¬ x = y) : (Lit.string x.data.toList) ≠ .string y.data.toList := fun e => h (by
 cases x; cases y
 have := Lit.string.inj e
 simp only at this
 rw [Array.ext' this])
theorem TabAt.put {w : World} {b n : Nat} {f : ByteArray → Option Value} (h : TabAt w b n f) {t e : TypeId} (ht : Tryz.prog.underlying t = some (.map 9 e)) (hn : n < 1000) (k : ByteArray) (hk : k.size ≤ maxLen) (v : Value) :
  ∃ w', (Instr.mapUpdate t (.map (some b)) (.string k) v).run Tryz.prog w = .ok () w' ∧ TabAt w' b (n + 1) (fun y => if y = k then some v else f y) ∧ w.grownBy w' (some b) := by
 obtain ⟨D, h1, h2, h3⟩ := h
 obtain ⟨w', r1, r2, r3⟩ := h1.update (Maps.string_keyed Tryz.underlying9) ht (by unfold maxLen; omega) (WideMaps.keyOf_string_mk Tryz.underlying9 hk) (show hld v = some (.held v, []) from rfl)
 refine ⟨w', r1, ⟨_, r2, h2.put _ _, fun x => ?_⟩, r3⟩
 show Maps.has _ _ = (if x = k then some v else f x).isSome ∧ ∀ z, DataW.atKey _ _ z = (Option.map DataW.held (if x = k then some v else f x)).getD z
 by_cases e : x = k
 ·subst e
  rw [if_pos rfl]
  exact ⟨Maps.has_put_same h2 (by simp [WideAt.IsKeyLit]) _, fun z => Maps.atKey_put_same h2 (by simp [WideAt.IsKeyLit]) _ _⟩
 ·rw [if_neg e]
  exact ⟨(Maps.has_put_other (key_ne e) _).trans (h3 x).1, fun z => (Maps.atKey_put_other (key_ne e) _ _).trans ((h3 x).2 z)⟩
theorem TabAt.look {w : World} {b n : Nat} {f : ByteArray → Option Value} (h : TabAt w b n f) {t e : TypeId} (ht : Tryz.prog.underlying t = some (.map 9 e)) {z : Value} (hz : (zeroValue e).run Tryz.prog w = .ok z w) (k : ByteArray) (hk : k.size ≤ maxLen) :
  (Instr.lookup t (.map (some b)) (.string k) true).run Tryz.prog w = .ok (.tuple #[(f k).getD z, .bool (f k).isSome]) w := by
 obtain ⟨D, h1, h2, h3⟩ := h
 obtain ⟨v, ps, r1, r2⟩ := h1.look_ok (Maps.string_keyed Tryz.underlying9) ht hz (show hld z = some (.held z, []) from rfl) (WideMaps.keyOf_string_mk Tryz.underlying9 hk)
 rw [(h3 k).1] at r1
 rw [(h3 k).2] at r2
 have e : v = (f k).getD z := by
  unfold hld at r2
  have := congrArg Prod.fst (Option.some.inj r2)
  cases hf : f k with
  | none => rw [hf] at this; exact DataW.held.inj this
  | some y => rw [hf] at this; exact DataW.held.inj this
 rw [← e]
 exact r1
/-- A word is put into the map. -/
theorem wp_insert {ops : Array Oper} {rest : List Oper} {o : Oper} {a : Act} {w : World} {Q : Exit → Act → World → Prop} (hg : o.guard = none) (m x v : Operand) (t e : TypeId) (hop : o.op = Op.insert t m x v) (ht : Tryz.prog.underlying t = some (.map 9 e))
  (b n : Nat) (f : ByteArray → Option Value) (hm : a.eval m = .map (some b)) (h : TabAt w b n f) (hn : n < 1000) (k : ByteArray) (hx : a.eval x = .string k) (hk : k.size ≤ maxLen) (y : Value) (hv : a.eval v = y)
  (hK : ∀ w', TabAt w' b (n + 1) (fun x => if x = k then some y else f x) → w.grownBy w' (some b) → wpList Tryz.prog ops Q rest (a.put o.dst undef) w') : wpList Tryz.prog ops Q (o :: rest) a w := by
 refine wpList_plain hg fun K' hK' => ?_
 obtain ⟨w', hrun, r1, r2⟩ := h.put ht hn k hk y
 unfold Oper.wp
 simp [execOp, hop, hm, hx, hv, hrun, Result.andThen]
 exact hK' _ _ (hK w' r1 r2)
/-- It is asked for one. -/
theorem wp_look {ops : Array Oper} {rest : List Oper} {o : Oper} {a : Act} {w : World} {Q : Exit → Act → World → Prop} (hg : o.guard = none) (m x : Operand) (t e : TypeId) (hop : o.op = Op.lookup t m x true) (ht : Tryz.prog.underlying t = some (.map 9 e)) {z : Value} (hz : (zeroValue e).run Tryz.prog w = .ok z w)
  (b n : Nat) (f : ByteArray → Option Value) (hm : a.eval m = .map (some b)) (h : TabAt w b n f) (k : ByteArray) (hx : a.eval x = .string k) (hk : k.size ≤ maxLen)
  (hK : wpList Tryz.prog ops Q rest (a.put o.dst (.tuple #[(f k).getD z, .bool (f k).isSome])) w) : wpList Tryz.prog ops Q (o :: rest) a w := by
 refine wpList_plain hg fun K' hK' => ?_
 have hrun := h.look ht hz k hk
 unfold Oper.wp
 simp [execOp, hop, hm, hx, hrun, Result.andThen]
 exact hK' _ _ hK
end Go.Proofs.YtkocmkaeaagbaaaGreatDoor.Mem
namespace Go.Proofs.YtkocmkaeaagbaaaGreatDoor.Wd
open Go.RowKit Go.Proofs.YtkocmkaeaagbaaaGreatDoor.Mem Go.Proofs.YtkocmkaeaagbaaaGreatDoor.Bw Go.Proofs.YtkocmkaeaagbaaaGreatDoor.Nums Go.Proofs.YtkocmkaeaagbaaaGreatDoor.Mmu Go.Proofs.YtkocmkaeaagbaaaGreatDoor.Hex Go.Proofs.YtkocmkaeaagbaaaGreatDoor.Prs
/-- A function that reads numbers, just k or at least k (N: which of both is asked). -/
def Cnt (lo : Nat) (w : World) (v : Value) (N : Nat) (k : Int) : Prop := ∃ cb mb, lo ≤ cb ∧ lo ≤ mb ∧ v = .func (.func 150) #[] #[.pointer (some ⟨cb, 0, none⟩)] ∧ w.cell? ⟨cb, 0, none⟩ = some (.func (.func N) #[] #[.pointer (some ⟨mb, 0, none⟩)]) ∧ w.cell? ⟨mb, 0, none⟩ = some (.int .i64 k)
theorem cell_up {w w' : World} {b o : Nat} {x : Value} (h : w.cell? ⟨b, o, none⟩ = some x) (hb : Below w.heap.size w w') : w'.cell? ⟨b, o, none⟩ = some x := (hb.cell (p := ⟨b, o, none⟩) (World.block_lt_of_cell? _ _ h)).trans h
theorem Cnt.below {lo : Nat} {w w' : World} {v : Value} {N : Nat} {k : Int} (h : Cnt lo w v N k) (hb : Below w.heap.size w w') : Cnt lo w' v N k := by
 obtain ⟨cb, mb, l1, l2, h1, h2, h3⟩ := h
 exact ⟨cb, mb, l1, l2, h1, cell_up h2 hb, cell_up h3 hb⟩
set_option maxHeartbeats 1000000 in
theorem counted_any (N mb : Nat) (w : World) : Calls Tryz.prog 111 #[.func (.func N) #[] #[.pointer (some ⟨mb, 0, none⟩)]] w fun r w' => r = .returned (.func (.func 150) #[] #[.pointer (some ⟨w.heap.size, 0, none⟩)]) ∧ w' = w.alloc (.cells #[.func (.func N) #[] #[.pointer (some ⟨mb, 0, none⟩)]] 143) := by
 go_enter Tryz.func111, Tryz.ntmps111
 go_wp2_with fail
 go_ret
 exact ⟨rfl, rfl⟩
set_option maxHeartbeats 1000000 in
theorem just_any (k : Int) (w : World) : Calls Tryz.prog 76 #[.int .i64 k] w fun r w' => ∃ v, r = .returned v ∧ Cnt w.heap.size w' v 115 k ∧ Below w.heap.size w w' := by
 have C0 := hid (cells_new w #[.int .i64 k] 3)
 go_enter Tryz.func76, Tryz.ntmps76
 go_wp2_with fail
 refine (counted_any _ _ _).mono ?_
 rintro r w1 ⟨rfl, rfl⟩
 go_wp2_with fail
 go_ret
 exact ⟨_, rfl, ⟨_, w.heap.size, by omega, Nat.le_refl _, rfl, cells_at _ _ _ _ (by simp) 0, (cells_alloc C0.out (by simp) _) 0⟩, bal (bal (Below.refl _ _) _) _⟩
set_option maxHeartbeats 1000000 in
theorem atLeast_any (k : Int) (w : World) : Calls Tryz.prog 74 #[.int .i64 k] w fun r w' => ∃ v, r = .returned v ∧ Cnt w.heap.size w' v 112 k ∧ Below w.heap.size w w' := by
 have C0 := hid (cells_new w #[.int .i64 k] 3)
 go_enter Tryz.func74, Tryz.ntmps74
 go_wp2_with fail
 refine (counted_any _ _ _).mono ?_
 rintro r w1 ⟨rfl, rfl⟩
 go_wp2_with fail
 go_ret
 exact ⟨_, rfl, ⟨_, w.heap.size, by omega, Nat.le_refl _, rfl, cells_at _ _ _ _ (by simp) 0, (cells_alloc C0.out (by simp) _) 0⟩, bal (bal (Below.refl _ _) _) _⟩
theorem nbV_in (d : ByteArray) : -1 ≤ (nbV d).1 ∧ (nbV d).1 ≤ 99999 := by
 unfold nbV
 by_cases e : d = dashB
 ·rw [if_pos e]; decide
 ·rw [if_neg e]
  by_cases h : NumP false d
  ·rw [num_yes h]
   obtain ⟨⟨_, h5, _, hd⟩, _⟩ := h
   have h2 := decN_take_lt d d.size (Nat.le_refl _) h5 (fun j h _ => hd j h)
   rw [List.take_of_length_le (by rw [← size_list]; exact Nat.le_refl _)] at h2
   simp only [Bool.false_eq_true, if_false]
   constructor <;> omega
  ·rw [num_no h]; decide
/-- What a reader answers: numbers (of as many as it wants), or an error. -/
def RdA (w w' : World) (ok : Nat → Prop) (r : Ending) : Prop := (∃ g c zs, r = .returned (.tuple #[.slice (some ⟨g, 0, none⟩) zs.length c, .nilIface]) ∧ zs.length ≤ c ∧ w.heap.size ≤ g ∧ IntsAt w' g 0 zs ∧ ok zs.length ∧ ∀ z ∈ zs, -1 ≤ z ∧ z ≤ 99999) ∨ ∃ e, e ≠ 0 ∧ r = .returned (.tuple #[.slice none 0 0, .iface 29 (.int .i64 e)])
/-- What is asked of how many there are. -/
def okN (N : Nat) (k : Int) (n : Nat) : Bool := if N = 115 then (n : Int) == k else decide (k ≤ (n : Int))
set_option maxHeartbeats 1000000 in
theorem fits_any (N mb n : Nat) (k : Int) (w : World) (hN : N = 115 ∨ N = 112) (h : w.cell? ⟨mb, 0, none⟩ = some (.int .i64 k)) :
  Calls Tryz.prog N #[.int .i64 n, .pointer (some ⟨mb, 0, none⟩)] w fun r w' => r = .returned (.bool (okN N k n)) ∧ w = w' := by
 rcases hN with rfl | rfl
 ·go_enter Tryz.func115, Tryz.ntmps115
  go_wp2_with fail
  go_ret
  exact ⟨rfl, rfl⟩
 ·go_enter Tryz.func112, Tryz.ntmps112
  go_wp2_with fail
  go_ret
  exact ⟨rfl, rfl⟩
/-- .. just those numbers, where all is well. -/
def RdG (ts : List ByteArray) (N : Nat) (k : Int) (w' : World) (r : Ending) : Prop := (∀ t ∈ ts, (nbV t).2 = true) → okN N k ts.length = true → ∃ g c, r = .returned (.tuple #[.slice (some ⟨g, 0, none⟩) ts.length c, .nilIface]) ∧ IntsAt w' g 0 (ts.map fun t => (nbV t).1)
theorem rdG_no {ts : List ByteArray} {N : Nat} {k : Int} {w' : World} {r : Ending} (h : okN N k ts.length = false) : RdG ts N k w' r := fun _ h2 => by rw [h] at h2; cases h2
theorem rdG_bad {ts : List ByteArray} {N : Nat} {k : Int} {w' : World} {r : Ending} (h : ∃ t ∈ ts, (nbV t).2 = false) : RdG ts N k w' r := fun h2 => by obtain ⟨t, ht, h3⟩ := h; rw [h2 t ht] at h3; cases h3
theorem rdG_yes {ts : List ByteArray} {N g c : Nat} {k : Int} {w' : World} (h : IntsAt w' g 0 (ts.map fun t => (nbV t).1)) : RdG ts N k w' (.returned (.tuple #[.slice (some ⟨g, 0, none⟩) ts.length c, .nilIface])) := fun _ _ => ⟨g, c, rfl, h⟩
set_option maxRecDepth 100000 in
set_option maxHeartbeats 2000000 in
theorem countedF_any (N cb mb xb xo cap : Nat) (k : Int) (ts : List ByteArray) (w : World) (hN : N = 115 ∨ N = 112) (h1 : w.cell? ⟨cb, 0, none⟩ = some (.func (.func N) #[] #[.pointer (some ⟨mb, 0, none⟩)])) (h2 : w.cell? ⟨mb, 0, none⟩ = some (.int .i64 k)) (hS : StrsAt w xb xo ts) (hl : ts.length ≤ 100000) :
  Calls Tryz.prog 150 #[.slice (some ⟨xb, xo, none⟩) ts.length cap, .pointer (some ⟨cb, 0, none⟩)] w fun r w' => RdA w w' (fun n => okN N k n = true) r ∧ RdG ts N k w' r ∧ Below w.heap.size w w' := by
 have NA := hid (bootNumbers_any xb xo cap ts w hS hl)
 have H1 := hid h1
 have H2 := hid h2
 have HN := hid hN
 clear hS h1 h2 hN
 have hl2 : (ts.length : Int) ≤ 100000 := by omega
 go_enter Tryz.func150, Tryz.ntmps150
 go_wp2_with fail
 refine NA.out.mono ?_
 rintro r w1 ⟨hb, h⟩
 have B1 := hid hb
 have HA := hid h
 have c1 := cell_up H1.out hb
 have FT := hid (fits_any N mb ts.length k w1 HN.out (cell_up H2.out hb))
 clear hb h NA H1 H2
 rcases HA.out with ⟨g, c, rfl, a0, a1, a2, a3⟩ | ⟨rfl, hx⟩
 ·have X0 := hid a0
  have X1 := hid a1
  have X2 := hid a2
  clear a0 a1 a2 a3 HA
  cases hok : okN N k ts.length with
  | true =>
   rw [hok] at FT
   have HO := hid hok
   clear hok
   rcases HN.out with rfl | rfl
   all_goals
    clear HN
    go_wp2_with fail
    refine FT.out.mono ?_
    rintro r w2 ⟨rfl, rfl⟩
    go_wp2_with fail
    go_ret2
    exact ⟨Or.inl ⟨g, c, ts.map fun t => (nbV t).1, by rw [List.length_map]; rfl, by rw [List.length_map]; exact X0.out, X1.out, X2.out, by rw [List.length_map]; exact HO.out, fun z hz => by obtain ⟨t, _, rfl⟩ := List.mem_map.1 hz; exact nbV_in t⟩, rdG_yes X2.out, B1.out⟩
  | false =>
   rw [hok] at FT
   have HO := hid hok
   clear hok
   rcases HN.out with rfl | rfl
   all_goals
    clear HN
    go_wp2_with fail
    refine FT.out.mono ?_
    rintro r w2 ⟨rfl, rfl⟩
    go_wp2_with fail
    go_ret2
    exact ⟨Or.inr ⟨10, by decide, rfl⟩, rdG_no HO.out, B1.out⟩
 ·have HX := hid hx
  clear HA hx
  go_wp2_with fail
  go_ret2
  exact ⟨Or.inr ⟨1, by decide, rfl⟩, rdG_bad HX.out, B1.out⟩
theorem gr_below {w w' : World} {b B : Nat} {a : World} (hb : Below B a w) (hB : B ≤ b) (hs : B ≤ w.heap.size) (hg : w.grownBy w' (some b)) : Below B a w' :=
 ⟨hg.os.trans hb.os, hg.tape.trans hb.tape, hg.output.trans hb.output, Nat.le_trans hb.size hg.size, fun k hk => (hg.block k (Nat.lt_of_lt_of_le hk hs) (by intro e; cases e; omega)).trans (hb.block k hk)⟩
theorem gr_cell {w w' : World} {b c o : Nat} {x : Value} (h : w.cell? ⟨c, o, none⟩ = some x) (hg : w.grownBy w' (some b)) (hn : c ≠ b) : w'.cell? ⟨c, o, none⟩ = some x :=
 (World.cell?_of_block (w := w) (hg.block c (World.block_lt_of_cell? _ ⟨c, o, none⟩ h) (by intro e; cases e; exact hn rfl))).trans h
end Go.Proofs.YtkocmkaeaagbaaaGreatDoor.Wd
