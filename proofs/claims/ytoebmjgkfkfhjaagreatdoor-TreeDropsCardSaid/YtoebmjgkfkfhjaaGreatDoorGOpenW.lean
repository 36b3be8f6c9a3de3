/- Arguments that are read: a world, by value. · A world, by value: its eleven values, and what they are. · keyholdlaw.hugeWorld, walked. -/
import Derived.Test.YtoebmjgkfkfhjaaGreatDoorGSame
import Derived.Test.YtoebmjgkfkfhjaaGreatDoorGOpen
namespace Go.Proofs.YtoebmjgkfkfhjaaGreatDoor.Wd
open Go.ChangeShapes Go.WideShapes Go.RowKit Go.Deep Go.Joins Go.Proofs.YtoebmjgkfkfhjaaGreatDoor.Mem Go.Proofs.YtoebmjgkfkfhjaaGreatDoor.Nums Go.Proofs.YtoebmjgkfkfhjaaGreatDoor.Mmu
def inR (z : Int) : Prop := -9223372036854775808 ≤ z ∧ z ≤ 9223372036854775807
/-- The first n cells are numbers. -/
def AllInt (cs : List Value) (n : Nat) : Prop := ∀ k, k < n → ∃ z, cs[k]? = some (.int .i64 z) ∧ inR z
section
variable {H : Type} {enc : TypeId × Value → H} {w : World} {base : Nat} {spare : Nat → Bool} {held : Bool} {fuel : Nat} {cs : List Value} {x : DataW H × List MemPlace}
theorem ai_int (h : DataW.trod enc Tryz.prog w base spare held fuel 3 cs = some x) : AllInt cs 1 := by
 obtain ⟨n0, rfl, _, hw⟩ := DataW.trod_int Tryz.underlying3 h
 intro k hk
 obtain rfl : k = 0 := by omega
 refine ⟨n0, rfl, ?_⟩
 simp [Lit.wf, IntKind.min, IntKind.max, IntKind.signed, IntKind.bits] at hw
 exact ⟨by omega, by omega⟩
theorem sub_ai {o m n : Nat} (h : AllInt ((cs.drop o).take m) n) (j : Nat) (hj : j < n) : ∃ z, cs[o + j]? = some (.int .i64 z) ∧ inR z := by
 obtain ⟨z, h1, h2⟩ := h j hj
 refine ⟨z, ?_, h2⟩
 rw [List.getElem?_take] at h1
 split at h1
 ·rwa [List.getElem?_drop] at h1
 ·cases h1
set_option maxRecDepth 100000 in
theorem ai_key (h : DataW.trod enc Tryz.prog w base spare held fuel 60 cs = some x) : AllInt cs 6 := by
 obtain ⟨xs, n, _, _, _, hl, hf⟩ := DataW.trod_struct Tryz.underlying60 h
 have t0 := hf 0 _ rfl
 rw [List.getElem?_eq_getElem (show 0 < xs.length by rw [hl]; simp)] at t0
 have a0 := ai_int t0
 have t1 := hf 1 _ rfl
 rw [List.getElem?_eq_getElem (show 1 < xs.length by rw [hl]; simp)] at t1
 have a1 := ai_int t1
 have t2 := hf 2 _ rfl
 rw [List.getElem?_eq_getElem (show 2 < xs.length by rw [hl]; simp)] at t2
 have a2 := ai_int t2
 have t3 := hf 3 _ rfl
 rw [List.getElem?_eq_getElem (show 3 < xs.length by rw [hl]; simp)] at t3
 have a3 := ai_int t3
 have t4 := hf 4 _ rfl
 rw [List.getElem?_eq_getElem (show 4 < xs.length by rw [hl]; simp)] at t4
 have a4 := ai_int t4
 have t5 := hf 5 _ rfl
 rw [List.getElem?_eq_getElem (show 5 < xs.length by rw [hl]; simp)] at t5
 have a5 := ai_int t5
 intro k hk
 by_cases h0 : k < 1
 ·have := (show ∃ z, cs[0 + k]? = some (.int .i64 z) ∧ inR z from sub_ai a0 k (by omega))
  rwa [show 0 + k = k by omega] at this
 by_cases h1 : k < 2
 ·have := (show ∃ z, cs[1 + (k - 1)]? = some (.int .i64 z) ∧ inR z from sub_ai a1 (k - 1) (by omega))
  rwa [show 1 + (k - 1) = k by omega] at this
 by_cases h2 : k < 3
 ·have := (show ∃ z, cs[2 + (k - 2)]? = some (.int .i64 z) ∧ inR z from sub_ai a2 (k - 2) (by omega))
  rwa [show 2 + (k - 2) = k by omega] at this
 by_cases h3 : k < 4
 ·have := (show ∃ z, cs[3 + (k - 3)]? = some (.int .i64 z) ∧ inR z from sub_ai a3 (k - 3) (by omega))
  rwa [show 3 + (k - 3) = k by omega] at this
 by_cases h4 : k < 5
 ·have := (show ∃ z, cs[4 + (k - 4)]? = some (.int .i64 z) ∧ inR z from sub_ai a4 (k - 4) (by omega))
  rwa [show 4 + (k - 4) = k by omega] at this
 have := (show ∃ z, cs[5 + (k - 5)]? = some (.int .i64 z) ∧ inR z from sub_ai a5 (k - 5) (by omega))
 rwa [show 5 + (k - 5) = k by omega] at this
theorem ai_regs (h : DataW.trod enc Tryz.prog w base spare held fuel 83 cs = some x) : AllInt cs 8 := by
 obtain ⟨xs, m, _, hx, _, hxl, hf⟩ := DataW.trod_array Tryz.underlying83 h
 intro k hk
 have h1 := hf k (by omega)
 rw [cellsI, Nat.mul_one, List.getElem?_eq_getElem (by omega)] at h1
 have := sub_ai (ai_int h1) 0 (by decide)
 exact this
set_option maxRecDepth 100000 in
theorem ai_slot (h : DataW.trod enc Tryz.prog w base spare held fuel 64 cs = some x) : AllInt cs 7 := by
 obtain ⟨xs, n, _, _, _, hl, hf⟩ := DataW.trod_struct Tryz.underlying64 h
 have t0 := hf 0 _ rfl
 rw [List.getElem?_eq_getElem (show 0 < xs.length by rw [hl]; simp)] at t0
 have a0 := ai_key t0
 have t1 := hf 1 _ rfl
 rw [List.getElem?_eq_getElem (show 1 < xs.length by rw [hl]; simp)] at t1
 have a1 := ai_int t1
 intro k hk
 by_cases h0 : k < 6
 ·have := (show ∃ z, cs[0 + k]? = some (.int .i64 z) ∧ inR z from sub_ai a0 k (by omega))
  rwa [show 0 + k = k by omega] at this
 have := (show ∃ z, cs[6 + (k - 6)]? = some (.int .i64 z) ∧ inR z from sub_ai a1 (k - 6) (by omega))
 rwa [show 6 + (k - 6) = k by omega] at this
set_option maxRecDepth 100000 in
theorem ai_task (h : DataW.trod enc Tryz.prog w base spare held fuel 85 cs = some x) : AllInt cs 20 := by
 obtain ⟨xs, n, _, _, _, hl, hf⟩ := DataW.trod_struct Tryz.underlying85 h
 have t0 := hf 0 _ rfl
 rw [List.getElem?_eq_getElem (show 0 < xs.length by rw [hl]; simp)] at t0
 have a0 := ai_regs t0
 have t1 := hf 1 _ rfl
 rw [List.getElem?_eq_getElem (show 1 < xs.length by rw [hl]; simp)] at t1
 have a1 := ai_int t1
 have t2 := hf 2 _ rfl
 rw [List.getElem?_eq_getElem (show 2 < xs.length by rw [hl]; simp)] at t2
 have a2 := ai_int t2
 have t3 := hf 3 _ rfl
 rw [List.getElem?_eq_getElem (show 3 < xs.length by rw [hl]; simp)] at t3
 have a3 := ai_int t3
 have t4 := hf 4 _ rfl
 rw [List.getElem?_eq_getElem (show 4 < xs.length by rw [hl]; simp)] at t4
 have a4 := ai_int t4
 have t5 := hf 5 _ rfl
 rw [List.getElem?_eq_getElem (show 5 < xs.length by rw [hl]; simp)] at t5
 have a5 := ai_int t5
 have t6 := hf 6 _ rfl
 rw [List.getElem?_eq_getElem (show 6 < xs.length by rw [hl]; simp)] at t6
 have a6 := ai_int t6
 have t7 := hf 7 _ rfl
 rw [List.getElem?_eq_getElem (show 7 < xs.length by rw [hl]; simp)] at t7
 have a7 := ai_int t7
 have t8 := hf 8 _ rfl
 rw [List.getElem?_eq_getElem (show 8 < xs.length by rw [hl]; simp)] at t8
 have a8 := ai_int t8
 have t9 := hf 9 _ rfl
 rw [List.getElem?_eq_getElem (show 9 < xs.length by rw [hl]; simp)] at t9
 have a9 := ai_int t9
 have t10 := hf 10 _ rfl
 rw [List.getElem?_eq_getElem (show 10 < xs.length by rw [hl]; simp)] at t10
 have a10 := ai_int t10
 have t11 := hf 11 _ rfl
 rw [List.getElem?_eq_getElem (show 11 < xs.length by rw [hl]; simp)] at t11
 have a11 := ai_int t11
 have t12 := hf 12 _ rfl
 rw [List.getElem?_eq_getElem (show 12 < xs.length by rw [hl]; simp)] at t12
 have a12 := ai_int t12
 intro k hk
 by_cases h0 : k < 8
 ·have := (show ∃ z, cs[0 + k]? = some (.int .i64 z) ∧ inR z from sub_ai a0 k (by omega))
  rwa [show 0 + k = k by omega] at this
 by_cases h1 : k < 9
 ·have := (show ∃ z, cs[8 + (k - 8)]? = some (.int .i64 z) ∧ inR z from sub_ai a1 (k - 8) (by omega))
  rwa [show 8 + (k - 8) = k by omega] at this
 by_cases h2 : k < 10
 ·have := (show ∃ z, cs[9 + (k - 9)]? = some (.int .i64 z) ∧ inR z from sub_ai a2 (k - 9) (by omega))
  rwa [show 9 + (k - 9) = k by omega] at this
 by_cases h3 : k < 11
 ·have := (show ∃ z, cs[10 + (k - 10)]? = some (.int .i64 z) ∧ inR z from sub_ai a3 (k - 10) (by omega))
  rwa [show 10 + (k - 10) = k by omega] at this
 by_cases h4 : k < 12
 ·have := (show ∃ z, cs[11 + (k - 11)]? = some (.int .i64 z) ∧ inR z from sub_ai a4 (k - 11) (by omega))
  rwa [show 11 + (k - 11) = k by omega] at this
 by_cases h5 : k < 13
 ·have := (show ∃ z, cs[12 + (k - 12)]? = some (.int .i64 z) ∧ inR z from sub_ai a5 (k - 12) (by omega))
  rwa [show 12 + (k - 12) = k by omega] at this
 by_cases h6 : k < 14
 ·have := (show ∃ z, cs[13 + (k - 13)]? = some (.int .i64 z) ∧ inR z from sub_ai a6 (k - 13) (by omega))
  rwa [show 13 + (k - 13) = k by omega] at this
 by_cases h7 : k < 15
 ·have := (show ∃ z, cs[14 + (k - 14)]? = some (.int .i64 z) ∧ inR z from sub_ai a7 (k - 14) (by omega))
  rwa [show 14 + (k - 14) = k by omega] at this
 by_cases h8 : k < 16
 ·have := (show ∃ z, cs[15 + (k - 15)]? = some (.int .i64 z) ∧ inR z from sub_ai a8 (k - 15) (by omega))
  rwa [show 15 + (k - 15) = k by omega] at this
 by_cases h9 : k < 17
 ·have := (show ∃ z, cs[16 + (k - 16)]? = some (.int .i64 z) ∧ inR z from sub_ai a9 (k - 16) (by omega))
  rwa [show 16 + (k - 16) = k by omega] at this
 by_cases h10 : k < 18
 ·have := (show ∃ z, cs[17 + (k - 17)]? = some (.int .i64 z) ∧ inR z from sub_ai a10 (k - 17) (by omega))
  rwa [show 17 + (k - 17) = k by omega] at this
 by_cases h11 : k < 19
 ·have := (show ∃ z, cs[18 + (k - 18)]? = some (.int .i64 z) ∧ inR z from sub_ai a11 (k - 18) (by omega))
  rwa [show 18 + (k - 18) = k by omega] at this
 have := (show ∃ z, cs[19 + (k - 19)]? = some (.int .i64 z) ∧ inR z from sub_ai a12 (k - 19) (by omega))
 rwa [show 19 + (k - 19) = k by omega] at this
end
/-- The number in a cell. -/
def numOf : Option Value → Int
 | some (.int _ z) => z
 | _ => 0
theorem cf_of {cs : List Value} {n : Nat} (h : AllInt cs n) (hl : cs.length = n) : cs = cf n (fun k => numOf cs[k]?) ∧ ∀ k, k < n → inR (numOf cs[k]?) := by
 constructor
 ·apply List.ext_getElem?
  intro k
  by_cases hk : k < n
  ·obtain ⟨z, h1, _⟩ := h k hk
   rw [cf_at n _ k hk, h1]
   rfl
  ·rw [List.getElem?_eq_none (by omega), List.getElem?_eq_none (by rw [cf_len]; omega)]
 ·intro k hk
  obtain ⟨z, h1, h2⟩ := h k hk
  rw [h1]
  exact h2
/-- Structs of n numbers, as they are handed in. -/
def RowsRaw (n : Nat) (w : World) (v : Value) (fs : List (Nat → Int)) : Prop := RowsIn n w v fs ∧ fs.length ≤ maxLen ∧ ∀ f ∈ fs, ∀ k, k < n → inR (f k)
section
variable {H : Type} {enc : TypeId × Value → H} {w : World} {base : Nat} {spare : Nat → Bool} {held : Bool} {fuel : Nat} {cs : List Value} {x : DataW H × List MemPlace}
theorem row_rows {T E n : Nat} (hT : Tryz.prog.underlying T = some (.slice E)) (hc : Tryz.prog.cellsOf E = n) (hn : 0 < n) (ai : ∀ {fuel : Nat} {cs : List Value} {x : DataW H × List MemPlace}, DataW.trod enc Tryz.prog w base spare held fuel E cs = some x → AllInt cs n)
  (h : DataW.trod enc Tryz.prog w base spare held fuel T cs = some x) : ∃ v fs, cs = [v] ∧ RowsRaw n w v fs := by
 rcases open_slice hT h with ⟨rfl, _⟩ | ⟨a, len, cap, m, n', D, Pl, rfl, _, hl, hm, hmm, _, hx⟩
 ·exact ⟨_, [], rfl, ⟨none, 0, 0, 0, rfl, fun e => by simp at e, fun j hj => by simp at hj⟩, by simp, fun f hf => by simp at hf⟩
 ·have hml : len ≤ m := by rw [hmm]; split <;> omega
  obtain ⟨ab, ao, asp⟩ := a
  have hsp : 0 < len → asp = none := fun h0 => by
   obtain ⟨cs', h1, _⟩ := hx 0 (by omega)
   rw [hc] at h1
   obtain ⟨_, hl1, hc1⟩ := World.cells?_some h1
   have h2 := hc1 0 hn
   rw [List.getElem?_eq_getElem (by omega)] at h2
   have := World.cell?_spot h2
   simpa [Addr.add] using this
  obtain ⟨g, hg⟩ := choose_lt (α := Nat → Int) (n := len) (p := fun i f => asp = none ∧ w.rangeAt ab (ao + i * n) (cf n f) ∧ ∀ k, k < n → inR (f k)) (fun i hi => by
   obtain ⟨cs', h1, h2⟩ := hx i (by omega)
   rw [hc] at h1
   obtain ⟨_, hl1, hc1⟩ := World.cells?_some h1
   obtain ⟨e1, e2⟩ := cf_of (ai h2) hl1
   obtain rfl := hsp (by omega)
   refine ⟨fun k => numOf cs'[k]?, rfl, ?_, e2⟩
   rw [← e1]
   intro j u hu
   have hj : j < cs'.length := (List.getElem?_eq_some_iff.1 hu).1
   have h3 := hc1 j (by omega)
   rw [Addr.add_mid, Addr.add_mid] at h3
   rw [h3, ← hu])
  refine ⟨_, (List.range len).map g, rfl, ⟨some ⟨ab, ao, asp⟩, ab, ao, cap, by simp, fun h0 => ?_, fun j hj => ?_⟩, by simp; omega, fun f hf => ?_⟩
  ·have h1 : 0 < len := by simpa using h0
   rw [(hg 0 h1).1]
  ·have hj' : j < len := by simpa using hj
   have e : ((List.range len).map g)[j] = g j := by simp
   rw [e]
   exact (hg j hj').2.1
  ·obtain ⟨j, hj, rfl⟩ := List.mem_map.1 hf
   exact (hg j (List.mem_range.1 hj)).2.2
theorem row_ints (h : DataW.trod enc Tryz.prog w base spare held fuel 22 cs = some x) : ∃ v zs, cs = [v] ∧ RawIn w v zs ∧ zs.length ≤ maxLen := by
 obtain ⟨v, fs, rfl, ⟨q, b, off, cap, h1, h2, h3⟩, h4, h5⟩ := row_rows Tryz.underlying22 cellsI (by decide) ai_int h
 refine ⟨v, fs.map (· 0), rfl, ⟨q, b, off, cap, by rw [h1]; simp, fun h => h2 (by simpa using h), fun j hj => ?_, fun z hz => ?_⟩, by simpa using h4⟩
 ·have hj' : j < fs.length := by simpa using hj
  have := h3 j hj' 0 _ (cf_at 1 _ 0 (by decide))
  rw [Nat.mul_one, Nat.add_zero] at this
  rw [this]
  simp
 ·obtain ⟨f, hf, rfl⟩ := List.mem_map.1 hz
  exact h5 f hf 0 (by decide)
/-- Lists of numbers, as they are handed in. -/
def ListsRaw (w : World) (v : Value) (ls : List (List Int)) : Prop := ∃ q b off cap, v = .slice q ls.length cap ∧ (0 < ls.length → q = some ⟨b, off, none⟩) ∧ (∀ j (h : j < ls.length), ∃ y, w.cell? ⟨b, off + j, none⟩ = some y ∧ RawIn w y ls[j] ∧ ls[j].length ≤ maxLen) ∧ ls.length ≤ maxLen
theorem listC : Tryz.prog.cellsOf 22 = 1 := by kernel_rfl
theorem entsC : Tryz.prog.cellsOf 56 = 1 := by kernel_rfl
theorem row_lists (h : DataW.trod enc Tryz.prog w base spare held fuel 25 cs = some x) : ∃ v ls, cs = [v] ∧ ListsRaw w v ls := by
 rcases open_slice1 Tryz.underlying25 listC h with ⟨rfl, _⟩ | ⟨a, len, cap, m, n', V, D, Pl, rfl, _, hl, hm, hmm, _, hx⟩
 ·exact ⟨_, [], rfl, none, 0, 0, 0, rfl, fun e => by simp at e, fun j hj => by simp at hj, by simp⟩
 ·have hml : len ≤ m := by rw [hmm]; split <;> omega
  obtain ⟨ab, ao, asp⟩ := a
  have hsp : 0 < len → asp = none := fun h0 => by
   have := World.cell?_spot (hx 0 (by omega)).1
   simpa [Addr.add] using this
  obtain ⟨g, hg⟩ := choose_lt (α := List Int) (n := len) (p := fun i l => asp = none ∧ w.cell? ⟨ab, ao + i, none⟩ = some (V i) ∧ RawIn w (V i) l ∧ l.length ≤ maxLen) (fun i hi => by
   obtain ⟨h1, h2⟩ := hx i (by omega)
   obtain ⟨v, zs, e1, e2, e3⟩ := row_ints h2
   obtain rfl := hsp (by omega)
   rw [Addr.add_mid] at h1
   obtain rfl : V i = v := by simpa using e1
   exact ⟨zs, rfl, h1, e2, e3⟩)
  refine ⟨_, (List.range len).map g, rfl, some ⟨ab, ao, asp⟩, ab, ao, cap, by simp, fun h0 => ?_, fun j hj => ?_, by simp; omega⟩
  ·have h1 : 0 < len := by simpa using h0
   rw [(hg 0 h1).1]
  ·have hj' : j < len := by simpa using hj
   have e : ((List.range len).map g)[j] = g j := by simp
   rw [e]
   exact ⟨V j, (hg j hj').2.1, (hg j hj').2.2.1, (hg j hj').2.2.2⟩
/-- Entries, and lists of them, as they are handed in. -/
def EntsRaw (w : World) (v : Value) (l : List Ent) : Prop := ∃ q b off cap, v = .slice q l.length cap ∧ (0 < l.length → q = some ⟨b, off, none⟩) ∧ EntsAt w b off l ∧ l.length ≤ maxLen
def TlbsRaw (w : World) (v : Value) (ls : List (List Ent)) : Prop := ∃ q b off cap, v = .slice q ls.length cap ∧ (0 < ls.length → q = some ⟨b, off, none⟩) ∧ (∀ j (h : j < ls.length), ∃ y, w.cell? ⟨b, off + j, none⟩ = some y ∧ EntsRaw w y ls[j] ∧ RoomV y) ∧ ls.length ≤ maxLen
set_option maxRecDepth 100000 in
theorem row_ents (h : DataW.trod enc Tryz.prog w base spare held fuel 56 cs = some x) : ∃ v l, cs = [v] ∧ EntsRaw w v l ∧ RoomV v := by
 obtain ⟨f0, f1, f2, f3, hs, e0, e1, e2, e3⟩ := entT
 rcases open_slice Tryz.underlying56 h with ⟨rfl, _⟩ | ⟨a, len, cap, m, n', D, Pl, rfl, _, hl, hm, hmm, _, hx⟩
 ·exact ⟨_, [], rfl, ⟨none, 0, 0, 0, rfl, fun e => by simp at e, fun j hj => by simp at hj, by simp⟩, Nat.le_refl 0⟩
 ·have hml : len ≤ m := by rw [hmm]; split <;> omega
  obtain ⟨ab, ao, asp⟩ := a
  have hsp : 0 < len → asp = none := fun h0 => by
   obtain ⟨cs', h1, _⟩ := hx 0 (by omega)
   rw [entC] at h1
   obtain ⟨_, hl1, hc1⟩ := World.cells?_some h1
   have h2 := hc1 0 (by decide)
   rw [List.getElem?_eq_getElem (by omega)] at h2
   have := World.cell?_spot h2
   simpa [Addr.add] using this
  obtain ⟨g, hg⟩ := choose_lt (α := Ent) (n := len) (p := fun i q => asp = none ∧ w.cell? ⟨ab, ao + i * 4, none⟩ = some (.int .i64 q.1) ∧ w.cell? ⟨ab, ao + i * 4 + 1, none⟩ = some (.int .i64 q.2.1) ∧ w.cell? ⟨ab, ao + i * 4 + 2, none⟩ = some (.int .i64 q.2.2.1) ∧ w.cell? ⟨ab, ao + i * 4 + 3, none⟩ = some (.bool q.2.2.2)) (fun i hi => by
   obtain ⟨cs', h1, h2⟩ := hx i (by omega)
   rw [entC] at h1
   obtain ⟨q, k0, k1, k2, k3⟩ := ent_cells hs Tryz.underlying3 Tryz.underlying4 cellsI boolC e0 e1 e2 e3 h1 h2
   obtain rfl := hsp (by omega)
   simp only [addr_plain] at k0 k1 k2 k3
   exact ⟨q, rfl, k0, k1, k2, k3⟩)
  refine ⟨_, (List.range len).map g, rfl, ⟨some ⟨ab, ao, asp⟩, ab, ao, cap, by simp, fun h0 => ?_, fun j hj => ?_, by simp; omega⟩, hl⟩
  ·have h1 : 0 < len := by simpa using h0
   rw [(hg 0 h1).1]
  ·have hj' : j < len := by simpa using hj
   have e : ((List.range len).map g)[j] = g j := by simp
   rw [e]
   exact (hg j hj').2
theorem row_tlbs (h : DataW.trod enc Tryz.prog w base spare held fuel 26 cs = some x) : ∃ v ls, cs = [v] ∧ TlbsRaw w v ls := by
 rcases open_slice1 Tryz.underlying26 entsC h with ⟨rfl, _⟩ | ⟨a, len, cap, m, n', V, D, Pl, rfl, _, hl, hm, hmm, _, hx⟩
 ·exact ⟨_, [], rfl, none, 0, 0, 0, rfl, fun e => by simp at e, fun j hj => by simp at hj, by simp⟩
 ·have hml : len ≤ m := by rw [hmm]; split <;> omega
  obtain ⟨ab, ao, asp⟩ := a
  have hsp : 0 < len → asp = none := fun h0 => by
   have := World.cell?_spot (hx 0 (by omega)).1
   simpa [Addr.add] using this
  obtain ⟨g, hg⟩ := choose_lt (α := List Ent) (n := len) (p := fun i l => asp = none ∧ w.cell? ⟨ab, ao + i, none⟩ = some (V i) ∧ EntsRaw w (V i) l ∧ RoomV (V i)) (fun i hi => by
   obtain ⟨h1, h2⟩ := hx i (by omega)
   obtain ⟨v, zs, e1, e2⟩ := row_ents h2
   obtain rfl := hsp (by omega)
   rw [Addr.add_mid] at h1
   obtain rfl : V i = v := by simpa using e1
   exact ⟨zs, rfl, h1, e2⟩)
  refine ⟨_, (List.range len).map g, rfl, some ⟨ab, ao, asp⟩, ab, ao, cap, by simp, fun h0 => ?_, fun j hj => ?_, by simp; omega⟩
  ·have h1 : 0 < len := by simpa using h0
   rw [(hg 0 h1).1]
  ·have hj' : j < len := by simpa using hj
   have e : ((List.range len).map g)[j] = g j := by simp
   rw [e]
   exact ⟨V j, (hg j hj').2.1, (hg j hj').2.2⟩
end
/-- A world as it is handed in. -/
structure WorldR (w : World) (v : Nat → Value) (p : PW) : Prop where
 ram : RawIn w (v 0) p.ram ∧ p.ram.length ≤ maxLen
 kinds : RawIn w (v 1) p.kinds ∧ p.kinds.length ≤ maxLen
 slots : RowsRaw 7 w (v 2) p.slots
 tasks : RowsRaw 20 w (v 3) p.tasks
 lines : ListsRaw w (v 4) p.lines
 bits : RawIn w (v 5) p.bits ∧ p.bits.length ≤ maxLen
 cores : RawIn w (v 6) p.cores ∧ p.cores.length ≤ maxLen
 ready : ListsRaw w (v 7) p.ready
 tlbs : TlbsRaw w (v 8) p.tlbs
 doms : RawIn w (v 9) p.doms ∧ p.doms.length ≤ maxLen
 time : v 10 = .int .i64 p.time ∧ inR p.time
theorem take_at {cs : List Value} {o m : Nat} {v : Value} (h : (cs.drop o).take m = [v]) : cs.getD o undef = v := by
 have h1 := congrArg (·[0]?) h
 simp only [List.getElem?_take, List.getElem?_drop, Nat.add_zero, List.getElem?_cons_zero] at h1
 split at h1
 ·rw [List.getD_eq_getElem?_getD, h1]
  rfl
 ·cases h1
theorem slotC : Tryz.prog.cellsOf 64 = 7 := by kernel_rfl
theorem taskC : Tryz.prog.cellsOf 85 = 20 := by kernel_rfl
theorem worldC : Tryz.prog.cellsOf 28 = 11 := by kernel_rfl
set_option maxRecDepth 100000 in
theorem open_world {H : Type} {enc : TypeId × Value → H} {W : World} {r : Reach} {base : Nat} {v : Value} {d : DataW H} {pl : List MemPlace}
  (hv : Value.okWide Tryz.prog W r base 28 v) (h : DataW.Trod enc Tryz.prog W 0 (fun _ => true) true 28 v d pl) :
  ∃ V p, v = .agg (arr11 V) ∧ WorldR W V p := by
 simp only [Value.okWide, Tryz.underlying28] at hv
 obtain ⟨cs, rfl, hsz, _⟩ := hv
 rw [worldC] at hsz
 obtain ⟨fuel, hf⟩ := h
 obtain ⟨xs, n, _, _, _, hl, hx⟩ := DataW.trod_struct Tryz.underlying28 hf
 have hcells : (Value.agg cs).cells.toList = cs.toList := rfl
 rw [hcells] at hx
 have t0 := hx 0 _ rfl
 have t1 := hx 1 _ rfl
 have t2 := hx 2 _ rfl
 have t3 := hx 3 _ rfl
 have t4 := hx 4 _ rfl
 have t5 := hx 5 _ rfl
 have t6 := hx 6 _ rfl
 have t7 := hx 7 _ rfl
 have t8 := hx 8 _ rfl
 have t9 := hx 9 _ rfl
 have t10 := hx 10 _ rfl
 have hl' : xs.length = 11 := by rw [hl]; simp
 rw [List.getElem?_eq_getElem (by omega)] at t0 t1 t2 t3 t4 t5 t6 t7 t8 t9 t10
 obtain ⟨v0, z0, e0, r0⟩ := row_ints t0
 obtain ⟨v1, z1, e1, r1⟩ := row_ints t1
 obtain ⟨v2, z2, e2, r2⟩ := row_rows Tryz.underlying23 slotC (by decide) ai_slot t2
 obtain ⟨v3, z3, e3, r3⟩ := row_rows Tryz.underlying24 taskC (by decide) ai_task t3
 obtain ⟨v4, z4, e4, r4⟩ := row_lists t4
 obtain ⟨v5, z5, e5, r5⟩ := row_ints t5
 obtain ⟨v6, z6, e6, r6⟩ := row_ints t6
 obtain ⟨v7, z7, e7, r7⟩ := row_lists t7
 obtain ⟨v8, z8, e8, r8⟩ := row_tlbs t8
 obtain ⟨v9, z9, e9, r9⟩ := row_ints t9
 obtain ⟨z10, c10, r10⟩ := ai_int t10 0 (by decide)
 obtain ⟨n10, e10, _⟩ := DataW.trod_int Tryz.underlying3 t10
 have g0 := take_at e0
 have g1 := take_at e1
 have g2 := take_at e2
 have g3 := take_at e3
 have g4 := take_at e4
 have g5 := take_at e5
 have g6 := take_at e6
 have g7 := take_at e7
 have g8 := take_at e8
 have g9 := take_at e9
 have g10 := take_at e10
 rw [e10] at c10
 obtain rfl : n10 = z10 := by simpa using c10
 refine ⟨fun k => cs.toList.getD k undef, { ram := z0, kinds := z1, slots := z2, tasks := z3, lines := z4, bits := z5, cores := z6, ready := z7, tlbs := z8, doms := z9, time := n10 }, ?_, ?_⟩
 ·congr 1
  apply Array.ext
  ·simpa using hsz
  ·intro i h1 h2
   have hi : i < 11 := by omega
   have e : cs[i] = cs.toList.getD i undef := by simp [h1]
   rw [e]
   have : i = 0 ∨ i = 1 ∨ i = 2 ∨ i = 3 ∨ i = 4 ∨ i = 5 ∨ i = 6 ∨ i = 7 ∨ i = 8 ∨ i = 9 ∨ i = 10 := by omega
   rcases this with rfl | rfl | rfl | rfl | rfl | rfl | rfl | rfl | rfl | rfl | rfl <;> rfl
 ·exact ⟨by rw [← g0] at r0; exact r0, by rw [← g1] at r1; exact r1, by rw [← g2] at r2; exact r2, by rw [← g3] at r3; exact r3, by rw [← g4] at r4; exact r4, by rw [← g5] at r5; exact r5, by rw [← g6] at r6; exact r6, by rw [← g7] at r7; exact r7, by rw [← g8] at r8; exact r8, by rw [← g9] at r9; exact r9, ⟨g10, r10⟩⟩
end Go.Proofs.YtoebmjgkfkfhjaaGreatDoor.Wd
namespace Go.Proofs.YtoebmjgkfkfhjaaGreatDoor.Wd
open Go.RowKit Go.Proofs.YtoebmjgkfkfhjaaGreatDoor.Mem Go.Proofs.YtoebmjgkfkfhjaaGreatDoor.Bw Go.Proofs.YtoebmjgkfkfhjaaGreatDoor.Nums Go.Proofs.YtoebmjgkfkfhjaaGreatDoor.Mmu
/-- A world of which something is said. -/
structure Small (p : PW) : Prop where
 ram : p.ram.length ≤ 1000
 kinds : p.kinds.length ≤ 100
 slots : p.slots.length ≤ 1000
 tasks : p.tasks.length ≤ 100
 lines : p.lines.length ≤ 100
 bits : p.bits.length ≤ 100
 cores : p.cores.length ≤ 50
 ready : p.ready.length ≤ 100
 tlbs : p.tlbs.length ≤ 50
 doms : p.doms.length ≤ 50
 line : ∀ l ∈ p.lines, l.length ≤ 50
 next : ∀ l ∈ p.ready, l.length ≤ 50
 tlb : ∀ l ∈ p.tlbs, l.length ≤ 50
/-- Is nothing said of it? -/
def hugeB (p : PW) : Bool := !decide (p.ram.length ≤ 1000 ∧ p.kinds.length ≤ 100 ∧ p.slots.length ≤ 1000 ∧ p.tasks.length ≤ 100 ∧ p.lines.length ≤ 100 ∧ p.bits.length ≤ 100 ∧ p.cores.length ≤ 50 ∧ p.ready.length ≤ 100 ∧ p.tlbs.length ≤ 50 ∧ p.doms.length ≤ 50 ∧
 (∀ l ∈ p.lines, l.length ≤ 50) ∧ (∀ l ∈ p.ready, l.length ≤ 50) ∧ ∀ l ∈ p.tlbs, l.length ≤ 50)
theorem huge_t {p : PW} (h : ¬ Small p) : hugeB p = true := by
 unfold hugeB
 rw [decide_eq_false fun ⟨a, b, c, d, e, f, g, i, j, k, l, m, n⟩ => h ⟨a, b, c, d, e, f, g, i, j, k, l, m, n⟩]
 rfl
theorem huge_f {p : PW} (h : Small p) : hugeB p = false := by
 unfold hugeB
 rw [decide_eq_true ⟨h.ram, h.kinds, h.slots, h.tasks, h.lines, h.bits, h.cores, h.ready, h.tlbs, h.doms, h.line, h.next, h.tlb⟩]
 rfl
theorem raw_slice {w : World} {v : Value} {zs : List Int} (h : RawIn w v zs) : ∃ q cap, v = .slice q zs.length cap := by
 obtain ⟨q, b, off, cap, h1, _⟩ := h
 exact ⟨q, cap, h1⟩
theorem ListsRaw.slice {w : World} {v : Value} {ls : List (List Int)} (h : ListsRaw w v ls) : ∃ q cap, v = .slice q ls.length cap := by
 obtain ⟨q, b, off, cap, h1, _⟩ := h
 exact ⟨q, cap, h1⟩
theorem TlbsRaw.slice {w : World} {v : Value} {ls : List (List Ent)} (h : TlbsRaw w v ls) : ∃ q cap, v = .slice q ls.length cap := by
 obtain ⟨q, b, off, cap, h1, _⟩ := h
 exact ⟨q, cap, h1⟩
theorem mem_le {α : Type} {ls : List (List α)} (h : ∀ j (hj : j < ls.length), j < ls.length → ls[j].length ≤ 50) : ∀ l ∈ ls, l.length ≤ 50 := by
 intro l hl
 obtain ⟨j, hj, rfl⟩ := List.getElem_of_mem hl
 exact h j hj hj
set_option maxRecDepth 100000 in
set_option maxHeartbeats 4000000 in
theorem hugeWorld_any (V : Nat → Value) (p : PW) (w : World) (hv : WorldR w V p) :
  Calls Tryz.prog 7 #[.agg (arr11 V)] w fun r w' => r = .returned (.bool (hugeB p)) ∧ Below w.heap.size w w' := by
 have HV := hid hv
 obtain ⟨q0, k0, e0⟩ := raw_slice hv.ram.1
 have m0 : (p.ram.length : Int) ≤ 9223372036854775807 := by have : p.ram.length ≤ 9223372036854775807 := hv.ram.2; omega
 obtain ⟨q1, k1, e1⟩ := raw_slice hv.kinds.1
 have m1 : (p.kinds.length : Int) ≤ 9223372036854775807 := by have : p.kinds.length ≤ 9223372036854775807 := hv.kinds.2; omega
 obtain ⟨q2, k2, e2⟩ := hv.slots.1.slice
 have m2 : (p.slots.length : Int) ≤ 9223372036854775807 := by have : p.slots.length ≤ 9223372036854775807 := hv.slots.2.1; omega
 obtain ⟨q3, k3, e3⟩ := hv.tasks.1.slice
 have m3 : (p.tasks.length : Int) ≤ 9223372036854775807 := by have : p.tasks.length ≤ 9223372036854775807 := hv.tasks.2.1; omega
 obtain ⟨q4, k4, e4⟩ := hv.lines.slice
 have m4 : (p.lines.length : Int) ≤ 9223372036854775807 := by obtain ⟨_, _, _, _, _, _, _, h⟩ := hv.lines; have : p.lines.length ≤ 9223372036854775807 := h; omega
 obtain ⟨q5, k5, e5⟩ := raw_slice hv.bits.1
 have m5 : (p.bits.length : Int) ≤ 9223372036854775807 := by have : p.bits.length ≤ 9223372036854775807 := hv.bits.2; omega
 obtain ⟨q6, k6, e6⟩ := raw_slice hv.cores.1
 have m6 : (p.cores.length : Int) ≤ 9223372036854775807 := by have : p.cores.length ≤ 9223372036854775807 := hv.cores.2; omega
 obtain ⟨q7, k7, e7⟩ := hv.ready.slice
 have m7 : (p.ready.length : Int) ≤ 9223372036854775807 := by obtain ⟨_, _, _, _, _, _, _, h⟩ := hv.ready; have : p.ready.length ≤ 9223372036854775807 := h; omega
 obtain ⟨q8, k8, e8⟩ := hv.tlbs.slice
 have m8 : (p.tlbs.length : Int) ≤ 9223372036854775807 := by obtain ⟨_, _, _, _, _, _, _, h⟩ := hv.tlbs; have : p.tlbs.length ≤ 9223372036854775807 := h; omega
 obtain ⟨q9, k9, e9⟩ := raw_slice hv.doms.1
 have m9 : (p.doms.length : Int) ≤ 9223372036854775807 := by have : p.doms.length ≤ 9223372036854775807 := hv.doms.2; omega
 have C0 := cells_new w (arr11 V) 28
 have B0 := hid (bal (Below.refl w.heap.size w) (.cells (arr11 V) 28))
 clear hv
 by_cases h0 : 1000 < p.ram.length
 ·have t0 : (1000 : Int) < (p.ram.length : Int) := by omega
  have HT := hid (huge_t (p := p) (fun hs => by have := hs.ram; omega))
  go_enter Tryz.func7, Tryz.ntmps7
  go_wp2_with fail
  go_ret
  exact ⟨by rw [HT.out]; rfl, B0.out⟩
 ·have t0 : ¬ ((1000 : Int) < (p.ram.length : Int)) := by omega
  by_cases h1 : 100 < p.kinds.length
  ·have t1 : (100 : Int) < (p.kinds.length : Int) := by omega
   have HT := hid (huge_t (p := p) (fun hs => by have := hs.kinds; omega))
   go_enter Tryz.func7, Tryz.ntmps7
   go_wp2_with fail
   go_ret
   exact ⟨by rw [HT.out]; rfl, B0.out⟩
  ·have t1 : ¬ ((100 : Int) < (p.kinds.length : Int)) := by omega
   by_cases h2 : 1000 < p.slots.length
   ·have t2 : (1000 : Int) < (p.slots.length : Int) := by omega
    have HT := hid (huge_t (p := p) (fun hs => by have := hs.slots; omega))
    go_enter Tryz.func7, Tryz.ntmps7
    go_wp2_with fail
    go_ret
    exact ⟨by rw [HT.out]; rfl, B0.out⟩
   ·have t2 : ¬ ((1000 : Int) < (p.slots.length : Int)) := by omega
    by_cases h3 : 100 < p.tasks.length
    ·have t3 : (100 : Int) < (p.tasks.length : Int) := by omega
     have HT := hid (huge_t (p := p) (fun hs => by have := hs.tasks; omega))
     go_enter Tryz.func7, Tryz.ntmps7
     go_wp2_with fail
     go_ret
     exact ⟨by rw [HT.out]; rfl, B0.out⟩
    ·have t3 : ¬ ((100 : Int) < (p.tasks.length : Int)) := by omega
     by_cases h4 : 100 < p.lines.length
     ·have t4 : (100 : Int) < (p.lines.length : Int) := by omega
      have HT := hid (huge_t (p := p) (fun hs => by have := hs.lines; omega))
      go_enter Tryz.func7, Tryz.ntmps7
      go_wp2_with fail
      go_ret
      exact ⟨by rw [HT.out]; rfl, B0.out⟩
     ·have t4 : ¬ ((100 : Int) < (p.lines.length : Int)) := by omega
      by_cases h5 : 100 < p.bits.length
      ·have t5 : (100 : Int) < (p.bits.length : Int) := by omega
       have HT := hid (huge_t (p := p) (fun hs => by have := hs.bits; omega))
       go_enter Tryz.func7, Tryz.ntmps7
       go_wp2_with fail
       go_ret
       exact ⟨by rw [HT.out]; rfl, B0.out⟩
      ·have t5 : ¬ ((100 : Int) < (p.bits.length : Int)) := by omega
       by_cases h6 : 50 < p.cores.length
       ·have t6 : (50 : Int) < (p.cores.length : Int) := by omega
        have HT := hid (huge_t (p := p) (fun hs => by have := hs.cores; omega))
        go_enter Tryz.func7, Tryz.ntmps7
        go_wp2_with fail
        go_ret
        exact ⟨by rw [HT.out]; rfl, B0.out⟩
       ·have t6 : ¬ ((50 : Int) < (p.cores.length : Int)) := by omega
        by_cases h7 : 100 < p.ready.length
        ·have t7 : (100 : Int) < (p.ready.length : Int) := by omega
         have HT := hid (huge_t (p := p) (fun hs => by have := hs.ready; omega))
         go_enter Tryz.func7, Tryz.ntmps7
         go_wp2_with fail
         go_ret
         exact ⟨by rw [HT.out]; rfl, B0.out⟩
        ·have t7 : ¬ ((100 : Int) < (p.ready.length : Int)) := by omega
         by_cases h8 : 50 < p.tlbs.length
         ·have t8 : (50 : Int) < (p.tlbs.length : Int) := by omega
          have HT := hid (huge_t (p := p) (fun hs => by have := hs.tlbs; omega))
          go_enter Tryz.func7, Tryz.ntmps7
          go_wp2_with fail
          go_ret
          exact ⟨by rw [HT.out]; rfl, B0.out⟩
         ·have t8 : ¬ ((50 : Int) < (p.tlbs.length : Int)) := by omega
          by_cases h9 : 50 < p.doms.length
          ·have t9 : (50 : Int) < (p.doms.length : Int) := by omega
           have HT := hid (huge_t (p := p) (fun hs => by have := hs.doms; omega))
           go_enter Tryz.func7, Tryz.ntmps7
           go_wp2_with fail
           go_ret
           exact ⟨by rw [HT.out]; rfl, B0.out⟩
          ·have t9 : ¬ ((50 : Int) < (p.doms.length : Int)) := by omega
           go_enter Tryz.func7, Tryz.ntmps7
           go_wp2_with fail
           generalize World.alloc _ _ = W0 at C0 B0 ⊢
           go_loopw [3] (fun i wr => ∃ k : Nat, k ≤ p.lines.length ∧ i = .int .i64 k ∧ Hid (∀ j (hj : j < p.lines.length), j < k → p.lines[j].length ≤ 50) ∧ Hid (W0 = wr)) (fun i _ => p.lines.length - (intOf i).toNat)
           case atStart => exact ⟨0, by omega, rfl, hid fun j _ h => by omega, hid rfl⟩
           case round =>
            obtain ⟨k, hk, rfl, HE, HW⟩ := hrel
            obtain rfl := HW.out
            clear HW
            by_cases hlt : k < p.lines.length
            ·have hlt2 : (k : Int) < (p.lines.length : Int) := by omega
             obtain ⟨q, b, off, cap, g1, g2, g3, g4⟩ := HV.out.lines
             obtain rfl := g2 (by omega)
             obtain ⟨x, hx, hxr⟩ := g3 k hlt
             obtain ⟨qx, cx, ex, hlen⟩ : ∃ (qx : Option Addr) (cx : Nat), x = .slice qx p.lines[k].length cx ∧ p.lines[k].length ≤ maxLen := by obtain ⟨⟨qx, bx, ox, cx, h1, _⟩, h2⟩ := hxr; exact ⟨qx, cx, h1, h2⟩
             have hxb := (B0.out.cell (World.block_lt_of_cell? _ _ hx)).trans hx
             have g5 := e4.symm.trans g1
             injection g5 with i1 i2 i3
             subst i1 i3
             have HA := hid (fun j (hj : j < p.lines.length) (h1 : j < k + 1) (h2 : p.lines[k].length ≤ 50) => show p.lines[j].length ≤ 50 from by
              by_cases e : j = k
              ·subst e; exact h2
              ·exact HE.out j hj (by omega))
             have HM := hid (List.getElem_mem hlt)
             generalize p.lines[k] = z at HA HM ex hlen
             subst ex
             have lz : (z.length : Int) ≤ 9223372036854775807 := by have : z.length ≤ 9223372036854775807 := hlen; omega
             clear g1 g2 g3 g4 hx hxr i2
             by_cases hz : 50 < z.length
             ·have hz2 : (50 : Int) < (z.length : Int) := by omega
              have HT := hid (huge_t (p := p) (fun hs => by have := hs.line z HM.out; omega))
              go_wp2_with fail
              go_ret
              exact ⟨by rw [HT.out]; rfl, B0.out⟩
             ·have hz2 : ¬ ((50 : Int) < (z.length : Int)) := by omega
              have HN := hid (fun j hj h1 => HA.out j hj h1 (by omega))
              go_wp2_with fail
              exact ⟨⟨k + 1, by omega, by go_num, HN, hid trivial⟩, by simp [intOf]; omega⟩
            ·obtain rfl : k = p.lines.length := by omega
             have hge : ¬ ((p.lines.length : Int) < (p.lines.length : Int)) := by omega
             have Elines := HE
             clear HE
             go_wp2_with fail
             go_loopw [4] (fun i wr => ∃ k : Nat, k ≤ p.ready.length ∧ i = .int .i64 k ∧ Hid (∀ j (hj : j < p.ready.length), j < k → p.ready[j].length ≤ 50) ∧ Hid (W0 = wr)) (fun i _ => p.ready.length - (intOf i).toNat)
             case atStart => exact ⟨0, by omega, rfl, hid fun j _ h => by omega, hid rfl⟩
             case round =>
              obtain ⟨k, hk, rfl, HE, HW⟩ := hrel
              obtain rfl := HW.out
              clear HW
              by_cases hlt : k < p.ready.length
              ·have hlt2 : (k : Int) < (p.ready.length : Int) := by omega
               obtain ⟨q, b, off, cap, g1, g2, g3, g4⟩ := HV.out.ready
               obtain rfl := g2 (by omega)
               obtain ⟨x, hx, hxr⟩ := g3 k hlt
               obtain ⟨qx, cx, ex, hlen⟩ : ∃ (qx : Option Addr) (cx : Nat), x = .slice qx p.ready[k].length cx ∧ p.ready[k].length ≤ maxLen := by obtain ⟨⟨qx, bx, ox, cx, h1, _⟩, h2⟩ := hxr; exact ⟨qx, cx, h1, h2⟩
               have hxb := (B0.out.cell (World.block_lt_of_cell? _ _ hx)).trans hx
               have g5 := e7.symm.trans g1
               injection g5 with i1 i2 i3
               subst i1 i3
               have HA := hid (fun j (hj : j < p.ready.length) (h1 : j < k + 1) (h2 : p.ready[k].length ≤ 50) => show p.ready[j].length ≤ 50 from by
                by_cases e : j = k
                ·subst e; exact h2
                ·exact HE.out j hj (by omega))
               have HM := hid (List.getElem_mem hlt)
               generalize p.ready[k] = z at HA HM ex hlen
               subst ex
               have lz : (z.length : Int) ≤ 9223372036854775807 := by have : z.length ≤ 9223372036854775807 := hlen; omega
               clear g1 g2 g3 g4 hx hxr i2
               by_cases hz : 50 < z.length
               ·have hz2 : (50 : Int) < (z.length : Int) := by omega
                have HT := hid (huge_t (p := p) (fun hs => by have := hs.next z HM.out; omega))
                go_wp2_with fail
                go_ret
                exact ⟨by rw [HT.out]; rfl, B0.out⟩
               ·have hz2 : ¬ ((50 : Int) < (z.length : Int)) := by omega
                have HN := hid (fun j hj h1 => HA.out j hj h1 (by omega))
                go_wp2_with fail
                exact ⟨⟨k + 1, by omega, by go_num, HN, hid trivial⟩, by simp [intOf]; omega⟩
              ·obtain rfl : k = p.ready.length := by omega
               have hge : ¬ ((p.ready.length : Int) < (p.ready.length : Int)) := by omega
               have Eready := HE
               clear HE
               go_wp2_with fail
               go_loopw [5] (fun i wr => ∃ k : Nat, k ≤ p.tlbs.length ∧ i = .int .i64 k ∧ Hid (∀ j (hj : j < p.tlbs.length), j < k → p.tlbs[j].length ≤ 50) ∧ Hid (W0 = wr)) (fun i _ => p.tlbs.length - (intOf i).toNat)
               case atStart => exact ⟨0, by omega, rfl, hid fun j _ h => by omega, hid rfl⟩
               case round =>
                obtain ⟨k, hk, rfl, HE, HW⟩ := hrel
                obtain rfl := HW.out
                clear HW
                by_cases hlt : k < p.tlbs.length
                ·have hlt2 : (k : Int) < (p.tlbs.length : Int) := by omega
                 obtain ⟨q, b, off, cap, g1, g2, g3, g4⟩ := HV.out.tlbs
                 obtain rfl := g2 (by omega)
                 obtain ⟨x, hx, hxr⟩ := g3 k hlt
                 obtain ⟨qx, cx, ex, hlen⟩ : ∃ (qx : Option Addr) (cx : Nat), x = .slice qx p.tlbs[k].length cx ∧ p.tlbs[k].length ≤ maxLen := by obtain ⟨⟨qx, bx, ox, cx, h1, _, _, h2⟩, _⟩ := hxr; exact ⟨qx, cx, h1, h2⟩
                 have hxb := (B0.out.cell (World.block_lt_of_cell? _ _ hx)).trans hx
                 have g5 := e8.symm.trans g1
                 injection g5 with i1 i2 i3
                 subst i1 i3
                 have HA := hid (fun j (hj : j < p.tlbs.length) (h1 : j < k + 1) (h2 : p.tlbs[k].length ≤ 50) => show p.tlbs[j].length ≤ 50 from by
                  by_cases e : j = k
                  ·subst e; exact h2
                  ·exact HE.out j hj (by omega))
                 have HM := hid (List.getElem_mem hlt)
                 generalize p.tlbs[k] = z at HA HM ex hlen
                 subst ex
                 have lz : (z.length : Int) ≤ 9223372036854775807 := by have : z.length ≤ 9223372036854775807 := hlen; omega
                 clear g1 g2 g3 g4 hx hxr i2
                 by_cases hz : 50 < z.length
                 ·have hz2 : (50 : Int) < (z.length : Int) := by omega
                  have HT := hid (huge_t (p := p) (fun hs => by have := hs.tlb z HM.out; omega))
                  go_wp2_with fail
                  go_ret
                  exact ⟨by rw [HT.out]; rfl, B0.out⟩
                 ·have hz2 : ¬ ((50 : Int) < (z.length : Int)) := by omega
                  have HN := hid (fun j hj h1 => HA.out j hj h1 (by omega))
                  go_wp2_with fail
                  exact ⟨⟨k + 1, by omega, by go_num, HN, hid trivial⟩, by simp [intOf]; omega⟩
                ·obtain rfl : k = p.tlbs.length := by omega
                 have hge : ¬ ((p.tlbs.length : Int) < (p.tlbs.length : Int)) := by omega
                 have Etlbs := HE
                 clear HE
                 go_wp2_with fail
                 go_ret
                 exact ⟨by rw [huge_f (p := p) ⟨by omega, by omega, by omega, by omega, by omega, by omega, by omega, by omega, by omega, by omega, mem_le Elines.out, mem_le Eready.out, mem_le Etlbs.out⟩]; rfl, B0.out⟩
end Go.Proofs.YtoebmjgkfkfhjaaGreatDoor.Wd
