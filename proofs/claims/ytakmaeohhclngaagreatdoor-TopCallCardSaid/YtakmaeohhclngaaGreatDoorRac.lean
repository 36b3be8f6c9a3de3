/- Worlds in memory: rows of numbers, of lists, of slots and tasks; keyholdref.SameAll, where both are the same lists. · math/bits.Mul of one and a small number, walked. · copy of elements of many cells; slices.Repeat of one element, walked. · slices.Repeat of one slot, of one task, of one number. · slices.Clone over entries, walked. · Plain facts on instructions: which may be, and their two words. · The document's answers on instructions (keyholdref.Has, InsMay, CodeOf, InsOf), walked. · Small parts of new worlds: a task that is none, ranges, the first domain that is none, copies of numbers. · A region that draws its order, whose first operations only make new memory: whatever order they come in, each leaves a value of which its own condition holds, in a world that has grown. · Rows that make() makes; a copy of numbers; new worlds, plain. -/
import Derived.Deep.RegionHeld3
import Derived.Deep.RegionLaw
import Derived.Laws.MakeOwn
import Derived.Lib.SliceRun
import Derived.Test.YtakmaeohhclngaaGreatDoorChecked
import Derived.Deep.RegionWith
import Derived.Test.YtakmaeohhclngaaGreatDoorRab
import Derived.Test.YtakmaeohhclngaaGreatDoorRaa
namespace Go.Proofs.YtakmaeohhclngaaGreatDoor.Wd
open Go.RowKit Go.Proofs.YtakmaeohhclngaaGreatDoor.Mem Go.Proofs.YtakmaeohhclngaaGreatDoor.Bw Go.Proofs.YtakmaeohhclngaaGreatDoor.Nums Go.Proofs.YtakmaeohhclngaaGreatDoor.Mmu
/-- So many numbers, as cells. -/
def cf (n : Nat) (f : Nat → Int) : List Value := (List.range n).map fun k => .int .i64 (f k)
theorem cf_len (n : Nat) (f : Nat → Int) : (cf n f).length = n := by simp [cf]
theorem cf_at (n : Nat) (f : Nat → Int) (k : Nat) (h : k < n) : (cf n f)[k]? = some (.int .i64 (f k)) := by simp [cf, h]
theorem cf_one (n : Nat) (f : Nat → Int) : ∀ v ∈ cf n f, v.oneCell' = true := by
 intro v hv
 obtain ⟨k, _, rfl⟩ := List.mem_map.1 hv
 rfl
theorem range_belowO {w w' : World} {b o : Nat} {cs : List Value} (h : w.rangeAt b o cs) (hb : Below w.heap.size w w') : w'.rangeAt b o cs := fun j v hv => by
 have := h j v hv
 exact (hb.cell (World.block_lt_of_cell? _ _ this)).trans this
/-- A list of numbers as a slice. -/
def IntsIn (w : World) (v : Value) (zs : List Int) : Prop := ∃ q b off cap, v = .slice q zs.length cap ∧ (0 < zs.length → q = some ⟨b, off, none⟩) ∧ IntsAt w b off zs
theorem IntsIn.below {w w' : World} {v : Value} {zs : List Int} (h : IntsIn w v zs) (hb : Below w.heap.size w w') : IntsIn w' v zs := by
 obtain ⟨q, b, off, cap, h1, h2, h3⟩ := h
 exact ⟨q, b, off, cap, h1, h2, h3.below hb⟩
/-- Lists of numbers. -/
def ListsIn (w : World) (v : Value) (ls : List (List Int)) : Prop := ∃ q b off cap, v = .slice q ls.length cap ∧ (0 < ls.length → q = some ⟨b, off, none⟩) ∧ ∀ j (h : j < ls.length), ∃ x, w.cell? ⟨b, off + j, none⟩ = some x ∧ IntsIn w x ls[j]
theorem ListsIn.below {w w' : World} {v : Value} {ls : List (List Int)} (h : ListsIn w v ls) (hb : Below w.heap.size w w') : ListsIn w' v ls := by
 obtain ⟨q, b, off, cap, h1, h2, h3⟩ := h
 refine ⟨q, b, off, cap, h1, h2, fun j hj => ?_⟩
 obtain ⟨x, hx, hi⟩ := h3 j hj
 exact ⟨x, (hb.cell (World.block_lt_of_cell? _ _ hx)).trans hx, hi.below hb⟩
/-- A slice has room for what is in it. -/
def RoomV : Value → Prop
 | .slice _ n cap => n ≤ cap
 | _ => True
/-- Lists of entries. -/
def TlbsIn (w : World) (v : Value) (ls : List (List Ent)) : Prop := ∃ q b off cap, v = .slice q ls.length cap ∧ (0 < ls.length → q = some ⟨b, off, none⟩) ∧ ∀ j (h : j < ls.length), ∃ x, w.cell? ⟨b, off + j, none⟩ = some x ∧ TlbIn w x ls[j] ∧ RoomV x
theorem TlbsIn.below {w w' : World} {v : Value} {ls : List (List Ent)} (h : TlbsIn w v ls) (hb : Below w.heap.size w w') : TlbsIn w' v ls := by
 obtain ⟨q, b, off, cap, h1, h2, h3⟩ := h
 refine ⟨q, b, off, cap, h1, h2, fun j hj => ?_⟩
 obtain ⟨x, hx, hi⟩ := h3 j hj
 exact ⟨x, (hb.cell (World.block_lt_of_cell? _ _ hx)).trans hx, hi.1.below hb, hi.2⟩
/-- Structs of n numbers each. -/
def RowsIn (n : Nat) (w : World) (v : Value) (fs : List (Nat → Int)) : Prop := ∃ q b off cap, v = .slice q fs.length cap ∧ (0 < fs.length → q = some ⟨b, off, none⟩) ∧ ∀ j (h : j < fs.length), w.rangeAt b (off + j * n) (cf n fs[j])
theorem RowsIn.below {n : Nat} {w w' : World} {v : Value} {fs : List (Nat → Int)} (h : RowsIn n w v fs) (hb : Below w.heap.size w w') : RowsIn n w' v fs := by
 obtain ⟨q, b, off, cap, h1, h2, h3⟩ := h
 exact ⟨q, b, off, cap, h1, h2, fun j hj => range_belowO (h3 j hj) hb⟩
/-- A world, plain. -/
structure PW where
 ram : List Int
 kinds : List Int
 slots : List (Nat → Int)
 tasks : List (Nat → Int)
 lines : List (List Int)
 bits : List Int
 cores : List Int
 ready : List (List Int)
 tlbs : List (List Ent)
 doms : List Int
 time : Int
/-- Its lists are not huge. -/
structure PW.Fits (p : PW) : Prop where
 ram : p.ram.length ≤ 1000
 kinds : p.kinds.length ≤ 1000
 slots : p.slots.length ≤ 1000
 tasks : p.tasks.length ≤ 1000
 lines : p.lines.length ≤ 1000
 line : ∀ l ∈ p.lines, l.length ≤ 1000
 bits : p.bits.length ≤ 1000
 cores : p.cores.length ≤ 1000
 ready : p.ready.length ≤ 1000
 next : ∀ l ∈ p.ready, l.length ≤ 1000
 tlbs : p.tlbs.length ≤ 1000
 doms : p.doms.length ≤ 1000
/-- A world's eleven values. -/
structure WorldV (w : World) (v : Nat → Value) (p : PW) : Prop where
 ram : IntsIn w (v 0) p.ram
 kinds : IntsIn w (v 1) p.kinds
 slots : RowsIn 7 w (v 2) p.slots
 tasks : RowsIn 20 w (v 3) p.tasks
 lines : ListsIn w (v 4) p.lines
 bits : IntsIn w (v 5) p.bits
 cores : IntsIn w (v 6) p.cores
 ready : ListsIn w (v 7) p.ready
 tlbs : TlbsIn w (v 8) p.tlbs
 doms : IntsIn w (v 9) p.doms
 time : v 10 = .int .i64 p.time
theorem WorldV.below {w w' : World} {v : Nat → Value} {p : PW} (h : WorldV w v p) (hb : Below w.heap.size w w') : WorldV w' v p :=
 ⟨h.ram.below hb, h.kinds.below hb, h.slots.below hb, h.tasks.below hb, h.lines.below hb, h.bits.below hb, h.cores.below hb, h.ready.below hb, h.tlbs.below hb, h.doms.below hb, h.time⟩
end Go.Proofs.YtakmaeohhclngaaGreatDoor.Wd
namespace Go.Proofs.YtakmaeohhclngaaGreatDoor.Wd
open Go.RowKit Go.Proofs.YtakmaeohhclngaaGreatDoor.Mem Go.Proofs.YtakmaeohhclngaaGreatDoor.Bw Go.Proofs.YtakmaeohhclngaaGreatDoor.Nums Go.Proofs.YtakmaeohhclngaaGreatDoor.Mmu
/-- So many times the same cells. -/
def rep (t : Nat) (c : List Value) : List Value := (List.replicate t c).flatten
theorem rep_succ (t : Nat) (c : List Value) : rep (t + 1) c = c ++ rep t c := by simp [rep, List.replicate_succ]
theorem rep_len (t : Nat) (c : List Value) : (rep t c).length = t * c.length := by
 induction t with
 | zero => simp [rep]
 | succ t ih => rw [rep_succ, List.length_append, ih, Nat.succ_mul]; omega
theorem rep_at (t : Nat) (c : List Value) (i k : Nat) (hi : i < t) (hk : k < c.length) : (rep t c)[i * c.length + k]? = c[k]? := by
 induction t generalizing i with
 | zero => omega
 | succ t ih =>
  rw [rep_succ]
  cases i with
  | zero => rw [Nat.zero_mul, Nat.zero_add, List.getElem?_append_left hk]
  | succ i =>
   rw [List.getElem?_append_right (by rw [Nat.succ_mul]; omega), ← ih i (by omega)]
   congr 1
   rw [Nat.succ_mul]
   omega
/-- A row of N elements that can be written, of which the first m are the same one. -/
structure Rep (B N : Nat) (c : List Value) (m : Nat) (w : World) : Prop where
 there : w.there B 0 (N * c.length)
 got : ∀ j, j < m → w.rangeAt B (j * c.length) c
theorem Rep.src {B N m t : Nat} {c : List Value} {w : World} (h : Rep B N c m w) (hc : 0 < c.length) (ht : t ≤ m) : ∀ j v, (rep t c)[j]? = some v → w.cell? ⟨B, j, none⟩ = some v := by
 intro j v hv
 have hl := (List.getElem?_eq_some_iff.1 hv).1
 rw [rep_len] at hl
 have e : j = j / c.length * c.length + j % c.length := by rw [Nat.mul_comm]; exact (Nat.div_add_mod _ _).symm
 have h1 : j / c.length < t := Nat.div_lt_of_lt_mul (by rw [Nat.mul_comm]; exact hl)
 have h2 : j % c.length < c.length := Nat.mod_lt _ hc
 rw [e, rep_at t c _ _ h1 h2] at hv
 have := h.got (j / c.length) (by omega) (j % c.length) v hv
 rw [e]
 exact this
theorem Rep.more {B N m t : Nat} {c : List Value} {w : World} (h : Rep B N c m w) (ht : m + t ≤ N) : Rep B N c (m + t) (w.setCells B (m * c.length) (rep t c)) := by
 have hle : m * c.length + t * c.length ≤ N * c.length := by rw [← Nat.add_mul]; exact Nat.mul_le_mul_right _ ht
 have hthere : w.there B (m * c.length) (rep t c).length := fun j hj => by
  rw [rep_len] at hj
  have := h.there (m * c.length + j) (by omega)
  rwa [Nat.zero_add] at this
 refine ⟨World.there_setCells h.there _ _ _, fun j hj k v hk => ?_⟩
 have hkl := (List.getElem?_eq_some_iff.1 hk).1
 rcases Nat.lt_or_ge j m with h1 | h1
 ·have h2 : j * c.length + c.length ≤ m * c.length := by rw [← Nat.succ_mul]; exact Nat.mul_le_mul_right _ h1
  rw [World.cell?_setCells_out B (rep t c) (m * c.length) w ⟨B, j * c.length + k, none⟩ (fun _ _ => Or.inl (by simp only; omega))]
  exact h.got j h1 k v hk
 ·have hs := World.rangeAt_setCells_same w B (m * c.length) (rep t c) hthere
  have := hs ((j - m) * c.length + k) v (by rw [rep_at t c (j - m) k (by omega) hkl]; exact hk)
  have e : m * c.length + ((j - m) * c.length + k) = j * c.length + k := by
   rw [← Nat.add_assoc, ← Nat.add_mul]
   congr 2
   omega
  rwa [e] at this
theorem below_setCells {w w' : World} (h : Below w.heap.size w w') {b : Nat} (hb : w.heap.size ≤ b) : ∀ (vs : List Value) (o : Nat), Below w.heap.size w (w'.setCells b o vs)
 | [], _ => h
 | v :: r, o => by
  rw [World.setCells]
  exact below_setCells (bset h hb v) hb r (o + 1)
theorem make_row {T E : TypeId} {z : Value} {sz bytes : Nat} (hT : Tryz.prog.underlying T = some (.slice E)) (hinfo : (Tryz.prog.info? E).map (fun i => (i.zero, i.size, i.bytes)) = some (some z, sz, bytes)) (hsz : sz ≤ 100) (hby : bytes ≤ 1000) (n : Nat) (hn : n ≤ 1000) (w : World) :
  (Instr.makeSlice T (.int .i64 n) (.int .i64 n)).run Tryz.prog w = .ok (.slice (some ⟨w.heap.size, 0, none⟩) n n) (w.alloc (.cells (madeCells z.cells (n * sz)) E)) := by
 obtain ⟨i0, hi, hz0, hz1, hz2⟩ := info_get hinfo
 have h1 : n * i0.size ≤ 1000 * 100 := by rw [hz1]; exact Nat.mul_le_mul hn hsz
 have h2 : i0.bytes * n ≤ 1000 * 1000 := by rw [hz2]; exact Nat.mul_le_mul hby hn
 have hr := run_makeSlice (P := Tryz.prog) w T E i0 z hT hi hz0 .i64 .i64 n n (by omega) (Int.le_refl _) (by simp only [Int.toNat_natCast]; omega) (by
  have : ((i0.bytes * n : Nat) : Int) ≤ 281474976710656 := by omega
  rwa [Int.natCast_mul] at this) (by omega)
 simp only [Int.toNat_natCast] at hr
 rw [hz1] at hr
 exact hr
end Go.Proofs.YtakmaeohhclngaaGreatDoor.Wd
namespace Go.Proofs.YtakmaeohhclngaaGreatDoor.Mmu
open Go.RowKit Go.Proofs.YtakmaeohhclngaaGreatDoor.Mem Go.Proofs.YtakmaeohhclngaaGreatDoor.Bw Go.Proofs.YtakmaeohhclngaaGreatDoor.Nums
theorem add_none (b off j : Nat) : (⟨b, off, none⟩ : Addr).add j = ⟨b, off + j, none⟩ := by
 unfold Addr.add
 split <;> simp_all
theorem ents_cells {w : World} {b off : Nat} {l : List Ent} (h : EntsAt w b off l) : ∀ (j : Nat) (u : Value), (cellsE l)[j]? = some u → w.cell? ((⟨b, off, none⟩ : Addr).add j) = some u := by
 intro j u hj
 have hlt : j < (cellsE l).length := (List.getElem?_eq_some_iff.1 hj).1
 rw [cellsE_len] at hlt
 rw [add_none]
 have hk : j / 4 < l.length := by omega
 obtain ⟨a0, a1, a2, a3⟩ := h _ hk
 obtain ⟨e0, e1, e2, e3⟩ := cellsE_at l _ hk
 have hm : j = j / 4 * 4 ∨ j = j / 4 * 4 + 1 ∨ j = j / 4 * 4 + 2 ∨ j = j / 4 * 4 + 3 := by omega
 rcases hm with hm | hm | hm | hm
 ·rw [hm] at hj ⊢; rw [← hj, e0]; exact a0
 ·rw [hm] at hj ⊢; rw [← hj, e1, ← a1]; rfl
 ·rw [hm] at hj ⊢; rw [← hj, e2, ← a2]; rfl
 ·rw [hm] at hj ⊢; rw [← hj, e3, ← a3]; rfl
theorem cellsE_one (l : List Ent) : ∀ u ∈ cellsE l, u.oneCell' = true := by
 intro u hu
 obtain ⟨q, _, hq⟩ := List.mem_flatMap.1 hu
 exact fourE_cell _ _ _ _ u hq
set_option maxHeartbeats 4000000 in
theorem clone_any (v : Value) (l : List Ent) (w : World) (hv : TlbIn w v l) :
  Calls Tryz.prog 129 #[v] w fun r w' => ∃ u, r = .returned u ∧ w'.ownsRow w.heap.size 143 4 u l.length (cellsE l) ∧ Below w.heap.size w w' := by
 obtain ⟨i0, hi, hz0, hz1, hz2⟩ := info_get infoEnt
 have qn : ∀ (w : World) (a : Option Addr) (n c n' c' : Nat), (binOp .eql 135 (.slice a n c) (.slice none n' c')).run Tryz.prog w = .ok (.bool a.isNone) w := fun w a n c n' c' => Lib.run_eql_slice_nil w _ _ a n c n' c' Tryz.underlying135
 obtain ⟨q, b, off, cap, rfl, hq, hz, hl⟩ := hv
 have HQ := hid hq
 have HZ := hid hz
 clear hq hz
 cases q with
 | none =>
  have h0 : l = [] := by
   cases l with
   | nil => rfl
   | cons x l => have := HQ.out (by simp); cases this
  subst h0
  go_enter Tryz.func129, Tryz.ntmps129
  go_wp2_with fail
  go_ret
  exact ⟨_, rfl, World.ownsRow_nil _ _ _ _, Below.refl _ _⟩
 | some ad =>
  have HN := hid (show ∀ (W : World), Below w.heap.size w W → ∀ (j : Nat) (u : Value), (cellsE l)[j]? = some u → W.cell? (ad.add j) = some u from fun W hb => by
   by_cases h0 : 0 < l.length
   ·have := HQ.out h0
    cases this
    exact ents_cells (HZ.out.below hb)
   ·intro j u hj
    have : l = [] := by
     cases l with
     | nil => rfl
     | cons x l => simp at h0
    rw [this] at hj
    simp [cellsE] at hj)
  have HL := hid (cellsE_len l)
  have HC := hid (cellsE_one l)
  have hl2 : l.length ≤ maxLen := by unfold maxLen; omega
  have B0 := hid (bal (Below.refl w.heap.size w) (.cells #[] 143))
  have O0 := hid (World.ownsRow_made (base := w.heap.size) (e := 143) (size := 4) w #[] 0 (Nat.le_refl _) (Nat.zero_le _) (by simp))
  generalize cellsE l = cs at *
  go_enter Tryz.func129, Tryz.ntmps129
  go_wp2_with (at_builtin; refine wpList_append_own _ rfl _ _ 135 rfl w.heap.size 143 i0 (.agg #[.int .i64 0, .int .i64 0, .int .i64 0, .bool false]) 4 32 Tryz.underlying135 hi hz0 hz1 hz2 rfl (by decide) _ _ _ rfl O0.out ad l.length cap cs rfl HL.out (HN.out _ B0.out) HC.out (by omega) (by omega) (by simp) ?_; intro v' w5 hown' hgrow _; have B5 := hid (B0.out.grown hgrow (by simp) (fun k hk => (O0.out.lt k hk).1)); have O5 := hid hown'; clear hown' hgrow)
  go_ret
  refine ⟨_, rfl, ?_, B5.out⟩
  have := O5.out
  rw [Nat.zero_add, List.nil_append] at this
  exact this
end Go.Proofs.YtakmaeohhclngaaGreatDoor.Mmu
namespace Go.Proofs.YtakmaeohhclngaaGreatDoor
namespace IP
def hA (o : Int) : Bool := !decide (o = 0 ∨ o = 12 ∨ o = 14)
def hB (o : Int) : Bool := !decide (o = 0 ∨ o = 1 ∨ o = 13 ∨ o = 12 ∨ o = 14)
def hC (o : Int) : Bool := decide (o = 1 ∨ o = 13 ∨ o = 10 ∨ o = 11 ∨ o = 12 ∨ o = 14)
def fitB (v : Int) (has : Bool) (lo hi : Int) : Bool := if has = true then decide (lo ≤ v ∧ v ≤ hi) else decide (v = 0)
def may (o a b i : Int) : Int :=
 if o < 0 ∨ 14 < o then 1
 else if fitB a (hA o) 0 7 = true ∧ fitB b (hB o) 0 7 = true ∧ fitB i (hC o) (-32768) 32767 = true then 0 else 2
def c0 (o a b : Int) : Int := o * 256 + a * 16 + b
def c1 (i : Int) : Int := if i < 0 then i + 65536 else i
def word (x y : Int) : Prop := 0 ≤ x ∧ x ≤ 65535 ∧ 0 ≤ y ∧ y ≤ 65535
end IP
end Go.Proofs.YtakmaeohhclngaaGreatDoor
namespace Go.Proofs.YtakmaeohhclngaaGreatDoor.Isa
open Go.RowKit Go.Proofs.YtakmaeohhclngaaGreatDoor.Mem
theorem far_any (v most : Int) (w : World) :
  Calls Tryz.prog 104 #[.int .i64 v, .int .i64 most] w fun e w' => e = .returned (.bool (decide (v < 0 ∨ most < v))) ∧ w = w' := by
 go_enter Tryz.func104, Tryz.ntmps104
 go_wp2
 all_goals
  go_ret
  exact ⟨ret_bool (by first | rfl | simp | (rw [Bool.eq_iff_iff]; simp; omega)), rfl⟩
end Go.Proofs.YtakmaeohhclngaaGreatDoor.Isa
namespace Go.Proofs.YtakmaeohhclngaaGreatDoor.Wd
open Go.RowKit Go.Proofs.YtakmaeohhclngaaGreatDoor.Mem Go.Proofs.YtakmaeohhclngaaGreatDoor.Bw Go.Proofs.YtakmaeohhclngaaGreatDoor.Nums Go.Proofs.YtakmaeohhclngaaGreatDoor.Mmu
/-- A task that is none. -/
def bl (k : Nat) : Int := [0, 0, 0, 0, 0, 0, 0, 0, 0, 0, 0, -1, -1, -1, -1, 0, 0, -1, 0, 0].getD k 0
theorem blank_ref (w : World) : Calls Tryz.prog 105 #[] w fun e w' => e = .returned (.agg (cf 20 bl).toArray) ∧ Below w.heap.size w w' := by
 have R0 := hid (there_new w #[.int .i64 0, .int .i64 0, .int .i64 0, .int .i64 0, .int .i64 0, .int .i64 0, .int .i64 0, .int .i64 0, .int .i64 0, .int .i64 0, .int .i64 0, .int .i64 0, .int .i64 0, .int .i64 0, .int .i64 0, .int .i64 0, .int .i64 0, .int .i64 0, .int .i64 0, .int .i64 0] 41 w.heap.size 20 rfl (by decide))
 go_enter Tryz.func105, Tryz.ntmps105
 go_wp2_with (first
  | ((with_reducible (show wpList _ _ _ (⟨_, Op.store 41 _ _, _, _, _, _⟩ :: _) _ _)); refine wp_st rfl _ _ rfl _ rfl (cf 20 bl) rfl (cf_len _ _) (cf_one _ _) R0.out ?_; have E := hid (World.rangeAt_setCells_same _ w.heap.size 0 (cf 20 bl) (by rw [cf_len]; exact R0.out)); have K9 := hid (below_setCells (bal (Below.refl w.heap.size w) (.cells #[.int .i64 0, .int .i64 0, .int .i64 0, .int .i64 0, .int .i64 0, .int .i64 0, .int .i64 0, .int .i64 0, .int .i64 0, .int .i64 0, .int .i64 0, .int .i64 0, .int .i64 0, .int .i64 0, .int .i64 0, .int .i64 0, .int .i64 0, .int .i64 0, .int .i64 0, .int .i64 0] 41)) (Nat.le_refl _) (cf 20 bl) 0)))
 refine bodyPost_ret (v := .agg (cf 20 bl).toArray) (results_c1 rfl rfl (run_ld _ _ (cf 20 bl) E.out (cf_len _ _))) rfl ⟨rfl, K9.out⟩
theorem blank_own (w : World) : Calls Tryz.prog 118 #[] w fun e w' => e = .returned (.agg (cf 20 bl).toArray) ∧ Below w.heap.size w w' := by
 have R0 := hid (there_new w #[.int .i64 0, .int .i64 0, .int .i64 0, .int .i64 0, .int .i64 0, .int .i64 0, .int .i64 0, .int .i64 0, .int .i64 0, .int .i64 0, .int .i64 0, .int .i64 0, .int .i64 0, .int .i64 0, .int .i64 0, .int .i64 0, .int .i64 0, .int .i64 0, .int .i64 0, .int .i64 0] 41 w.heap.size 20 rfl (by decide))
 go_enter Tryz.func118, Tryz.ntmps118
 go_wp2_with (first
  | ((with_reducible (show wpList _ _ _ (⟨_, Op.store 41 _ _, _, _, _, _⟩ :: _) _ _)); refine wp_st rfl _ _ rfl _ rfl (cf 20 bl) rfl (cf_len _ _) (cf_one _ _) R0.out ?_; have E := hid (World.rangeAt_setCells_same _ w.heap.size 0 (cf 20 bl) (by rw [cf_len]; exact R0.out)); have K9 := hid (below_setCells (bal (Below.refl w.heap.size w) (.cells #[.int .i64 0, .int .i64 0, .int .i64 0, .int .i64 0, .int .i64 0, .int .i64 0, .int .i64 0, .int .i64 0, .int .i64 0, .int .i64 0, .int .i64 0, .int .i64 0, .int .i64 0, .int .i64 0, .int .i64 0, .int .i64 0, .int .i64 0, .int .i64 0, .int .i64 0, .int .i64 0] 41)) (Nat.le_refl _) (cf 20 bl) 0)))
 refine bodyPost_ret (v := .agg (cf 20 bl).toArray) (results_c1 rfl rfl (run_ld _ _ (cf 20 bl) E.out (cf_len _ _))) rfl ⟨rfl, K9.out⟩
theorem within_any (v a b : Int) (w : World) :
  Calls Tryz.prog 53 #[.int .i64 v, .int .i64 a, .int .i64 b] w fun e w' => e = .returned (.bool (decide (a ≤ v ∧ v ≤ b))) ∧ w = w' := by
 go_enter Tryz.func53, Tryz.ntmps53
 go_wp2
 all_goals
  go_ret
  exact ⟨ret_bool (by first | rfl | (simp; done) | (rw [Bool.eq_iff_iff]; simp; omega)), rfl⟩
/-- Is it no domain? -/
def nd (z : Int) : Bool := !decide (0 ≤ z ∧ z ≤ 3)
theorem noDom_any (n v : Int) (w : World) :
  Calls Tryz.prog 79 #[.int .i64 n, .int .i64 v] w fun e w' => e = .returned (.bool (nd v)) ∧ w = w' := by
 go_enter Tryz.func79, Tryz.ntmps79
 go_wp2_with fail
 refine (within_any v 0 3 w).mono ?_
 rintro e w1 ⟨rfl, rfl⟩
 have HN := hid (show nd v = !decide (0 ≤ v ∧ v ≤ 3) from rfl)
 generalize decide (0 ≤ v ∧ v ≤ 3) = bb at HN ⊢
 go_wp2_with fail
 go_ret
 exact ⟨by rw [HN.out]; rfl, rfl⟩
set_option maxHeartbeats 1000000 in
theorem countsFit_any (f c d : Int) (w : World) :
  Calls Tryz.prog 114 #[.int .i64 f, .int .i64 c, .int .i64 d] w fun e w' => e = .returned (.bool (decide ((1 ≤ f ∧ f ≤ 24) ∧ (1 ≤ c ∧ c ≤ 4) ∧ (1 ≤ d ∧ d ≤ 8)))) ∧ w = w' := by
 by_cases h1 : 1 ≤ f ∧ f ≤ 24
 ·by_cases h2 : 1 ≤ c ∧ c ≤ 4
  ·go_enter Tryz.func114, Tryz.ntmps114
   go_wp2_with fail
   refine (within_any f 1 24 w).mono ?_
   rintro e w1 ⟨rfl, rfl⟩
   rw [decide_eq_true h1]
   go_wp2_with fail
   refine (within_any c 1 4 w).mono ?_
   rintro e w1 ⟨rfl, rfl⟩
   rw [decide_eq_true h2]
   go_wp2_with fail
   refine (within_any d 1 8 w).mono ?_
   rintro e w1 ⟨rfl, rfl⟩
   go_wp2_with fail
   go_ret
   exact ⟨ret_bool (by rw [Bool.eq_iff_iff]; simp; omega), rfl⟩
  ·have H2 := hid h2
   clear h2
   go_enter Tryz.func114, Tryz.ntmps114
   go_wp2_with fail
   refine (within_any f 1 24 w).mono ?_
   rintro e w1 ⟨rfl, rfl⟩
   rw [decide_eq_true h1]
   go_wp2_with fail
   refine (within_any c 1 4 w).mono ?_
   rintro e w1 ⟨rfl, rfl⟩
   rw [decide_eq_false H2.out]
   go_wp2_with fail
   go_ret
   exact ⟨ret_bool (decide_eq_false (fun h => H2.out h.2.1)).symm, rfl⟩
 ·have H1 := hid h1
  clear h1
  go_enter Tryz.func114, Tryz.ntmps114
  go_wp2_with fail
  refine (within_any f 1 24 w).mono ?_
  rintro e w1 ⟨rfl, rfl⟩
  rw [decide_eq_false H1.out]
  go_wp2_with fail
  go_ret
  exact ⟨ret_bool (decide_eq_false (fun h => H1.out h.1)).symm, rfl⟩
end Go.Proofs.YtakmaeohhclngaaGreatDoor.Wd
namespace Go.Proofs.YtakmaeohhclngaaGreatDoor.Mem
open Go.RowKit
/-- How many of the first n are not listed. -/
def left (listed : Array Bool) : Nat → Nat
 | 0 => 0
 | n + 1 => left listed n + (if listed.getD n false = true then 0 else 1)
section
variable {P : Program} {md : Region.Mode} {ops : Array Oper} {Q : Exit → Act → World → Prop} {n1 N : Nat} {R : Nat → Value → World → Prop} {w0 : World} {a0 : Act}
theorem mem_ready {listed : Array Bool} {i : Nat} {o : Oper} (ho : ops[i]? = some o) (hl : listed.getD i true = false) (hd : ∀ e ∈ o.after, listed.getD e.on false = true) : i ∈ Region.ready md ops listed := by
 unfold Region.ready
 refine List.mem_filter.2 ⟨List.mem_range.2 (Array.getElem?_eq_some_iff.1 ho).1, ?_⟩
 rw [ho, hl]
 simp only [Bool.not_false, Bool.true_and, Option.map_some, Option.getD_some, Array.all_eq_true']
 intro e he
 simp [hd e he]
end
end Go.Proofs.YtakmaeohhclngaaGreatDoor.Mem
namespace Go.Proofs.YtakmaeohhclngaaGreatDoor.Wd
open Go.RowKit Go.Proofs.YtakmaeohhclngaaGreatDoor.Mem Go.Proofs.YtakmaeohhclngaaGreatDoor.Bw Go.Proofs.YtakmaeohhclngaaGreatDoor.Nums Go.Proofs.YtakmaeohhclngaaGreatDoor.Mmu
theorem made_one (z : Value) (n k : Nat) (hz : z.cells = #[z]) (h : k < n) : (madeCells z.cells (n * 1))[k]? = some z := by
 unfold madeCells
 rw [hz]
 simp [h, Nat.mod_one]
theorem infoL : (Tryz.prog.info? 22).map (fun i => (i.zero, i.size, i.bytes)) = some (some (.slice none 0 0), 1, 24) := by kernel_rfl
theorem infoB : (Tryz.prog.info? 135).map (fun i => (i.zero, i.size, i.bytes)) = some (some (.slice none 0 0), 1, 24) := by kernel_rfl
theorem ints_nil (w : World) : IntsIn w (.slice none 0 0) [] := ⟨none, 0, 0, 0, rfl, fun e => by simp at e, fun j hj => by simp at hj⟩
theorem own_ints {w : World} {B : Nat} {v : Value} {zs : List Int} (h : w.ownsRow B 3 1 v zs.length (ints zs)) : IntsIn w v zs := by
 rcases h.2 with ⟨rfl, h1⟩ | ⟨g, cap, cur, rfl, h1, _⟩
 ·rw [List.length_eq_zero_iff.1 h1]
  exact ints_nil w
 ·refine ⟨some ⟨g, 0, none⟩, g, 0, cap, rfl, fun _ => rfl, fun j hj => ?_⟩
  rw [Nat.zero_add, h.cellAt j (by omega)]
  unfold ints
  rw [List.getElem?_map, List.getElem?_eq_getElem hj]
  rfl
theorem ints_len (zs : List Int) : (ints zs).length = zs.length * 1 := by simp [ints]
theorem ints_one (zs : List Int) : ∀ u ∈ ints zs, u.oneCell' = true := by
 intro u hu
 obtain ⟨z, _, rfl⟩ := List.mem_map.1 hu
 rfl
theorem ints_at {w : World} {b off : Nat} {zs : List Int} (h : IntsAt w b off zs) : ∀ (j : Nat) (u : Value), (ints zs)[j]? = some u → w.cell? ((⟨b, off, none⟩ : Addr).add j) = some u := by
 intro j u hj
 have hlt : j < zs.length := by have := (List.getElem?_eq_some_iff.1 hj).1; simpa [ints] using this
 rw [Addr.add_mid, h j hlt, ← hj]
 simp [ints, hlt]
set_option maxHeartbeats 2000000 in
theorem clone_ints (v : Value) (zs : List Int) (w : World) (hv : IntsIn w v zs) (hl : zs.length ≤ 1000) :
  Calls Tryz.prog 92 #[v] w fun r w' => ∃ u, r = .returned u ∧ w'.ownsRow w.heap.size 3 1 u zs.length (ints zs) ∧ Below w.heap.size w w' := by
 obtain ⟨i0, hi, hz0, hz1, hz2⟩ := info_get infoI
 have qn : ∀ (w : World) (a : Option Addr) (n c n' c' : Nat), (binOp .eql 22 (.slice a n c) (.slice none n' c')).run Tryz.prog w = .ok (.bool a.isNone) w := fun w a n c n' c' => Lib.run_eql_slice_nil w _ _ a n c n' c' Tryz.underlying22
 obtain ⟨q, b, off, cap, rfl, hq, hz⟩ := hv
 have HQ := hid hq
 have HZ := hid hz
 clear hq hz
 cases q with
 | none =>
  have h0 : zs = [] := by
   cases zs with
   | nil => rfl
   | cons x l => have := HQ.out (by simp); cases this
  subst h0
  go_enter Tryz.func92, Tryz.ntmps92
  go_wp2_with fail
  go_ret
  exact ⟨_, rfl, World.ownsRow_nil _ _ _ _, Below.refl _ _⟩
 | some ad =>
  have HN := hid (show ∀ (W : World), Below w.heap.size w W → ∀ (j : Nat) (u : Value), (ints zs)[j]? = some u → W.cell? (ad.add j) = some u from fun W hb => by
   by_cases h0 : 0 < zs.length
   ·have := HQ.out h0
    cases this
    exact ints_at (HZ.out.below hb)
   ·intro j u hj
    have : zs = [] := by
     cases zs with
     | nil => rfl
     | cons x l => simp at h0
    rw [this] at hj
    simp [ints] at hj)
  have HL := hid (ints_len zs)
  have HC := hid (ints_one zs)
  have hl2 : zs.length ≤ maxLen := by unfold maxLen; omega
  have B0 := hid (bal (Below.refl w.heap.size w) (.cells #[] 3))
  have O0 := hid (World.ownsRow_made (base := w.heap.size) (e := 3) (size := 1) w #[] 0 (Nat.le_refl _) (Nat.zero_le _) (by simp))
  generalize ints zs = cs at *
  go_enter Tryz.func92, Tryz.ntmps92
  go_wp2_with (at_builtin; refine wpList_append_own _ rfl _ _ 22 rfl w.heap.size 3 i0 (.int .i64 0) 1 8 Tryz.underlying22 hi hz0 hz1 hz2 rfl (by decide) _ _ _ rfl O0.out ad zs.length cap cs rfl HL.out (HN.out _ B0.out) HC.out (by omega) (by omega) (by simp) ?_; intro v' w5 hown' hgrow _; have B5 := hid (B0.out.grown hgrow (by simp) (fun k hk => (O0.out.lt k hk).1)); have O5 := hid hown'; clear hown' hgrow)
  go_ret
  refine ⟨_, rfl, ?_, B5.out⟩
  have := O5.out
  rw [Nat.zero_add, List.nil_append] at this
  exact this
/-- No world. -/
def noP : PW := { ram := [], kinds := [], slots := [], tasks := [], lines := [], bits := [], cores := [], ready := [], tlbs := [], doms := [], time := 0 }
def zeroV (k : Nat) : Value := if k = 10 then .int .i64 0 else .slice none 0 0
theorem zero_world (w : World) : WorldV w zeroV noP :=
 ⟨ints_nil w, ints_nil w, ⟨none, 0, 0, 0, rfl, fun e => by simp [noP] at e, fun j hj => by simp [noP] at hj⟩, ⟨none, 0, 0, 0, rfl, fun e => by simp [noP] at e, fun j hj => by simp [noP] at hj⟩, ⟨none, 0, 0, 0, rfl, fun e => by simp [noP] at e, fun j hj => by simp [noP] at hj⟩, ints_nil w, ints_nil w, ⟨none, 0, 0, 0, rfl, fun e => by simp [noP] at e, fun j hj => by simp [noP] at hj⟩, ⟨none, 0, 0, 0, rfl, fun e => by simp [noP] at e, fun j hj => by simp [noP] at hj⟩, ints_nil w, rfl⟩
end Go.Proofs.YtakmaeohhclngaaGreatDoor.Wd
