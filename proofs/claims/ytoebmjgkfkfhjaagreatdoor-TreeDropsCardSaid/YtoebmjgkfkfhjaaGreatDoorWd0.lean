/- Worlds in memory: rows of numbers, of lists, of slots and tasks; keyholdref.SameAll, where both are the same lists. -/
import Derived.Test.YtoebmjgkfkfhjaaGreatDoorGMmu
import Derived.Test.YtoebmjgkfkfhjaaGreatDoorBig
import Derived.Deep.RegionHeld3
namespace Go.Proofs.YtoebmjgkfkfhjaaGreatDoor.Wd
open Go.RowKit Go.Proofs.YtoebmjgkfkfhjaaGreatDoor.Mem Go.Proofs.YtoebmjgkfkfhjaaGreatDoor.Bw Go.Proofs.YtoebmjgkfkfhjaaGreatDoor.Nums Go.Proofs.YtoebmjgkfkfhjaaGreatDoor.Mmu
/-- So many numbers, as cells. -/
def cf (n : Nat) (f : Nat → Int) : List Value := (List.range n).map fun k => .int .i64 (f k)
theorem cf_len (n : Nat) (f : Nat → Int) : (cf n f).length = n := by simp [cf]
theorem cf_at (n : Nat) (f : Nat → Int) (k : Nat) (h : k < n) : (cf n f)[k]? = some (.int .i64 (f k)) := by simp [cf, h]
theorem cf_one (n : Nat) (f : Nat → Int) : ∀ v ∈ cf n f, v.oneCell' = true := by
 intro v hv
 obtain ⟨k, _, rfl⟩ := List.mem_map.1 hv
 rfl
theorem range_belowO {w w' : World} {b o : Nat} {cs : List Value} (h : w.rangeAt b o cs) (hb : Below w.heap.size w w') : w'.rangeAt b o cs := fun j v hv => by
 have := h j v hv
 exact (hb.cell (World.block_lt_of_cell? _ _ this)).trans this
/-- A list of numbers as a slice. -/
def IntsIn (w : World) (v : Value) (zs : List Int) : Prop := ∃ q b off cap, v = .slice q zs.length cap ∧ (0 < zs.length → q = some ⟨b, off, none⟩) ∧ IntsAt w b off zs
theorem IntsIn.below {w w' : World} {v : Value} {zs : List Int} (h : IntsIn w v zs) (hb : Below w.heap.size w w') : IntsIn w' v zs := by
 obtain ⟨q, b, off, cap, h1, h2, h3⟩ := h
 exact ⟨q, b, off, cap, h1, h2, h3.below hb⟩
/-- Lists of numbers. -/
def ListsIn (w : World) (v : Value) (ls : List (List Int)) : Prop := ∃ q b off cap, v = .slice q ls.length cap ∧ (0 < ls.length → q = some ⟨b, off, none⟩) ∧ ∀ j (h : j < ls.length), ∃ x, w.cell? ⟨b, off + j, none⟩ = some x ∧ IntsIn w x ls[j]
theorem ListsIn.below {w w' : World} {v : Value} {ls : List (List Int)} (h : ListsIn w v ls) (hb : Below w.heap.size w w') : ListsIn w' v ls := by
 obtain ⟨q, b, off, cap, h1, h2, h3⟩ := h
 refine ⟨q, b, off, cap, h1, h2, fun j hj => ?_⟩
 obtain ⟨x, hx, hi⟩ := h3 j hj
 exact ⟨x, (hb.cell (World.block_lt_of_cell? _ _ hx)).trans hx, hi.below hb⟩
/-- A slice has room for what is in it. -/
def RoomV : Value → Prop
 | .slice _ n cap => n ≤ cap
 | _ => True
/-- Lists of entries. -/
def TlbsIn (w : World) (v : Value) (ls : List (List Ent)) : Prop := ∃ q b off cap, v = .slice q ls.length cap ∧ (0 < ls.length → q = some ⟨b, off, none⟩) ∧ ∀ j (h : j < ls.length), ∃ x, w.cell? ⟨b, off + j, none⟩ = some x ∧ TlbIn w x ls[j] ∧ RoomV x
theorem TlbsIn.below {w w' : World} {v : Value} {ls : List (List Ent)} (h : TlbsIn w v ls) (hb : Below w.heap.size w w') : TlbsIn w' v ls := by
 obtain ⟨q, b, off, cap, h1, h2, h3⟩ := h
 refine ⟨q, b, off, cap, h1, h2, fun j hj => ?_⟩
 obtain ⟨x, hx, hi⟩ := h3 j hj
 exact ⟨x, (hb.cell (World.block_lt_of_cell? _ _ hx)).trans hx, hi.1.below hb, hi.2⟩
/-- Structs of n numbers each. -/
def RowsIn (n : Nat) (w : World) (v : Value) (fs : List (Nat → Int)) : Prop := ∃ q b off cap, v = .slice q fs.length cap ∧ (0 < fs.length → q = some ⟨b, off, none⟩) ∧ ∀ j (h : j < fs.length), w.rangeAt b (off + j * n) (cf n fs[j])
theorem RowsIn.below {n : Nat} {w w' : World} {v : Value} {fs : List (Nat → Int)} (h : RowsIn n w v fs) (hb : Below w.heap.size w w') : RowsIn n w' v fs := by
 obtain ⟨q, b, off, cap, h1, h2, h3⟩ := h
 exact ⟨q, b, off, cap, h1, h2, fun j hj => range_belowO (h3 j hj) hb⟩
/-- A world, plain. -/
structure PW where
 ram : List Int
 kinds : List Int
 slots : List (Nat → Int)
 tasks : List (Nat → Int)
 lines : List (List Int)
 bits : List Int
 cores : List Int
 ready : List (List Int)
 tlbs : List (List Ent)
 doms : List Int
 time : Int
/-- Its lists are not huge. -/
structure PW.Fits (p : PW) : Prop where
 ram : p.ram.length ≤ 1000
 kinds : p.kinds.length ≤ 1000
 slots : p.slots.length ≤ 1000
 tasks : p.tasks.length ≤ 1000
 lines : p.lines.length ≤ 1000
 line : ∀ l ∈ p.lines, l.length ≤ 1000
 bits : p.bits.length ≤ 1000
 cores : p.cores.length ≤ 1000
 ready : p.ready.length ≤ 1000
 next : ∀ l ∈ p.ready, l.length ≤ 1000
 tlbs : p.tlbs.length ≤ 1000
 doms : p.doms.length ≤ 1000
/-- A world's eleven values. -/
structure WorldV (w : World) (v : Nat → Value) (p : PW) : Prop where
 ram : IntsIn w (v 0) p.ram
 kinds : IntsIn w (v 1) p.kinds
 slots : RowsIn 7 w (v 2) p.slots
 tasks : RowsIn 20 w (v 3) p.tasks
 lines : ListsIn w (v 4) p.lines
 bits : IntsIn w (v 5) p.bits
 cores : IntsIn w (v 6) p.cores
 ready : ListsIn w (v 7) p.ready
 tlbs : TlbsIn w (v 8) p.tlbs
 doms : IntsIn w (v 9) p.doms
 time : v 10 = .int .i64 p.time
theorem WorldV.below {w w' : World} {v : Nat → Value} {p : PW} (h : WorldV w v p) (hb : Below w.heap.size w w') : WorldV w' v p :=
 ⟨h.ram.below hb, h.kinds.below hb, h.slots.below hb, h.tasks.below hb, h.lines.below hb, h.bits.below hb, h.cores.below hb, h.ready.below hb, h.tlbs.below hb, h.doms.below hb, h.time⟩
theorem same_in (v v2 : Value) (zs : List Int) (w : World) (h : IntsIn w v zs) (h2 : IntsIn w v2 zs) (hl : zs.length ≤ 1000) :
  Calls Tryz.prog 27 #[v, v2] w fun e w' => e = .returned (.bool true) ∧ Below w.heap.size w w' := by
 obtain ⟨q, b, off, cap, rfl, hq, hz⟩ := h
 obtain ⟨q2, b2, off2, cap2, rfl, hq2, hz2⟩ := h2
 exact same_yes q q2 b b2 off off2 cap cap2 zs w hq hq2 hz hz2 (by omega)
set_option maxHeartbeats 2000000 in
theorem sameAll_yes (v v2 : Value) (ls : List (List Int)) (w : World) (hv : ListsIn w v ls) (hv2 : ListsIn w v2 ls) (hl : ls.length ≤ 1000) (hll : ∀ l ∈ ls, l.length ≤ 1000) :
  Calls Tryz.prog 60 #[v, v2] w fun r w' => r = .returned (.bool true) ∧ Below w.heap.size w w' := by
 have HV := hid hv
 have HV2 := hid hv2
 obtain ⟨q, b, off, cap, rfl, hq, hz⟩ := hv
 obtain ⟨q2, b2, off2, cap2, rfl, hq2, hz2⟩ := hv2
 have HQ := hid hq
 have HQ2 := hid hq2
 have HZ := hid hz
 have HZ2 := hid hz2
 have HL := hid hll
 clear hq hq2 hz hz2 hll
 have hl2 : (ls.length : Int) ≤ 1000 := by omega
 go_enter Tryz.func60, Tryz.ntmps60
 go_wp2_with fail
 go_loopw [5] (fun i wr => ∃ k : Nat, k ≤ ls.length ∧ i = .int .i64 k ∧ Hid (Below w.heap.size w wr)) (fun i _ => ls.length - (intOf i).toNat)
 case atStart => exact ⟨0, by omega, rfl, hid (Below.refl _ _)⟩
 case round =>
  obtain ⟨k, hk, rfl, HB⟩ := hrel
  by_cases hlt : k < ls.length
  ·have hlt2 : (k : Int) < (ls.length : Int) := by omega
   have hqe := HQ.out (by omega)
   have hqe2 := HQ2.out (by omega)
   subst hqe hqe2
   obtain ⟨x, hx, hxi⟩ := HZ.out k hlt
   obtain ⟨y, hy, hyi⟩ := HZ2.out k hlt
   have hxb := (HB.out.cell (World.block_lt_of_cell? _ _ hx)).trans hx
   have hyb := (HB.out.cell (World.block_lt_of_cell? _ _ hy)).trans hy
   have XI := hid (fun W (hb : Below wr.heap.size wr W) => (hxi.below HB.out).below hb)
   have YI := hid (fun W (hb : Below wr.heap.size wr W) => (hyi.below HB.out).below hb)
   have LE := hid (HL.out ls[k] (List.getElem_mem hlt))
   generalize ls[k] = zs at XI YI LE
   clear hxi hyi hx hy
   have BE : Hid (Below wr.heap.size wr wr.drew) := hid (below_drew wr 1)
   go_wp2_with fail
   have KS := hid (show ∀ W, Below wr.heap.size wr W → W.cell? ⟨b, off + k, none⟩ = some x ∧ W.cell? ⟨b2, off2 + k, none⟩ = some y from fun W hb => ⟨(hb.cell (World.block_lt_of_cell? _ _ hxb)).trans hxb, (hb.cell (World.block_lt_of_cell? _ _ hyb)).trans hyb⟩)
   go_region_held3 (fun W => W.cell? ⟨b, off + k, none⟩ = some x ∧ W.cell? ⟨b2, off2 + k, none⟩ = some y)
    (first
     | (with_reducible exact KS.out _ A1.out)
     | (with_reducible exact KS.out _ BE.out))
    (first
     | (go_at_call 27; refine (same_in _ _ zs _ (XI.out _ BE.out) (YI.out _ BE.out) LE.out).mono ?_; rintro r w7 ⟨rfl, hb⟩; have A1 : Hid (Below wr.heap.size wr w7) := hid (btr BE.out hb); clear hb))
   go_wp2_with fail
   exact ⟨⟨k + 1, by omega, by go_num, hid (btr HB.out A1.out)⟩, by simp [intOf]; omega⟩
  ·obtain rfl : k = ls.length := by omega
   have hge : ¬ ((ls.length : Int) < (ls.length : Int)) := by omega
   go_wp2_with fail
   go_ret
   exact ⟨rfl, HB.out⟩
end Go.Proofs.YtoebmjgkfkfhjaaGreatDoor.Wd
