/- What cores remember: entries in memory; what is looked for; slices.IndexFunc over them, walked. · mmu.Find, keyholdref.Found, keyholdref.Dropped, keyholdref.SameTlb, walked. · keyholdref.Found walked: the same findR. · keyholdref.Dropped walked: what is left of what is remembered. · keyholdref.SameTlb walked, where both are the same list. -/
import Derived.Test.YtoebmjgkfkfhjaaGreatDoorMmuWalk
import Derived.Laws.StructEq
import Derived.Test.YtoebmjgkfkfhjaaGreatDoorGBase
namespace Go.Proofs.YtoebmjgkfkfhjaaGreatDoor.Mmu
open Go.RowKit Go.Proofs.YtoebmjgkfkfhjaaGreatDoor.Mem Go.Proofs.YtoebmjgkfkfhjaaGreatDoor.Bw Go.Proofs.YtoebmjgkfkfhjaaGreatDoor.Nums
abbrev Ent := Int × Int × Int × Bool
/-- Entries in memory, four cells each. -/
def EntsAt (w : World) (b off : Nat) (l : List Ent) : Prop :=
 ∀ j (h : j < l.length), w.cell? ⟨b, off + j * 4, none⟩ = some (.int .i64 l[j].1) ∧ w.cell? ⟨b, off + j * 4 + 1, none⟩ = some (.int .i64 l[j].2.1) ∧ w.cell? ⟨b, off + j * 4 + 2, none⟩ = some (.int .i64 l[j].2.2.1) ∧ w.cell? ⟨b, off + j * 4 + 3, none⟩ = some (.bool l[j].2.2.2)
theorem EntsAt.below {w w' : World} {b off : Nat} {l : List Ent} (h : EntsAt w b off l) (hb : Below w.heap.size w w') : EntsAt w' b off l := fun j hj =>
 ⟨(hb.cell (World.block_lt_of_cell? _ _ (h j hj).1)).trans (h j hj).1, (hb.cell (World.block_lt_of_cell? _ _ (h j hj).2.1)).trans (h j hj).2.1, (hb.cell (World.block_lt_of_cell? _ _ (h j hj).2.2.1)).trans (h j hj).2.2.1, (hb.cell (World.block_lt_of_cell? _ _ (h j hj).2.2.2)).trans (h j hj).2.2.2⟩
/-- A list of entries as a slice. -/
def TlbIn (w : World) (v : Value) (l : List Ent) : Prop := ∃ q b off cap, v = .slice q l.length cap ∧ (0 < l.length → q = some ⟨b, off, none⟩) ∧ EntsAt w b off l ∧ l.length ≤ 100
theorem TlbIn.below {w w' : World} {v : Value} {l : List Ent} (h : TlbIn w v l) (hb : Below w.heap.size w w') : TlbIn w' v l := by
 obtain ⟨q, b, off, cap, h1, h2, h3, h4⟩ := h
 exact ⟨q, b, off, cap, h1, h2, h3.below hb, h4⟩
def pg (s p : Int) (e : Ent) : Bool := e.1 == s && e.2.1 == p
/-- What a closure has captured. -/
def PgAt (w : World) (h : Nat) (s p : Int) : Prop := w.cell? ⟨h, 0, none⟩ = some (.int .i64 s) ∧ w.cell? ⟨h + 1, 0, none⟩ = some (.int .i64 p)
theorem PgAt.below {w w' : World} {h : Nat} {s p : Int} (k : PgAt w h s p) (hb : Below w.heap.size w w') : PgAt w' h s p :=
 ⟨(hb.cell (World.block_lt_of_cell? _ _ k.1)).trans k.1, (hb.cell (World.block_lt_of_cell? _ _ k.2)).trans k.2⟩
theorem ofPage_any (s p : Int) (w : World) :
  Calls Tryz.prog 155 #[.int .i64 s, .int .i64 p] w fun e w' => e = .returned (.func (.func 165) #[] #[.pointer (some ⟨w.heap.size, 0, none⟩), .pointer (some ⟨w.heap.size + 1, 0, none⟩)]) ∧ PgAt w' w.heap.size s p ∧ Below w.heap.size w w' := by
 have hmf : ∀ (fn : Fn) (first cap : Array Value) (w : World), (Instr.makeFunc fn first cap).run Tryz.prog w = .ok (.func fn first cap) w := fun _ _ _ _ => rfl
 go_enter Tryz.func155, Tryz.ntmps155
 go_wp2_with fail
 go_ret
 exact ⟨rfl, ⟨cells_alloc (cells_new w #[.int .i64 s] 3) (by simp) _ 0, cells_at (w.alloc (.cells #[.int .i64 s] 3)) #[.int .i64 p] 3 (w.heap.size + 1) (by simp) 0⟩, bal (bal (Below.refl _ _) _) _⟩
theorem isPage (e : Ent) (h : Nat) (s p : Int) (w : World) (hc : PgAt w h s p) :
  Calls Tryz.prog 165 #[.agg #[.int .i64 e.1, .int .i64 e.2.1, .int .i64 e.2.2.1, .bool e.2.2.2], .pointer (some ⟨h, 0, none⟩), .pointer (some ⟨h + 1, 0, none⟩)] w fun r w' => r = .returned (.bool (pg s p e)) ∧ Below w.heap.size w w' := by
 obtain ⟨x, y, z, u⟩ := e
 have k := hc.below (bal (Below.refl _ _) (.cells #[.int .i64 x, .int .i64 y, .int .i64 z, .bool u] 115))
 obtain ⟨k0, k1⟩ := k
 have HP := hid (show pg s p (x, y, z, u) = (x == s && y == p) from rfl)
 cases hx : (x == s) with
 | true =>
  go_enter Tryz.func165, Tryz.ntmps165
  go_wp2_with fail
  go_ret
  exact ⟨by rw [HP.out, hx]; rfl, bal (Below.refl _ _) _⟩
 | false =>
  go_enter Tryz.func165, Tryz.ntmps165
  go_wp2_with fail
  go_ret
  exact ⟨by rw [HP.out, hx]; rfl, bal (Below.refl _ _) _⟩
/-- The first one's number; -1: there is none. -/
def ixV (p : Ent → Bool) (l : List Ent) : Int := if l.findIdx p < l.length then (l.findIdx p : Int) else -1
set_option maxHeartbeats 2000000 in
theorem index_page (v : Value) (l : List Ent) (h : Nat) (s p : Int) (w : World) (hv : TlbIn w v l) (hc : PgAt w h s p) :
  Calls Tryz.prog 140 #[v, .func (.func 165) #[] #[.pointer (some ⟨h, 0, none⟩), .pointer (some ⟨h + 1, 0, none⟩)]] w fun r w' => r = .returned (.int .i64 (ixV (pg s p) l)) ∧ Below w.heap.size w w' := by
 obtain ⟨q, b, off, cap, rfl, hq, hz, hl⟩ := hv
 have HQ := hid hq
 have HZ := hid hz
 have HC := hid hc
 clear hq hz hc
 have hl2 : (l.length : Int) ≤ 100 := by omega
 go_enter Tryz.func140, Tryz.ntmps140
 go_wp2_with fail
 go_loopw [8] (fun i wr => ∃ k : Nat, k ≤ l.length ∧ i = .int .i64 k ∧ Hid ((∀ j (hj : j < l.length), j < k → pg s p l[j] = false) ∧ Below w.heap.size w wr)) (fun i _ => l.length - (intOf i).toNat)
 case atStart => exact ⟨0, by omega, rfl, fun j _ h => by omega, Below.refl _ _⟩
 case round =>
  obtain ⟨k, hk, rfl, hE⟩ := hrel
  by_cases hlt : k < l.length
  ·have hlt2 : (k : Int) < (l.length : Int) := by omega
   have hqe := HQ.out (by omega)
   subst hqe
   obtain ⟨c0, c1, c2, c3⟩ := (HZ.out.below hE.out.2) k hlt
   have HP := hid (fun W (hb : Below w.heap.size w W) => isPage l[k] h s p W (HC.out.below hb))
   have HI := hid (show pg s p l[k] = true → ixV (pg s p) l = k from fun ht => by
    have : l.findIdx (pg s p) = k := (List.findIdx_eq hlt).2 ⟨ht, fun j hj => hE.out.1 j (by omega) hj⟩
    unfold ixV
    rw [this, if_pos hlt])
   have HS := hid (show pg s p l[k] = false → ∀ j (hj : j < l.length), j < k + 1 → pg s p l[j] = false from fun hf j hj hjk => by
    by_cases e : j = k
    ·subst e; exact hf
    ·exact hE.out.1 j hj (by omega))
   generalize l[k] = e at c0 c1 c2 c3 HP HI HS
   go_wp2_with fail
   refine (HP.out _ hE.out.2).mono ?_
   rintro r w1 ⟨rfl, hb⟩
   have B1 := hid (btr hE.out.2 hb)
   clear hb
   cases hpe : pg s p e with
   | true =>
    have HV := hid (HI.out hpe)
    go_wp2_with fail
    go_ret
    exact ⟨by rw [HV.out]; rfl, B1.out⟩
   | false =>
    have HN := hid (HS.out hpe)
    go_wp2_with fail
    exact ⟨⟨k + 1, by omega, by go_num, HN.out, B1.out⟩, by simp [intOf]; omega⟩
  ·obtain rfl : k = l.length := by omega
   have hge : ¬ ((l.length : Int) < (l.length : Int)) := by omega
   have HV := hid (show ixV (pg s p) l = -1 by
    unfold ixV
    rw [if_neg]
    intro hlt2
    have := List.findIdx_getElem (w := hlt2)
    rw [hE.out.1 _ hlt2 hlt2] at this
    cases this)
   go_wp2_with fail
   go_ret
   exact ⟨by rw [HV.out]; rfl, hE.out.2⟩
/-- D2: what is remembered of a page. -/
def findR (l : List Ent) (s p : Int) : Ent × Bool := if h : l.findIdx (pg s p) < l.length then (l[l.findIdx (pg s p)], true) else ((0, 0, 0, false), false)
def foundV (r : Ent × Bool) : Value := .tuple #[.agg #[.int .i64 r.1.1, .int .i64 r.1.2.1, .int .i64 r.1.2.2.1, .bool r.1.2.2.2], .bool r.2]
theorem find_yes {l : List Ent} {s p : Int} {k : Nat} (hk : k < l.length) (h : l.findIdx (pg s p) = k) : findR l s p = (l[k], true) := by
 subst h
 unfold findR
 rw [dif_pos hk]
theorem find_no {l : List Ent} {s p : Int} (h : ¬ l.findIdx (pg s p) < l.length) : findR l s p = ((0, 0, 0, false), false) := by
 unfold findR
 rw [dif_neg h]
theorem there_four (w : World) : ∀ k, k < 4 → (w.alloc (.cells #[.int .i64 0, .int .i64 0, .int .i64 0, .bool false] 115)).frozen? ⟨w.heap.size, k, none⟩ = false := fun k _ => by simp
set_option maxHeartbeats 1000000 in
theorem find_any (v : Value) (l : List Ent) (s p : Int) (w : World) (hv : TlbIn w v l) :
  Calls Tryz.prog 130 #[v, .int .i64 s, .int .i64 p] w fun r w' => r = .returned (foundV (findR l s p)) ∧ Below w.heap.size w w' := by
 have HV := hid hv
 obtain ⟨q, b, off, cap, rfl, hq, hz, hl⟩ := hv
 have HQ := hid hq
 have HZ := hid hz
 clear hq hz
 have B0 := hid (bal (Below.refl w.heap.size w) (.cells #[.int .i64 0, .int .i64 0, .int .i64 0, .bool false] 115))
 have X0 := hid (cells_new w #[.int .i64 0, .int .i64 0, .int .i64 0, .bool false] 115)
 have s0 : (w.alloc (.cells #[.int .i64 0, .int .i64 0, .int .i64 0, .bool false] 115)).heap.size = w.heap.size + 1 := by simp
 have Z0 := hid (there_four w)
 go_enter Tryz.func130, Tryz.ntmps130
 go_wp2_with fail
 refine (ofPage_any s p _).mono ?_
 generalize World.alloc _ _ = W at B0 X0 s0 Z0 ⊢
 rintro r w1 ⟨rfl, hpg, hb1⟩
 have P1 := hid hpg
 have B1 := hid (btr B0.out hb1)
 have X1 := hid (cells_next X0.out (by omega) hb1)
 have Z1 := hid (fun k (hk : k < 4) => (hb1.frozen (p := ⟨w.heap.size, k, none⟩) (by simp; omega)).trans (Z0.out k hk))
 clear hpg hb1 X0 Z0 s0
 go_wp2_with fail
 refine (index_page _ l W.heap.size s p w1 (HV.out.below B1.out) P1.out).mono ?_
 rintro r w2 ⟨rfl, hb2⟩
 have B2 := hid (btr B1.out hb2)
 have s1 : w.heap.size < w1.heap.size := World.block_lt_of_cell? w1 ⟨w.heap.size, 0, none⟩ (X1.out 0)
 have X2 := cells_next X1.out s1 hb2
 have Z2 := hid (fun k (hk : k < 4) => (hb2.frozen (p := ⟨w.heap.size, k, none⟩) s1).trans (Z1.out k hk))
 have z0 := Z2.out 0 (by decide)
 have z1 := Z2.out 1 (by decide)
 have z2 := Z2.out 2 (by decide)
 have z3 := Z2.out 3 (by decide)
 clear hb2 X1 Z1 Z2 P1 B1
 by_cases hlt : l.findIdx (pg s p) < l.length
 ·have hqe := HQ.out (by omega)
  subst hqe
  have HI := hid (show ixV (pg s p) l = (l.findIdx (pg s p) : Int) by unfold ixV; rw [if_pos hlt])
  have HF := hid (find_yes hlt rfl)
  obtain ⟨c0, c1, c2, c3⟩ := (HZ.out.below B2.out) _ hlt
  rw [HI.out]
  generalize l[l.findIdx (pg s p)] = e at HF c0 c1 c2 c3
  generalize l.findIdx (pg s p) = k at *
  have hk2 : (k : Int) < (l.length : Int) := by omega
  have hk3 : ¬ ((k : Int) < 0) := by omega
  obtain ⟨x, y, z, u⟩ := e
  simp only at c0 c1 c2 c3
  go_wp2_with fail
  have four := four_set (v0 := .int .i64 x) (v1 := .int .i64 y) (v2 := .int .i64 z) (v3 := .bool u) X2
  refine bodyPost_ret (v := foundV ((x, y, z, u), true)) (by simp [foundV, results, Tryz.results130, go_sem, four]) rfl ⟨by rw [HF.out], ?_⟩
  exact bset (bset (bset (bset B2.out (Nat.le_refl _) _) (Nat.le_refl _) _) (Nat.le_refl _) _) (Nat.le_refl _) _
 ·have HI := hid (show ixV (pg s p) l = -1 by unfold ixV; rw [if_neg hlt])
  have HF := hid (find_no hlt)
  rw [HI.out]
  clear hlt
  go_wp2_with fail
  have four := four_set (v0 := .int .i64 0) (v1 := .int .i64 0) (v2 := .int .i64 0) (v3 := .bool false) X2
  refine bodyPost_ret (v := foundV ((0, 0, 0, false), false)) (by simp [foundV, results, Tryz.results130, go_sem, four]) rfl ⟨by rw [HF.out], ?_⟩
  exact bset (bset (bset (bset B2.out (Nat.le_refl _) _) (Nat.le_refl _) _) (Nat.le_refl _) _) (Nat.le_refl _) _
theorem infoEnt : (Tryz.prog.info? 115).map (fun i => (i.zero, i.size, i.bytes)) = some (some (.agg #[.int .i64 0, .int .i64 0, .int .i64 0, .bool false]), 4, 32) := by kernel_rfl
def cellsE (l : List Ent) : List Value := l.flatMap fun q => [.int .i64 q.1, .int .i64 q.2.1, .int .i64 q.2.2.1, .bool q.2.2.2]
theorem cellsE_cons (q : Ent) (l : List Ent) : cellsE (q :: l) = .int .i64 q.1 :: .int .i64 q.2.1 :: .int .i64 q.2.2.1 :: .bool q.2.2.2 :: cellsE l := rfl
theorem cellsE_len (l : List Ent) : (cellsE l).length = l.length * 4 := by
 induction l with
 | nil => rfl
 | cons q l ih =>
  rw [cellsE_cons]
  simp only [List.length_cons, ih]
  omega
theorem cellsE_at (l : List Ent) (j : Nat) (h : j < l.length) : (cellsE l)[j * 4]? = some (.int .i64 l[j].1) ∧ (cellsE l)[j * 4 + 1]? = some (.int .i64 l[j].2.1) ∧ (cellsE l)[j * 4 + 2]? = some (.int .i64 l[j].2.2.1) ∧ (cellsE l)[j * 4 + 3]? = some (.bool l[j].2.2.2) := by
 induction l generalizing j with
 | nil => simp at h
 | cons q l ih =>
  rw [cellsE_cons]
  cases j with
  | zero => exact ⟨rfl, rfl, rfl, rfl⟩
  | succ j =>
   have := ih j (by simpa using h)
   have e2 : (j + 1) * 4 = j * 4 + 4 := by omega
   rw [e2]
   exact this
theorem fourE_cell (a b c : Int) (d : Bool) : ∀ x ∈ [Value.int .i64 a, .int .i64 b, .int .i64 c, .bool d], x.oneCell' = true := by
 intro x hx
 simp at hx
 rcases hx with rfl | rfl | rfl | rfl <;> rfl
set_option maxHeartbeats 4000000 in
theorem sameTlb_yes (v v2 : Value) (l : List Ent) (w : World) (hv : TlbIn w v l) (hv2 : TlbIn w v2 l) :
  Calls Tryz.prog 59 #[v, v2] w fun r w' => r = .returned (.bool true) ∧ Below w.heap.size w w' := by
 obtain ⟨q, b, off, cap, rfl, hq, hz, hl⟩ := hv
 obtain ⟨q2, b2, off2, cap2, rfl, hq2, hz2, _⟩ := hv2
 have HQ := hid hq
 have HQ2 := hid hq2
 have HZ := hid hz
 have HZ2 := hid hz2
 clear hq hq2 hz hz2
 have hl2 : (l.length : Int) ≤ 100 := by omega
 go_enter Tryz.func59, Tryz.ntmps59
 go_wp2_with fail
 go_loopw [5] (fun i wr => ∃ k : Nat, k ≤ l.length ∧ i = .int .i64 k ∧ Below w.heap.size w wr) (fun i _ => l.length - (intOf i).toNat)
 case atStart => exact ⟨0, by omega, rfl, Below.refl _ _⟩
 case round =>
  obtain ⟨k, hk, rfl, hB⟩ := hrel
  have HB := hid hB
  clear hB
  by_cases hlt : k < l.length
  ·have hlt2 : (k : Int) < (l.length : Int) := by omega
   have hqe := HQ.out (by omega)
   have hqe2 := HQ2.out (by omega)
   subst hqe hqe2
   obtain ⟨c0, c1, c2, c3⟩ := (HZ.out.below HB.out) k hlt
   obtain ⟨d0, d1, d2, d3⟩ := (HZ2.out.below HB.out) k hlt
   generalize l[k] = e at c0 c1 c2 c3 d0 d1 d2 d3
   obtain ⟨x, y, z, u⟩ := e
   simp only at c0 c1 c2 c3 d0 d1 d2 d3
   go_wp2_with fail
   go_quiet (fail)
   go_wp2_with fail
   exact ⟨⟨k + 1, by omega, by go_num, below_drewN HB.out nq⟩, by simp [intOf]; omega⟩
  ·obtain rfl : k = l.length := by omega
   have hge : ¬ ((l.length : Int) < (l.length : Int)) := by omega
   go_wp2_with fail
   go_ret
   exact ⟨rfl, HB.out⟩
end Go.Proofs.YtoebmjgkfkfhjaaGreatDoor.Mmu
