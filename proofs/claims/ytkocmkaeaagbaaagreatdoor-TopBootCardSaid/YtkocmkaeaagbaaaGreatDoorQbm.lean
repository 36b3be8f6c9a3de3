/- The rest of WdNew0: what few laws reach. · slices.Repeat: what it makes is one's own. (Written by mk_wna.py.) -/
import Derived.Test.YtkocmkaeaagbaaaGreatDoorQac
import Derived.Test.YtkocmkaeaagbaaaGreatDoorQab
namespace Go.Proofs.YtkocmkaeaagbaaaGreatDoor.Wd
open Go.RowKit Go.Proofs.YtkocmkaeaagbaaaGreatDoor.Mem Go.Proofs.YtkocmkaeaagbaaaGreatDoor.Bw Go.Proofs.YtkocmkaeaagbaaaGreatDoor.Nums Go.Proofs.YtkocmkaeaagbaaaGreatDoor.Mmu
/-- What the search for a number that is no domain tells. -/
def Looked (w : World) (zs : List Int) (e : Value) : Prop :=
 (zs.findIdx nd = zs.length ∧ e = .nilIface) ∨ ∃ b, zs.findIdx nd < zs.length ∧ e = .iface 96 (.pointer (some ⟨b, 0, none⟩)) ∧ w.cell? ⟨b, 0, none⟩ = some (.int .i64 (zs.findIdx nd)) ∧ w.cell? ⟨b, 1, none⟩ = some (.iface 29 (.int .i64 2))
set_option maxHeartbeats 2000000 in
theorem look_doms (v : Value) (zs : List Int) (w : World) (hv : IntsIn w v zs) (hl : zs.length ≤ 1000) :
  Calls Tryz.prog 44 #[.nilIface, v, .func (.func 47) #[] #[], .int .i64 2] w fun r w' => ∃ e, r = .returned e ∧ Looked w' zs e ∧ Below w.heap.size w w' := by
 obtain ⟨q, b, off, cap, rfl, hq, hz⟩ := hv
 have HQ := hid hq
 have HZ := hid hz
 clear hq hz
 have hl2 : (zs.length : Int) ≤ 1000 := by omega
 go_enter Tryz.func44, Tryz.ntmps44
 go_wp2_with fail
 go_loopw [16] (fun i wr => ∃ k : Nat, k ≤ zs.length ∧ i = .int .i64 k ∧ Hid (∀ j (hj : j < zs.length), j < k → nd zs[j] = false) ∧ Hid (w = wr)) (fun i _ => zs.length - (intOf i).toNat)
 case atStart => exact ⟨0, by omega, rfl, hid fun j _ h => by omega, hid rfl⟩
 case round =>
  obtain ⟨k, hk, rfl, HE, HW⟩ := hrel
  obtain rfl := HW.out
  clear HW
  by_cases hlt : k < zs.length
  ·have hlt2 : (k : Int) < (zs.length : Int) := by omega
   have hqe := HQ.out (by omega)
   subst hqe
   have c0 := HZ.out k hlt
   have HI := hid (show nd zs[k] = true → zs.findIdx nd = k from fun ht => (List.findIdx_eq hlt).2 ⟨ht, fun j hj => HE.out j (by omega) hj⟩)
   have HS := hid (show nd zs[k] = false → ∀ j (hj : j < zs.length), j < k + 1 → nd zs[j] = false from fun hf j hj hjk => by
    by_cases e : j = k
    ·subst e; exact hf
    ·exact HE.out j hj (by omega))
   generalize zs[k] = z at c0 HI HS
   go_wp2_with fail
   refine (noDom_any k z w).mono ?_
   rintro e w1 ⟨rfl, rfl⟩
   cases hn : nd z with
   | true =>
    have HV := hid (HI.out hn)
    go_wp2_with fail
    go_ret
    exact ⟨_, rfl, .inr ⟨w.heap.size, by rw [HV.out]; exact hlt, rfl, by rw [HV.out]; exact cells_new w #[.int .i64 k, .iface 29 (.int .i64 2)] _ 0, cells_new w #[.int .i64 k, .iface 29 (.int .i64 2)] _ 1⟩, bal (Below.refl _ _) _⟩
   | false =>
    have HN := hid (HS.out hn)
    go_wp2_with fail
    exact ⟨⟨k + 1, by omega, by go_num, HN, hid trivial⟩, by simp [intOf]; omega⟩
  ·obtain rfl : k = zs.length := by omega
   have hge : ¬ ((zs.length : Int) < (zs.length : Int)) := by omega
   have HF := hid (show zs.findIdx nd = zs.length from List.findIdx_eq_length.2 fun x hx => by
    obtain ⟨j, hj, rfl⟩ := List.getElem_of_mem hx
    exact HE.out j hj hj)
   go_wp2_with fail
   go_ret
   exact ⟨_, rfl, .inl ⟨HF.out, rfl⟩, Below.refl _ _⟩
end Go.Proofs.YtkocmkaeaagbaaaGreatDoor.Wd
namespace Go.Proofs.YtkocmkaeaagbaaaGreatDoor.Wd
open Go.RowKit Go.Proofs.YtkocmkaeaagbaaaGreatDoor.Mem Go.Proofs.YtkocmkaeaagbaaaGreatDoor.Bw Go.Proofs.YtkocmkaeaagbaaaGreatDoor.Nums Go.Proofs.YtkocmkaeaagbaaaGreatDoor.Mmu
theorem run_copy_wide {P : Program} (w : World) (dT sT ty elem : TypeId) (b o dLen dCap : Nat) (a : Addr) (sLen sCap sz : Nat) (cs : List Value)
  (hu : P.underlying dT = some (.slice elem)) (hs : (P.info? elem).map (·.size) = some sz) (hn : cs.length = Nat.min sLen dLen * sz)
  (hsrc : ∀ j v, cs[j]? = some v → w.cell? (a.add j) = some v) (ht : w.there b o cs.length) (h1 : ∀ v ∈ cs, v.oneCell' = true) :
  (Builtin.copy_ #[dT, sT] ty #[.slice (some ⟨b, o, none⟩) dLen dCap, .slice (some a) sLen sCap]).run P w = .ok (goInt (Nat.min sLen dLen)) (w.setCells b o cs) := by
 have hl := run_loadCells_list (P := P) w a cs hsrc
 have hst := run_storeCells_cells (P := P) b o cs 0 w (by simpa using fun j hj => (ht j hj).1) (by simpa using fun j hj => (ht j hj).2) h1
 cases hq : P.info? elem with
 | none => simp [hq] at hs
 | some i =>
  have hi : i.size = sz := by simpa [hq] using hs
  simp [Builtin.copy_, run_underlying hu, Builtin.lenOf, Builtin.firstCells, sizeOf, typeInfo, hq, hi, ← hn, hl, hst]
theorem rep_one (t : Nat) (c : List Value) (h : ∀ v ∈ c, v.oneCell' = true) : ∀ v ∈ rep t c, v.oneCell' = true := by
 intro v hv
 unfold rep at hv
 obtain ⟨l, h1, h2⟩ := List.mem_flatten.1 hv
 rw [(List.mem_replicate.1 h1).2] at h2
 exact h v h2
theorem infoSlot : (Tryz.prog.info? 45).map (fun i => (i.zero, i.size, i.bytes)) = some (some (.agg #[.int .i64 0, .int .i64 0, .int .i64 0, .int .i64 0, .int .i64 0, .int .i64 0, .int .i64 0]), 7, 56) := by kernel_rfl
theorem sizeSlot : (Tryz.prog.info? 45).map (·.size) = some 7 := by kernel_rfl
/-- .. of one block, whole. -/
structure RepO (E B N : Nat) (c : List Value) (m : Nat) (w : World) : Prop where
 r : Rep B N c m w
 k : ∃ cur, w.heap[B]? = some (.cells cur E (0, 0)) ∧ cur.size = N * c.length
theorem blk_sets {B E n : Nat} : ∀ (vs : List Value) (o : Nat) (w : World), (∃ cur, w.heap[B]? = some (.cells cur E (0, 0)) ∧ cur.size = n) → ∃ cur, (w.setCells B o vs).heap[B]? = some (.cells cur E (0, 0)) ∧ cur.size = n
 | [], _, _, h => h
 | v :: r, o, w, ⟨cur, h1, h2⟩ => blk_sets r (o + 1) (w.setCell ⟨B, o, none⟩ v) ⟨cur.setIfInBounds o v, heap_setCell_same w B o cur E v h1, by rw [Array.size_setIfInBounds]; exact h2⟩
theorem blk_new (w : World) (cs : Array Value) (e n : Nat) (h : cs.size = n) : ∃ cur, (w.alloc (.cells cs e)).heap[w.heap.size]? = some (.cells cur e (0, 0)) ∧ cur.size = n := ⟨cs, by show (w.heap.push _)[w.heap.size]? = _; exact Array.getElem?_push_size, h⟩
theorem RepO.src {E B N m t : Nat} {c : List Value} {w : World} (h : RepO E B N c m w) (hc : 0 < c.length) (ht : t ≤ m) : ∀ j v, (rep t c)[j]? = some v → w.cell? ⟨B, j, none⟩ = some v := h.r.src hc ht
theorem RepO.more {E B N m t : Nat} {c : List Value} {w : World} (h : RepO E B N c m w) (ht : m + t ≤ N) : RepO E B N c (m + t) (w.setCells B (m * c.length) (rep t c)) := ⟨h.r.more ht, blk_sets _ _ _ h.k⟩
theorem RepO.own {E B N : Nat} {c : List Value} {w : World} (h : RepO E B N c N w) (hc : 0 < c.length) {L : Nat} (hL : L ≤ B) (hN : N ≤ 1000) : w.ownsRow L E c.length (.slice (some ⟨B, 0, none⟩) N N) N (rep N c) := by
 obtain ⟨cur, h1, h2⟩ := h.k
 refine ⟨rep_len N c, .inr ⟨B, N, cur, rfl, hL, h1, Nat.le_refl _, by unfold maxLen; omega, h2, ?_⟩⟩
 apply List.ext_getElem?
 intro j
 rw [List.take_of_length_le (by rw [Array.length_toList, h2]; exact Nat.le_refl _)]
 rcases Nat.lt_or_ge j (N * c.length) with hj | hj
 ·have hv : (rep N c)[j]? = some ((rep N c)[j]'(by rw [rep_len]; exact hj)) := List.getElem?_eq_getElem _
  have := h.src hc (Nat.le_refl _) j _ hv
  rw [hv]
  simp only [World.cell?, h1] at this
  rw [Array.getElem?_toList]
  simpa using this
 ·rw [List.getElem?_eq_none (by rw [Array.length_toList, h2]; exact hj), List.getElem?_eq_none (by rw [rep_len]; exact hj)]
set_option maxRecDepth 100000 in
set_option maxHeartbeats 1000000 in
theorem repOSlot (xb xc : Nat) (c : List Value) (hc : c.length = 7) (h1c : ∀ v ∈ c, v.oneCell' = true) (n : Nat) (w : World) (hx : w.rangeAt xb 0 c) (hn : 1 ≤ n) (hn2 : n ≤ 400) :
  Calls Tryz.prog 151 #[.slice (some ⟨xb, 0, none⟩) 1 xc, .int .i64 n] w fun r w' => ∃ B, r = .returned (.slice (some ⟨B, 0, none⟩) n n) ∧ w.heap.size ≤ B ∧ w'.ownsRow w.heap.size 45 7 (.slice (some ⟨B, 0, none⟩) n n) n (rep n c) ∧ Below w.heap.size w w' := by
 have hmk := make_row (n := n) Tryz.underlying23 infoSlot (by decide) (by decide) (by omega) w
 have R1 := hid (show RepO 45 w.heap.size n c 0 (w.alloc (.cells (madeCells (Value.cells (.agg #[.int .i64 0, .int .i64 0, .int .i64 0, .int .i64 0, .int .i64 0, .int .i64 0, .int .i64 0])) (n * 7)) 45)) from ⟨⟨there_new _ _ _ _ _ rfl (by rw [size_madeCells, hc]; exact Nat.le_refl _), fun j hj => by omega⟩, blk_new w _ _ _ (by rw [size_madeCells, hc])⟩)
 have B1 := hid (bal (Below.refl w.heap.size w) (.cells (madeCells (Value.cells (.agg #[.int .i64 0, .int .i64 0, .int .i64 0, .int .i64 0, .int .i64 0, .int .i64 0, .int .i64 0])) (n * 7)) 45))
 have X1 := hid (range_belowO hx (bal (Below.refl w.heap.size w) (.cells (madeCells (Value.cells (.agg #[.int .i64 0, .int .i64 0, .int .i64 0, .int .i64 0, .int .i64 0, .int .i64 0, .int .i64 0])) (n * 7)) 45)))
 obtain ⟨W1, hW1⟩ : ∃ W, W = w.alloc (.cells (madeCells (Value.cells (.agg #[.int .i64 0, .int .i64 0, .int .i64 0, .int .i64 0, .int .i64 0, .int .i64 0, .int .i64 0])) (n * 7)) 45) := ⟨_, rfl⟩
 rw [← hW1] at hmk R1 B1 X1
 clear hW1 hx
 have m1 : Nat.min 1 n = 1 := Nat.min_eq_left hn
 have hcp := run_copy_wide (P := Tryz.prog) W1 23 23 3 45 w.heap.size 0 n n ⟨xb, 0, none⟩ 1 xc 7 c Tryz.underlying23 sizeSlot (by rw [m1, hc]) (fun j v hv => by rw [Addr.add_mid]; exact X1.out j v hv) (fun j hj => R1.out.r.there j (Nat.lt_of_lt_of_le hj (Nat.le_mul_of_pos_left _ (by omega)))) h1c
 rw [m1] at hcp
 have R2 := hid (R1.out.more (t := 1) (by omega))
 rw [Nat.zero_add, Nat.zero_mul, show rep 1 c = c by simp [rep]] at R2
 have B2 := hid (below_setCells B1.out (Nat.le_refl _) c 0)
 obtain ⟨W2, hW2⟩ : ∃ W, W = W1.setCells w.heap.size 0 c := ⟨_, rfl⟩
 rw [← hW2] at hcp R2 B2
 have HC := hid hc
 have H1 := hid h1c
 clear hW2 R1 B1 X1 m1 hc h1c
 have n0 : (0 : Int) ≤ n := by omega
 have n1 : (n : Int) ≤ 400 := by omega
 have wu := wraps_u64 n n0 (by omega)
 have wo : IntKind.u64.wrap 1 = 1 := wraps_u64 1 (by decide) (by decide)
 go_enter Tryz.func151, Tryz.ntmps151
 go_wp2_with fail
 refine (mul_one n w (by omega)).mono ?_
 rintro e wx ⟨rfl, rfl⟩
 go_wp2_with fail
 go_loopw [8] (fun i wr => ∃ m : Nat, 1 ≤ m ∧ m ≤ n ∧ i = .int .i64 m ∧ Hid (RepO 45 w.heap.size n c m wr) ∧ Hid (Below w.heap.size w wr)) (fun i _ => n - (intOf i).toNat)
 case atStart => exact ⟨1, by omega, hn, rfl, R2, B2⟩
 case round =>
  obtain ⟨m, hm1, hm2, rfl, HR, HB⟩ := hrel
  by_cases hlt : m < n
  ·have hlt2 : (m : Int) < (n : Int) := by omega
   have hle : (m : Int) ≤ (n : Int) := by omega
   obtain ⟨t, ht⟩ : ∃ t, t = Nat.min m (n - m) := ⟨_, rfl⟩
   have t0 : 1 ≤ t ∧ t ≤ m ∧ m + t ≤ n := by
    rw [ht]
    have h1 := Nat.min_le_left m (n - m)
    have h2 := Nat.min_le_right m (n - m)
    have h3 : 1 ≤ min m (n - m) := Nat.le_min.2 ⟨hm1, by omega⟩
    exact ⟨h3, h1, by have : Nat.min m (n - m) ≤ n - m := h2; omega⟩
   obtain ⟨t1, t2, t3⟩ := t0
   have HD : Hid (RepO 45 w.heap.size n c m wr.drew) := hid ⟨⟨HR.out.r.there, HR.out.r.got⟩, HR.out.k⟩
   have HN := hid (show (rep t c).length = Nat.min m (n - m) * 7 by rw [rep_len, HC.out, ← ht])
   have SRC := hid (show ∀ j v, (rep t c)[j]? = some v → wr.drew.cell? ((⟨w.heap.size, 0, none⟩ : Addr).add j) = some v from fun j v hv => by
    rw [Addr.add_mid, Nat.zero_add]
    exact HD.out.src (by rw [HC.out]; decide) t2 j v hv)
   have THE := hid (show wr.drew.there w.heap.size (m * 7) (rep t c).length from fun j hj => by
    rw [rep_len, HC.out] at hj
    have h2 : m * 7 + t * 7 ≤ n * 7 := by rw [← Nat.add_mul]; exact Nat.mul_le_mul_right _ t3
    have := HD.out.r.there (m * 7 + j) (by rw [HC.out]; omega)
    rwa [Nat.zero_add] at this)
   have ONE := hid (rep_one t c H1.out)
   have R3 := hid (HD.out.more t3)
   rw [HC.out] at R3
   have B3 := hid (below_setCells (btr HB.out (below_drew wr 1)) (Nat.le_refl _) (rep t c) (m * 7))
   have hcp2 := run_copy_wide (P := Tryz.prog) wr.drew 23 23 3 45 w.heap.size (m * 7) (n - m) (n - m) ⟨w.heap.size, 0, none⟩ m n 7 (rep t c) Tryz.underlying23 sizeSlot HN.out SRC.out THE.out ONE.out
   rw [← ht] at hcp2
   obtain ⟨W3, hW3⟩ : ∃ W, W = wr.drew.setCells w.heap.size (m * 7) (rep t c) := ⟨_, rfl⟩
   have e3 : (wr.drewN 1).setCells w.heap.size (m * 7) (rep t c) = W3 := hW3.symm
   rw [← hW3] at hcp2 R3
   rw [e3] at B3
   clear ht hW3 e3 HN SRC THE ONE HD
   have wi : IntKind.i64.wrap ((m : Int) + (t : Int)) = (m : Int) + (t : Int) := wraps_i64 _ (by omega) (by omega)
   go_wp2_with fail
   go_region_held3 (fun _ => True) (trivial) (fail)
   all_goals go_wp2_with fail
   all_goals exact ⟨⟨m + t, by omega, by omega, by go_num, R3, B3⟩, by simp [intOf]; omega⟩
  ·obtain rfl : m = n := by omega
   have hge : ¬ ((m : Int) < (m : Int)) := by omega
   go_wp2_with fail
   go_ret
   exact ⟨_, rfl, Nat.le_refl _, by have := HR.out.own (by rw [HC.out]; decide) (Nat.le_refl _) (by omega); rwa [HC.out] at this, HB.out⟩
theorem infoTask : (Tryz.prog.info? 68).map (fun i => (i.zero, i.size, i.bytes)) = some (some (.agg #[.int .i64 0, .int .i64 0, .int .i64 0, .int .i64 0, .int .i64 0, .int .i64 0, .int .i64 0, .int .i64 0, .int .i64 0, .int .i64 0, .int .i64 0, .int .i64 0, .int .i64 0, .int .i64 0, .int .i64 0, .int .i64 0, .int .i64 0, .int .i64 0, .int .i64 0, .int .i64 0]), 20, 160) := by kernel_rfl
theorem sizeTask : (Tryz.prog.info? 68).map (·.size) = some 20 := by kernel_rfl
set_option maxRecDepth 100000 in
set_option maxHeartbeats 1000000 in
theorem repOTask (xb xc : Nat) (c : List Value) (hc : c.length = 20) (h1c : ∀ v ∈ c, v.oneCell' = true) (n : Nat) (w : World) (hx : w.rangeAt xb 0 c) (hn : 1 ≤ n) (hn2 : n ≤ 400) :
  Calls Tryz.prog 153 #[.slice (some ⟨xb, 0, none⟩) 1 xc, .int .i64 n] w fun r w' => ∃ B, r = .returned (.slice (some ⟨B, 0, none⟩) n n) ∧ w.heap.size ≤ B ∧ w'.ownsRow w.heap.size 68 20 (.slice (some ⟨B, 0, none⟩) n n) n (rep n c) ∧ Below w.heap.size w w' := by
 have hmk := make_row (n := n) Tryz.underlying24 infoTask (by decide) (by decide) (by omega) w
 have R1 := hid (show RepO 68 w.heap.size n c 0 (w.alloc (.cells (madeCells (Value.cells (.agg #[.int .i64 0, .int .i64 0, .int .i64 0, .int .i64 0, .int .i64 0, .int .i64 0, .int .i64 0, .int .i64 0, .int .i64 0, .int .i64 0, .int .i64 0, .int .i64 0, .int .i64 0, .int .i64 0, .int .i64 0, .int .i64 0, .int .i64 0, .int .i64 0, .int .i64 0, .int .i64 0])) (n * 20)) 68)) from ⟨⟨there_new _ _ _ _ _ rfl (by rw [size_madeCells, hc]; exact Nat.le_refl _), fun j hj => by omega⟩, blk_new w _ _ _ (by rw [size_madeCells, hc])⟩)
 have B1 := hid (bal (Below.refl w.heap.size w) (.cells (madeCells (Value.cells (.agg #[.int .i64 0, .int .i64 0, .int .i64 0, .int .i64 0, .int .i64 0, .int .i64 0, .int .i64 0, .int .i64 0, .int .i64 0, .int .i64 0, .int .i64 0, .int .i64 0, .int .i64 0, .int .i64 0, .int .i64 0, .int .i64 0, .int .i64 0, .int .i64 0, .int .i64 0, .int .i64 0])) (n * 20)) 68))
 have X1 := hid (range_belowO hx (bal (Below.refl w.heap.size w) (.cells (madeCells (Value.cells (.agg #[.int .i64 0, .int .i64 0, .int .i64 0, .int .i64 0, .int .i64 0, .int .i64 0, .int .i64 0, .int .i64 0, .int .i64 0, .int .i64 0, .int .i64 0, .int .i64 0, .int .i64 0, .int .i64 0, .int .i64 0, .int .i64 0, .int .i64 0, .int .i64 0, .int .i64 0, .int .i64 0])) (n * 20)) 68)))
 obtain ⟨W1, hW1⟩ : ∃ W, W = w.alloc (.cells (madeCells (Value.cells (.agg #[.int .i64 0, .int .i64 0, .int .i64 0, .int .i64 0, .int .i64 0, .int .i64 0, .int .i64 0, .int .i64 0, .int .i64 0, .int .i64 0, .int .i64 0, .int .i64 0, .int .i64 0, .int .i64 0, .int .i64 0, .int .i64 0, .int .i64 0, .int .i64 0, .int .i64 0, .int .i64 0])) (n * 20)) 68) := ⟨_, rfl⟩
 rw [← hW1] at hmk R1 B1 X1
 clear hW1 hx
 have m1 : Nat.min 1 n = 1 := Nat.min_eq_left hn
 have hcp := run_copy_wide (P := Tryz.prog) W1 24 24 3 68 w.heap.size 0 n n ⟨xb, 0, none⟩ 1 xc 20 c Tryz.underlying24 sizeTask (by rw [m1, hc]) (fun j v hv => by rw [Addr.add_mid]; exact X1.out j v hv) (fun j hj => R1.out.r.there j (Nat.lt_of_lt_of_le hj (Nat.le_mul_of_pos_left _ (by omega)))) h1c
 rw [m1] at hcp
 have R2 := hid (R1.out.more (t := 1) (by omega))
 rw [Nat.zero_add, Nat.zero_mul, show rep 1 c = c by simp [rep]] at R2
 have B2 := hid (below_setCells B1.out (Nat.le_refl _) c 0)
 obtain ⟨W2, hW2⟩ : ∃ W, W = W1.setCells w.heap.size 0 c := ⟨_, rfl⟩
 rw [← hW2] at hcp R2 B2
 have HC := hid hc
 have H1 := hid h1c
 clear hW2 R1 B1 X1 m1 hc h1c
 have n0 : (0 : Int) ≤ n := by omega
 have n1 : (n : Int) ≤ 400 := by omega
 have wu := wraps_u64 n n0 (by omega)
 have wo : IntKind.u64.wrap 1 = 1 := wraps_u64 1 (by decide) (by decide)
 go_enter Tryz.func153, Tryz.ntmps153
 go_wp2_with fail
 refine (mul_one n w (by omega)).mono ?_
 rintro e wx ⟨rfl, rfl⟩
 go_wp2_with fail
 go_loopw [8] (fun i wr => ∃ m : Nat, 1 ≤ m ∧ m ≤ n ∧ i = .int .i64 m ∧ Hid (RepO 68 w.heap.size n c m wr) ∧ Hid (Below w.heap.size w wr)) (fun i _ => n - (intOf i).toNat)
 case atStart => exact ⟨1, by omega, hn, rfl, R2, B2⟩
 case round =>
  obtain ⟨m, hm1, hm2, rfl, HR, HB⟩ := hrel
  by_cases hlt : m < n
  ·have hlt2 : (m : Int) < (n : Int) := by omega
   have hle : (m : Int) ≤ (n : Int) := by omega
   obtain ⟨t, ht⟩ : ∃ t, t = Nat.min m (n - m) := ⟨_, rfl⟩
   have t0 : 1 ≤ t ∧ t ≤ m ∧ m + t ≤ n := by
    rw [ht]
    have h1 := Nat.min_le_left m (n - m)
    have h2 := Nat.min_le_right m (n - m)
    have h3 : 1 ≤ min m (n - m) := Nat.le_min.2 ⟨hm1, by omega⟩
    exact ⟨h3, h1, by have : Nat.min m (n - m) ≤ n - m := h2; omega⟩
   obtain ⟨t1, t2, t3⟩ := t0
   have HD : Hid (RepO 68 w.heap.size n c m wr.drew) := hid ⟨⟨HR.out.r.there, HR.out.r.got⟩, HR.out.k⟩
   have HN := hid (show (rep t c).length = Nat.min m (n - m) * 20 by rw [rep_len, HC.out, ← ht])
   have SRC := hid (show ∀ j v, (rep t c)[j]? = some v → wr.drew.cell? ((⟨w.heap.size, 0, none⟩ : Addr).add j) = some v from fun j v hv => by
    rw [Addr.add_mid, Nat.zero_add]
    exact HD.out.src (by rw [HC.out]; decide) t2 j v hv)
   have THE := hid (show wr.drew.there w.heap.size (m * 20) (rep t c).length from fun j hj => by
    rw [rep_len, HC.out] at hj
    have h2 : m * 20 + t * 20 ≤ n * 20 := by rw [← Nat.add_mul]; exact Nat.mul_le_mul_right _ t3
    have := HD.out.r.there (m * 20 + j) (by rw [HC.out]; omega)
    rwa [Nat.zero_add] at this)
   have ONE := hid (rep_one t c H1.out)
   have R3 := hid (HD.out.more t3)
   rw [HC.out] at R3
   have B3 := hid (below_setCells (btr HB.out (below_drew wr 1)) (Nat.le_refl _) (rep t c) (m * 20))
   have hcp2 := run_copy_wide (P := Tryz.prog) wr.drew 24 24 3 68 w.heap.size (m * 20) (n - m) (n - m) ⟨w.heap.size, 0, none⟩ m n 20 (rep t c) Tryz.underlying24 sizeTask HN.out SRC.out THE.out ONE.out
   rw [← ht] at hcp2
   obtain ⟨W3, hW3⟩ : ∃ W, W = wr.drew.setCells w.heap.size (m * 20) (rep t c) := ⟨_, rfl⟩
   have e3 : (wr.drewN 1).setCells w.heap.size (m * 20) (rep t c) = W3 := hW3.symm
   rw [← hW3] at hcp2 R3
   rw [e3] at B3
   clear ht hW3 e3 HN SRC THE ONE HD
   have wi : IntKind.i64.wrap ((m : Int) + (t : Int)) = (m : Int) + (t : Int) := wraps_i64 _ (by omega) (by omega)
   go_wp2_with fail
   go_region_held3 (fun _ => True) (trivial) (fail)
   all_goals go_wp2_with fail
   all_goals exact ⟨⟨m + t, by omega, by omega, by go_num, R3, B3⟩, by simp [intOf]; omega⟩
  ·obtain rfl : m = n := by omega
   have hge : ¬ ((m : Int) < (m : Int)) := by omega
   go_wp2_with fail
   go_ret
   exact ⟨_, rfl, Nat.le_refl _, by have := HR.out.own (by rw [HC.out]; decide) (Nat.le_refl _) (by omega); rwa [HC.out] at this, HB.out⟩
theorem infoInt : (Tryz.prog.info? 3).map (fun i => (i.zero, i.size, i.bytes)) = some (some (.int .i64 0), 1, 8) := by kernel_rfl
theorem sizeInt : (Tryz.prog.info? 3).map (·.size) = some 1 := by kernel_rfl
set_option maxRecDepth 100000 in
set_option maxHeartbeats 1000000 in
theorem repOInt (xb xc : Nat) (c : List Value) (hc : c.length = 1) (h1c : ∀ v ∈ c, v.oneCell' = true) (n : Nat) (w : World) (hx : w.rangeAt xb 0 c) (hn : 1 ≤ n) (hn2 : n ≤ 400) :
  Calls Tryz.prog 154 #[.slice (some ⟨xb, 0, none⟩) 1 xc, .int .i64 n] w fun r w' => ∃ B, r = .returned (.slice (some ⟨B, 0, none⟩) n n) ∧ w.heap.size ≤ B ∧ w'.ownsRow w.heap.size 3 1 (.slice (some ⟨B, 0, none⟩) n n) n (rep n c) ∧ Below w.heap.size w w' := by
 have hmk := make_row (n := n) Tryz.underlying22 infoInt (by decide) (by decide) (by omega) w
 have R1 := hid (show RepO 3 w.heap.size n c 0 (w.alloc (.cells (madeCells (Value.cells (.int .i64 0)) (n * 1)) 3)) from ⟨⟨there_new _ _ _ _ _ rfl (by rw [size_madeCells, hc]; exact Nat.le_refl _), fun j hj => by omega⟩, blk_new w _ _ _ (by rw [size_madeCells, hc])⟩)
 have B1 := hid (bal (Below.refl w.heap.size w) (.cells (madeCells (Value.cells (.int .i64 0)) (n * 1)) 3))
 have X1 := hid (range_belowO hx (bal (Below.refl w.heap.size w) (.cells (madeCells (Value.cells (.int .i64 0)) (n * 1)) 3)))
 obtain ⟨W1, hW1⟩ : ∃ W, W = w.alloc (.cells (madeCells (Value.cells (.int .i64 0)) (n * 1)) 3) := ⟨_, rfl⟩
 rw [← hW1] at hmk R1 B1 X1
 clear hW1 hx
 have m1 : Nat.min 1 n = 1 := Nat.min_eq_left hn
 have hcp := run_copy_wide (P := Tryz.prog) W1 22 22 3 3 w.heap.size 0 n n ⟨xb, 0, none⟩ 1 xc 1 c Tryz.underlying22 sizeInt (by rw [m1, hc]) (fun j v hv => by rw [Addr.add_mid]; exact X1.out j v hv) (fun j hj => R1.out.r.there j (Nat.lt_of_lt_of_le hj (Nat.le_mul_of_pos_left _ (by omega)))) h1c
 rw [m1] at hcp
 have R2 := hid (R1.out.more (t := 1) (by omega))
 rw [Nat.zero_add, Nat.zero_mul, show rep 1 c = c by simp [rep]] at R2
 have B2 := hid (below_setCells B1.out (Nat.le_refl _) c 0)
 obtain ⟨W2, hW2⟩ : ∃ W, W = W1.setCells w.heap.size 0 c := ⟨_, rfl⟩
 rw [← hW2] at hcp R2 B2
 have HC := hid hc
 have H1 := hid h1c
 clear hW2 R1 B1 X1 m1 hc h1c
 have n0 : (0 : Int) ≤ n := by omega
 have n1 : (n : Int) ≤ 400 := by omega
 have wu := wraps_u64 n n0 (by omega)
 have wo : IntKind.u64.wrap 1 = 1 := wraps_u64 1 (by decide) (by decide)
 go_enter Tryz.func154, Tryz.ntmps154
 go_wp2_with fail
 refine (mul_one n w (by omega)).mono ?_
 rintro e wx ⟨rfl, rfl⟩
 go_wp2_with fail
 go_loopw [8] (fun i wr => ∃ m : Nat, 1 ≤ m ∧ m ≤ n ∧ i = .int .i64 m ∧ Hid (RepO 3 w.heap.size n c m wr) ∧ Hid (Below w.heap.size w wr)) (fun i _ => n - (intOf i).toNat)
 case atStart => exact ⟨1, by omega, hn, rfl, R2, B2⟩
 case round =>
  obtain ⟨m, hm1, hm2, rfl, HR, HB⟩ := hrel
  by_cases hlt : m < n
  ·have hlt2 : (m : Int) < (n : Int) := by omega
   have hle : (m : Int) ≤ (n : Int) := by omega
   obtain ⟨t, ht⟩ : ∃ t, t = Nat.min m (n - m) := ⟨_, rfl⟩
   have t0 : 1 ≤ t ∧ t ≤ m ∧ m + t ≤ n := by
    rw [ht]
    have h1 := Nat.min_le_left m (n - m)
    have h2 := Nat.min_le_right m (n - m)
    have h3 : 1 ≤ min m (n - m) := Nat.le_min.2 ⟨hm1, by omega⟩
    exact ⟨h3, h1, by have : Nat.min m (n - m) ≤ n - m := h2; omega⟩
   obtain ⟨t1, t2, t3⟩ := t0
   have HD : Hid (RepO 3 w.heap.size n c m wr.drew) := hid ⟨⟨HR.out.r.there, HR.out.r.got⟩, HR.out.k⟩
   have HN := hid (show (rep t c).length = Nat.min m (n - m) * 1 by rw [rep_len, HC.out, ← ht])
   have SRC := hid (show ∀ j v, (rep t c)[j]? = some v → wr.drew.cell? ((⟨w.heap.size, 0, none⟩ : Addr).add j) = some v from fun j v hv => by
    rw [Addr.add_mid, Nat.zero_add]
    exact HD.out.src (by rw [HC.out]; decide) t2 j v hv)
   have THE := hid (show wr.drew.there w.heap.size (m * 1) (rep t c).length from fun j hj => by
    rw [rep_len, HC.out] at hj
    have h2 : m * 1 + t * 1 ≤ n * 1 := by rw [← Nat.add_mul]; exact Nat.mul_le_mul_right _ t3
    have := HD.out.r.there (m * 1 + j) (by rw [HC.out]; omega)
    rwa [Nat.zero_add] at this)
   have ONE := hid (rep_one t c H1.out)
   have R3 := hid (HD.out.more t3)
   rw [HC.out] at R3
   have B3 := hid (below_setCells (btr HB.out (below_drew wr 1)) (Nat.le_refl _) (rep t c) (m * 1))
   have hcp2 := run_copy_wide (P := Tryz.prog) wr.drew 22 22 3 3 w.heap.size (m * 1) (n - m) (n - m) ⟨w.heap.size, 0, none⟩ m n 1 (rep t c) Tryz.underlying22 sizeInt HN.out SRC.out THE.out ONE.out
   rw [← ht] at hcp2
   obtain ⟨W3, hW3⟩ : ∃ W, W = wr.drew.setCells w.heap.size (m * 1) (rep t c) := ⟨_, rfl⟩
   have e3 : (wr.drewN 1).setCells w.heap.size (m * 1) (rep t c) = W3 := hW3.symm
   rw [← hW3] at hcp2 R3
   rw [e3] at B3
   clear ht hW3 e3 HN SRC THE ONE HD
   have wi : IntKind.i64.wrap ((m : Int) + (t : Int)) = (m : Int) + (t : Int) := wraps_i64 _ (by omega) (by omega)
   rw [Nat.mul_one] at hcp2
   go_wp2_with fail
   go_region_held3 (fun _ => True) (trivial) (fail)
   all_goals go_wp2_with fail
   all_goals exact ⟨⟨m + t, by omega, by omega, by go_num, R3, B3⟩, by simp [intOf]; omega⟩
  ·obtain rfl : m = n := by omega
   have hge : ¬ ((m : Int) < (m : Int)) := by omega
   go_wp2_with fail
   go_ret
   exact ⟨_, rfl, Nat.le_refl _, by have := HR.out.own (by rw [HC.out]; decide) (Nat.le_refl _) (by omega); rwa [HC.out] at this, HB.out⟩
end Go.Proofs.YtkocmkaeaagbaaaGreatDoor.Wd
