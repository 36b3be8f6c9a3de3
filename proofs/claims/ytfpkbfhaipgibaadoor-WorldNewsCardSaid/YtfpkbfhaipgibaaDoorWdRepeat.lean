/- slices.Repeat of one slot, of one task, of one number. -/
import Derived.Test.YtfpkbfhaipgibaaDoorWdRep
namespace Go.Proofs.YtfpkbfhaipgibaaDoor.Wd
open Go.RowKit Go.Proofs.YtfpkbfhaipgibaaDoor.Mem Go.Proofs.YtfpkbfhaipgibaaDoor.Bw Go.Proofs.YtfpkbfhaipgibaaDoor.Nums Go.Proofs.YtfpkbfhaipgibaaDoor.Mmu

theorem below_setCells {w w' : World} (h : Below w.heap.size w w') {b : Nat} (hb : w.heap.size ≤ b) : ∀ (vs : List Value) (o : Nat), Below w.heap.size w (w'.setCells b o vs)
  | [], _ => h
  | v :: r, o => by
    rw [World.setCells]
    exact below_setCells (bset h hb v) hb r (o + 1)
theorem make_row {T E : TypeId} {z : Value} {sz bytes : Nat} (hT : Tryd.prog.underlying T = some (.slice E)) (hinfo : (Tryd.prog.info? E).map (fun i => (i.zero, i.size, i.bytes)) = some (some z, sz, bytes)) (hsz : sz ≤ 100) (hby : bytes ≤ 1000) (n : Nat) (hn : n ≤ 1000) (w : World) :
    (Instr.makeSlice T (.int .i64 n) (.int .i64 n)).run Tryd.prog w = .ok (.slice (some ⟨w.heap.size, 0, none⟩) n n) (w.alloc (.cells (madeCells z.cells (n * sz)) E)) := by
  obtain ⟨i0, hi, hz0, hz1, hz2⟩ := info_get hinfo
  have h1 : n * i0.size ≤ 1000 * 100 := by rw [hz1]; exact Nat.mul_le_mul hn hsz
  have h2 : i0.bytes * n ≤ 1000 * 1000 := by rw [hz2]; exact Nat.mul_le_mul hby hn
  have hr := run_makeSlice (P := Tryd.prog) w T E i0 z hT hi hz0 .i64 .i64 n n (by omega) (Int.le_refl _) (by simp only [Int.toNat_natCast]; omega) (by
    have : ((i0.bytes * n : Nat) : Int) ≤ 281474976710656 := by omega
    rwa [Int.natCast_mul] at this) (by omega)
  simp only [Int.toNat_natCast] at hr
  rw [hz1] at hr
  exact hr
theorem infoSlot : (Tryd.prog.info? 115).map (fun i => (i.zero, i.size, i.bytes)) = some (some (.agg #[.int .i64 0, .int .i64 0, .int .i64 0, .int .i64 0, .int .i64 0, .int .i64 0, .int .i64 0]), 7, 56) := by kernel_rfl
theorem sizeSlot : (Tryd.prog.info? 115).map (·.size) = some 7 := by kernel_rfl
set_option maxRecDepth 100000 in
set_option maxHeartbeats 1000000 in
theorem repeatSlot (xb xc : Nat) (c : List Value) (hc : c.length = 7) (h1c : ∀ v ∈ c, v.oneCell' = true) (n : Nat) (w : World) (hx : w.rangeAt xb 0 c) (hn : 1 ≤ n) (hn2 : n ≤ 400) :
    Calls Tryd.prog 60 #[.slice (some ⟨xb, 0, none⟩) 1 xc, .int .i64 n] w fun r w' => ∃ B, r = .returned (.slice (some ⟨B, 0, none⟩) n n) ∧ w.heap.size ≤ B ∧ (∀ j, j < n → w'.rangeAt B (j * 7) c) ∧ Below w.heap.size w w' := by
  have hmk := make_row (n := n) Tryd.underlying63 infoSlot (by decide) (by decide) (by omega) w
  have R1 := hid (show Rep w.heap.size n c 0 (w.alloc (.cells (madeCells (Value.cells (.agg #[.int .i64 0, .int .i64 0, .int .i64 0, .int .i64 0, .int .i64 0, .int .i64 0, .int .i64 0])) (n * 7)) 115)) from ⟨there_new _ _ _ _ _ rfl (by rw [size_madeCells, hc]; exact Nat.le_refl _), fun j hj => by omega⟩)
  have B1 := hid (bal (Below.refl w.heap.size w) (.cells (madeCells (Value.cells (.agg #[.int .i64 0, .int .i64 0, .int .i64 0, .int .i64 0, .int .i64 0, .int .i64 0, .int .i64 0])) (n * 7)) 115))
  have X1 := hid (range_belowO hx (bal (Below.refl w.heap.size w) (.cells (madeCells (Value.cells (.agg #[.int .i64 0, .int .i64 0, .int .i64 0, .int .i64 0, .int .i64 0, .int .i64 0, .int .i64 0])) (n * 7)) 115)))
  obtain ⟨W1, hW1⟩ : ∃ W, W = w.alloc (.cells (madeCells (Value.cells (.agg #[.int .i64 0, .int .i64 0, .int .i64 0, .int .i64 0, .int .i64 0, .int .i64 0, .int .i64 0])) (n * 7)) 115) := ⟨_, rfl⟩
  rw [← hW1] at hmk R1 B1 X1
  clear hW1 hx
  have m1 : Nat.min 1 n = 1 := Nat.min_eq_left hn
  have hcp := run_copy_wide (P := Tryd.prog) W1 63 63 3 115 w.heap.size 0 n n ⟨xb, 0, none⟩ 1 xc 7 c Tryd.underlying63 sizeSlot (by rw [m1, hc]) (fun j v hv => by rw [Addr.add_mid]; exact X1.out j v hv) (fun j hj => R1.out.there j (Nat.lt_of_lt_of_le hj (Nat.le_mul_of_pos_left _ (by omega)))) h1c
  rw [m1] at hcp
  have R2 := hid (R1.out.more (t := 1) (by omega))
  rw [Nat.zero_add, Nat.zero_mul, show rep 1 c = c by simp [rep]] at R2
  have B2 := hid (below_setCells B1.out (Nat.le_refl _) c 0)
  obtain ⟨W2, hW2⟩ : ∃ W, W = W1.setCells w.heap.size 0 c := ⟨_, rfl⟩
  rw [← hW2] at hcp R2 B2
  have HC := hid hc
  have H1 := hid h1c
  clear hW2 R1 B1 X1 m1 hc h1c
  have n0 : (0 : Int) ≤ n := by omega
  have n1 : (n : Int) ≤ 400 := by omega
  have wu := wraps_u64 n n0 (by omega)
  have wo : IntKind.u64.wrap 1 = 1 := wraps_u64 1 (by decide) (by decide)
  go_enter Tryd.func60, Tryd.ntmps60
  go_wp2_with fail
  refine (mul_one n w (by omega)).mono ?_
  rintro e wx ⟨rfl, rfl⟩
  go_wp2_with fail
  go_loopw [8] (fun i wr => ∃ m : Nat, 1 ≤ m ∧ m ≤ n ∧ i = .int .i64 m ∧ Hid (Rep w.heap.size n c m wr) ∧ Hid (Below w.heap.size w wr)) (fun i _ => n - (intOf i).toNat)
  case atStart => exact ⟨1, by omega, hn, rfl, R2, B2⟩
  case round =>
    obtain ⟨m, hm1, hm2, rfl, HR, HB⟩ := hrel
    by_cases hlt : m < n
    · have hlt2 : (m : Int) < (n : Int) := by omega
      have hle : (m : Int) ≤ (n : Int) := by omega
      obtain ⟨t, ht⟩ : ∃ t, t = Nat.min m (n - m) := ⟨_, rfl⟩
      have t0 : 1 ≤ t ∧ t ≤ m ∧ m + t ≤ n := by
        rw [ht]
        have h1 := Nat.min_le_left m (n - m)
        have h2 := Nat.min_le_right m (n - m)
        have h3 : 1 ≤ min m (n - m) := Nat.le_min.2 ⟨hm1, by omega⟩
        exact ⟨h3, h1, by have : Nat.min m (n - m) ≤ n - m := h2; omega⟩
      obtain ⟨t1, t2, t3⟩ := t0
      have HD : Hid (Rep w.heap.size n c m wr.drew) := hid ⟨HR.out.there, HR.out.got⟩
      have HN := hid (show (rep t c).length = Nat.min m (n - m) * 7 by rw [rep_len, HC.out, ← ht])
      have SRC := hid (show ∀ j v, (rep t c)[j]? = some v → wr.drew.cell? ((⟨w.heap.size, 0, none⟩ : Addr).add j) = some v from fun j v hv => by
        rw [Addr.add_mid, Nat.zero_add]
        exact HD.out.src (by rw [HC.out]; decide) t2 j v hv)
      have THE := hid (show wr.drew.there w.heap.size (m * 7) (rep t c).length from fun j hj => by
        rw [rep_len, HC.out] at hj
        have h2 : m * 7 + t * 7 ≤ n * 7 := by rw [← Nat.add_mul]; exact Nat.mul_le_mul_right _ t3
        have := HD.out.there (m * 7 + j) (by rw [HC.out]; omega)
        rwa [Nat.zero_add] at this)
      have ONE := hid (rep_one t c H1.out)
      have R3 := hid (HD.out.more t3)
      rw [HC.out] at R3
      have B3 := hid (below_setCells (btr HB.out (below_drew wr 1)) (Nat.le_refl _) (rep t c) (m * 7))
      have hcp2 := run_copy_wide (P := Tryd.prog) wr.drew 63 63 3 115 w.heap.size (m * 7) (n - m) (n - m) ⟨w.heap.size, 0, none⟩ m n 7 (rep t c) Tryd.underlying63 sizeSlot HN.out SRC.out THE.out ONE.out
      rw [← ht] at hcp2
      obtain ⟨W3, hW3⟩ : ∃ W, W = wr.drew.setCells w.heap.size (m * 7) (rep t c) := ⟨_, rfl⟩
      have e3 : (wr.drewN 1).setCells w.heap.size (m * 7) (rep t c) = W3 := hW3.symm
      rw [← hW3] at hcp2 R3
      rw [e3] at B3
      clear ht hW3 e3 HN SRC THE ONE HD
      have wi : IntKind.i64.wrap ((m : Int) + (t : Int)) = (m : Int) + (t : Int) := wraps_i64 _ (by omega) (by omega)
      go_wp2_with fail
      go_region_held3 (fun _ => True) (trivial) (fail)
      all_goals go_wp2_with fail
      all_goals exact ⟨⟨m + t, by omega, by omega, by go_num, R3, B3⟩, by simp [intOf]; omega⟩
    · obtain rfl : m = n := by omega
      have hge : ¬ ((m : Int) < (m : Int)) := by omega
      go_wp2_with fail
      go_ret
      exact ⟨_, rfl, Nat.le_refl _, fun j hj => by have := HR.out.got j hj; rwa [HC.out] at this, HB.out⟩
theorem infoTask : (Tryd.prog.info? 118).map (fun i => (i.zero, i.size, i.bytes)) = some (some (.agg #[.int .i64 0, .int .i64 0, .int .i64 0, .int .i64 0, .int .i64 0, .int .i64 0, .int .i64 0, .int .i64 0, .int .i64 0, .int .i64 0, .int .i64 0, .int .i64 0, .int .i64 0, .int .i64 0, .int .i64 0, .int .i64 0, .int .i64 0, .int .i64 0, .int .i64 0, .int .i64 0]), 20, 160) := by kernel_rfl
theorem sizeTask : (Tryd.prog.info? 118).map (·.size) = some 20 := by kernel_rfl
set_option maxRecDepth 100000 in
set_option maxHeartbeats 1000000 in
theorem repeatTask (xb xc : Nat) (c : List Value) (hc : c.length = 20) (h1c : ∀ v ∈ c, v.oneCell' = true) (n : Nat) (w : World) (hx : w.rangeAt xb 0 c) (hn : 1 ≤ n) (hn2 : n ≤ 400) :
    Calls Tryd.prog 62 #[.slice (some ⟨xb, 0, none⟩) 1 xc, .int .i64 n] w fun r w' => ∃ B, r = .returned (.slice (some ⟨B, 0, none⟩) n n) ∧ w.heap.size ≤ B ∧ (∀ j, j < n → w'.rangeAt B (j * 20) c) ∧ Below w.heap.size w w' := by
  have hmk := make_row (n := n) Tryd.underlying64 infoTask (by decide) (by decide) (by omega) w
  have R1 := hid (show Rep w.heap.size n c 0 (w.alloc (.cells (madeCells (Value.cells (.agg #[.int .i64 0, .int .i64 0, .int .i64 0, .int .i64 0, .int .i64 0, .int .i64 0, .int .i64 0, .int .i64 0, .int .i64 0, .int .i64 0, .int .i64 0, .int .i64 0, .int .i64 0, .int .i64 0, .int .i64 0, .int .i64 0, .int .i64 0, .int .i64 0, .int .i64 0, .int .i64 0])) (n * 20)) 118)) from ⟨there_new _ _ _ _ _ rfl (by rw [size_madeCells, hc]; exact Nat.le_refl _), fun j hj => by omega⟩)
  have B1 := hid (bal (Below.refl w.heap.size w) (.cells (madeCells (Value.cells (.agg #[.int .i64 0, .int .i64 0, .int .i64 0, .int .i64 0, .int .i64 0, .int .i64 0, .int .i64 0, .int .i64 0, .int .i64 0, .int .i64 0, .int .i64 0, .int .i64 0, .int .i64 0, .int .i64 0, .int .i64 0, .int .i64 0, .int .i64 0, .int .i64 0, .int .i64 0, .int .i64 0])) (n * 20)) 118))
  have X1 := hid (range_belowO hx (bal (Below.refl w.heap.size w) (.cells (madeCells (Value.cells (.agg #[.int .i64 0, .int .i64 0, .int .i64 0, .int .i64 0, .int .i64 0, .int .i64 0, .int .i64 0, .int .i64 0, .int .i64 0, .int .i64 0, .int .i64 0, .int .i64 0, .int .i64 0, .int .i64 0, .int .i64 0, .int .i64 0, .int .i64 0, .int .i64 0, .int .i64 0, .int .i64 0])) (n * 20)) 118)))
  obtain ⟨W1, hW1⟩ : ∃ W, W = w.alloc (.cells (madeCells (Value.cells (.agg #[.int .i64 0, .int .i64 0, .int .i64 0, .int .i64 0, .int .i64 0, .int .i64 0, .int .i64 0, .int .i64 0, .int .i64 0, .int .i64 0, .int .i64 0, .int .i64 0, .int .i64 0, .int .i64 0, .int .i64 0, .int .i64 0, .int .i64 0, .int .i64 0, .int .i64 0, .int .i64 0])) (n * 20)) 118) := ⟨_, rfl⟩
  rw [← hW1] at hmk R1 B1 X1
  clear hW1 hx
  have m1 : Nat.min 1 n = 1 := Nat.min_eq_left hn
  have hcp := run_copy_wide (P := Tryd.prog) W1 64 64 3 118 w.heap.size 0 n n ⟨xb, 0, none⟩ 1 xc 20 c Tryd.underlying64 sizeTask (by rw [m1, hc]) (fun j v hv => by rw [Addr.add_mid]; exact X1.out j v hv) (fun j hj => R1.out.there j (Nat.lt_of_lt_of_le hj (Nat.le_mul_of_pos_left _ (by omega)))) h1c
  rw [m1] at hcp
  have R2 := hid (R1.out.more (t := 1) (by omega))
  rw [Nat.zero_add, Nat.zero_mul, show rep 1 c = c by simp [rep]] at R2
  have B2 := hid (below_setCells B1.out (Nat.le_refl _) c 0)
  obtain ⟨W2, hW2⟩ : ∃ W, W = W1.setCells w.heap.size 0 c := ⟨_, rfl⟩
  rw [← hW2] at hcp R2 B2
  have HC := hid hc
  have H1 := hid h1c
  clear hW2 R1 B1 X1 m1 hc h1c
  have n0 : (0 : Int) ≤ n := by omega
  have n1 : (n : Int) ≤ 400 := by omega
  have wu := wraps_u64 n n0 (by omega)
  have wo : IntKind.u64.wrap 1 = 1 := wraps_u64 1 (by decide) (by decide)
  go_enter Tryd.func62, Tryd.ntmps62
  go_wp2_with fail
  refine (mul_one n w (by omega)).mono ?_
  rintro e wx ⟨rfl, rfl⟩
  go_wp2_with fail
  go_loopw [8] (fun i wr => ∃ m : Nat, 1 ≤ m ∧ m ≤ n ∧ i = .int .i64 m ∧ Hid (Rep w.heap.size n c m wr) ∧ Hid (Below w.heap.size w wr)) (fun i _ => n - (intOf i).toNat)
  case atStart => exact ⟨1, by omega, hn, rfl, R2, B2⟩
  case round =>
    obtain ⟨m, hm1, hm2, rfl, HR, HB⟩ := hrel
    by_cases hlt : m < n
    · have hlt2 : (m : Int) < (n : Int) := by omega
      have hle : (m : Int) ≤ (n : Int) := by omega
      obtain ⟨t, ht⟩ : ∃ t, t = Nat.min m (n - m) := ⟨_, rfl⟩
      have t0 : 1 ≤ t ∧ t ≤ m ∧ m + t ≤ n := by
        rw [ht]
        have h1 := Nat.min_le_left m (n - m)
        have h2 := Nat.min_le_right m (n - m)
        have h3 : 1 ≤ min m (n - m) := Nat.le_min.2 ⟨hm1, by omega⟩
        exact ⟨h3, h1, by have : Nat.min m (n - m) ≤ n - m := h2; omega⟩
      obtain ⟨t1, t2, t3⟩ := t0
      have HD : Hid (Rep w.heap.size n c m wr.drew) := hid ⟨HR.out.there, HR.out.got⟩
      have HN := hid (show (rep t c).length = Nat.min m (n - m) * 20 by rw [rep_len, HC.out, ← ht])
      have SRC := hid (show ∀ j v, (rep t c)[j]? = some v → wr.drew.cell? ((⟨w.heap.size, 0, none⟩ : Addr).add j) = some v from fun j v hv => by
        rw [Addr.add_mid, Nat.zero_add]
        exact HD.out.src (by rw [HC.out]; decide) t2 j v hv)
      have THE := hid (show wr.drew.there w.heap.size (m * 20) (rep t c).length from fun j hj => by
        rw [rep_len, HC.out] at hj
        have h2 : m * 20 + t * 20 ≤ n * 20 := by rw [← Nat.add_mul]; exact Nat.mul_le_mul_right _ t3
        have := HD.out.there (m * 20 + j) (by rw [HC.out]; omega)
        rwa [Nat.zero_add] at this)
      have ONE := hid (rep_one t c H1.out)
      have R3 := hid (HD.out.more t3)
      rw [HC.out] at R3
      have B3 := hid (below_setCells (btr HB.out (below_drew wr 1)) (Nat.le_refl _) (rep t c) (m * 20))
      have hcp2 := run_copy_wide (P := Tryd.prog) wr.drew 64 64 3 118 w.heap.size (m * 20) (n - m) (n - m) ⟨w.heap.size, 0, none⟩ m n 20 (rep t c) Tryd.underlying64 sizeTask HN.out SRC.out THE.out ONE.out
      rw [← ht] at hcp2
      obtain ⟨W3, hW3⟩ : ∃ W, W = wr.drew.setCells w.heap.size (m * 20) (rep t c) := ⟨_, rfl⟩
      have e3 : (wr.drewN 1).setCells w.heap.size (m * 20) (rep t c) = W3 := hW3.symm
      rw [← hW3] at hcp2 R3
      rw [e3] at B3
      clear ht hW3 e3 HN SRC THE ONE HD
      have wi : IntKind.i64.wrap ((m : Int) + (t : Int)) = (m : Int) + (t : Int) := wraps_i64 _ (by omega) (by omega)
      go_wp2_with fail
      go_region_held3 (fun _ => True) (trivial) (fail)
      all_goals go_wp2_with fail
      all_goals exact ⟨⟨m + t, by omega, by omega, by go_num, R3, B3⟩, by simp [intOf]; omega⟩
    · obtain rfl : m = n := by omega
      have hge : ¬ ((m : Int) < (m : Int)) := by omega
      go_wp2_with fail
      go_ret
      exact ⟨_, rfl, Nat.le_refl _, fun j hj => by have := HR.out.got j hj; rwa [HC.out] at this, HB.out⟩
theorem infoInt : (Tryd.prog.info? 3).map (fun i => (i.zero, i.size, i.bytes)) = some (some (.int .i64 0), 1, 8) := by kernel_rfl
theorem sizeInt : (Tryd.prog.info? 3).map (·.size) = some 1 := by kernel_rfl
set_option maxRecDepth 100000 in
set_option maxHeartbeats 1000000 in
theorem repeatInt (xb xc : Nat) (c : List Value) (hc : c.length = 1) (h1c : ∀ v ∈ c, v.oneCell' = true) (n : Nat) (w : World) (hx : w.rangeAt xb 0 c) (hn : 1 ≤ n) (hn2 : n ≤ 400) :
    Calls Tryd.prog 64 #[.slice (some ⟨xb, 0, none⟩) 1 xc, .int .i64 n] w fun r w' => ∃ B, r = .returned (.slice (some ⟨B, 0, none⟩) n n) ∧ w.heap.size ≤ B ∧ (∀ j, j < n → w'.rangeAt B (j * 1) c) ∧ Below w.heap.size w w' := by
  have hmk := make_row (n := n) Tryd.underlying36 infoInt (by decide) (by decide) (by omega) w
  have R1 := hid (show Rep w.heap.size n c 0 (w.alloc (.cells (madeCells (Value.cells (.int .i64 0)) (n * 1)) 3)) from ⟨there_new _ _ _ _ _ rfl (by rw [size_madeCells, hc]; exact Nat.le_refl _), fun j hj => by omega⟩)
  have B1 := hid (bal (Below.refl w.heap.size w) (.cells (madeCells (Value.cells (.int .i64 0)) (n * 1)) 3))
  have X1 := hid (range_belowO hx (bal (Below.refl w.heap.size w) (.cells (madeCells (Value.cells (.int .i64 0)) (n * 1)) 3)))
  obtain ⟨W1, hW1⟩ : ∃ W, W = w.alloc (.cells (madeCells (Value.cells (.int .i64 0)) (n * 1)) 3) := ⟨_, rfl⟩
  rw [← hW1] at hmk R1 B1 X1
  clear hW1 hx
  have m1 : Nat.min 1 n = 1 := Nat.min_eq_left hn
  have hcp := run_copy_wide (P := Tryd.prog) W1 36 36 3 3 w.heap.size 0 n n ⟨xb, 0, none⟩ 1 xc 1 c Tryd.underlying36 sizeInt (by rw [m1, hc]) (fun j v hv => by rw [Addr.add_mid]; exact X1.out j v hv) (fun j hj => R1.out.there j (Nat.lt_of_lt_of_le hj (Nat.le_mul_of_pos_left _ (by omega)))) h1c
  rw [m1] at hcp
  have R2 := hid (R1.out.more (t := 1) (by omega))
  rw [Nat.zero_add, Nat.zero_mul, show rep 1 c = c by simp [rep]] at R2
  have B2 := hid (below_setCells B1.out (Nat.le_refl _) c 0)
  obtain ⟨W2, hW2⟩ : ∃ W, W = W1.setCells w.heap.size 0 c := ⟨_, rfl⟩
  rw [← hW2] at hcp R2 B2
  have HC := hid hc
  have H1 := hid h1c
  clear hW2 R1 B1 X1 m1 hc h1c
  have n0 : (0 : Int) ≤ n := by omega
  have n1 : (n : Int) ≤ 400 := by omega
  have wu := wraps_u64 n n0 (by omega)
  have wo : IntKind.u64.wrap 1 = 1 := wraps_u64 1 (by decide) (by decide)
  go_enter Tryd.func64, Tryd.ntmps64
  go_wp2_with fail
  refine (mul_one n w (by omega)).mono ?_
  rintro e wx ⟨rfl, rfl⟩
  go_wp2_with fail
  go_loopw [8] (fun i wr => ∃ m : Nat, 1 ≤ m ∧ m ≤ n ∧ i = .int .i64 m ∧ Hid (Rep w.heap.size n c m wr) ∧ Hid (Below w.heap.size w wr)) (fun i _ => n - (intOf i).toNat)
  case atStart => exact ⟨1, by omega, hn, rfl, R2, B2⟩
  case round =>
    obtain ⟨m, hm1, hm2, rfl, HR, HB⟩ := hrel
    by_cases hlt : m < n
    · have hlt2 : (m : Int) < (n : Int) := by omega
      have hle : (m : Int) ≤ (n : Int) := by omega
      obtain ⟨t, ht⟩ : ∃ t, t = Nat.min m (n - m) := ⟨_, rfl⟩
      have t0 : 1 ≤ t ∧ t ≤ m ∧ m + t ≤ n := by
        rw [ht]
        have h1 := Nat.min_le_left m (n - m)
        have h2 := Nat.min_le_right m (n - m)
        have h3 : 1 ≤ min m (n - m) := Nat.le_min.2 ⟨hm1, by omega⟩
        exact ⟨h3, h1, by have : Nat.min m (n - m) ≤ n - m := h2; omega⟩
      obtain ⟨t1, t2, t3⟩ := t0
      have HD : Hid (Rep w.heap.size n c m wr.drew) := hid ⟨HR.out.there, HR.out.got⟩
      have HN := hid (show (rep t c).length = Nat.min m (n - m) * 1 by rw [rep_len, HC.out, ← ht])
      have SRC := hid (show ∀ j v, (rep t c)[j]? = some v → wr.drew.cell? ((⟨w.heap.size, 0, none⟩ : Addr).add j) = some v from fun j v hv => by
        rw [Addr.add_mid, Nat.zero_add]
        exact HD.out.src (by rw [HC.out]; decide) t2 j v hv)
      have THE := hid (show wr.drew.there w.heap.size (m * 1) (rep t c).length from fun j hj => by
        rw [rep_len, HC.out] at hj
        have h2 : m * 1 + t * 1 ≤ n * 1 := by rw [← Nat.add_mul]; exact Nat.mul_le_mul_right _ t3
        have := HD.out.there (m * 1 + j) (by rw [HC.out]; omega)
        rwa [Nat.zero_add] at this)
      have ONE := hid (rep_one t c H1.out)
      have R3 := hid (HD.out.more t3)
      rw [HC.out] at R3
      have B3 := hid (below_setCells (btr HB.out (below_drew wr 1)) (Nat.le_refl _) (rep t c) (m * 1))
      have hcp2 := run_copy_wide (P := Tryd.prog) wr.drew 36 36 3 3 w.heap.size (m * 1) (n - m) (n - m) ⟨w.heap.size, 0, none⟩ m n 1 (rep t c) Tryd.underlying36 sizeInt HN.out SRC.out THE.out ONE.out
      rw [← ht] at hcp2
      obtain ⟨W3, hW3⟩ : ∃ W, W = wr.drew.setCells w.heap.size (m * 1) (rep t c) := ⟨_, rfl⟩
      have e3 : (wr.drewN 1).setCells w.heap.size (m * 1) (rep t c) = W3 := hW3.symm
      rw [← hW3] at hcp2 R3
      rw [e3] at B3
      clear ht hW3 e3 HN SRC THE ONE HD
      have wi : IntKind.i64.wrap ((m : Int) + (t : Int)) = (m : Int) + (t : Int) := wraps_i64 _ (by omega) (by omega)
      rw [Nat.mul_one] at hcp2
      go_wp2_with fail
      go_region_held3 (fun _ => True) (trivial) (fail)
      all_goals go_wp2_with fail
      all_goals exact ⟨⟨m + t, by omega, by omega, by go_num, R3, B3⟩, by simp [intOf]; omega⟩
    · obtain rfl : m = n := by omega
      have hge : ¬ ((m : Int) < (m : Int)) := by omega
      go_wp2_with fail
      go_ret
      exact ⟨_, rfl, Nat.le_refl _, fun j hj => by have := HR.out.got j hj; simpa [HC.out] using this, HB.out⟩
end Go.Proofs.YtfpkbfhaipgibaaDoor.Wd
