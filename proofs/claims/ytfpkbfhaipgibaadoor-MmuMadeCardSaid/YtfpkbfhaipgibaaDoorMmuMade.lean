/- keyholdlaw.MmuMade, walked. -/
import Derived.Test.YtfpkbfhaipgibaaDoorMmuSays
import Derived.Test.YtfpkbfhaipgibaaDoorMadeRaw
namespace Go.Proofs.YtfpkbfhaipgibaaDoor.Mmu
open Go.RowKit Go.Proofs.YtfpkbfhaipgibaaDoor.Mem Go.Proofs.YtfpkbfhaipgibaaDoor.Bw Go.Proofs.YtfpkbfhaipgibaaDoor.Nums

/-- A memory that the call has made: 128 words. -/
structure Own128 (B : Nat) (w : World) (zs : List Int) : Prop where
  len : zs.length = 128
  at_ : IntsAt w B 0 zs
  froz : ∀ k, k < 128 → w.frozen? ⟨B, k, none⟩ = false
  word : ∀ z ∈ zs, 0 ≤ z ∧ z < 65536
theorem Own128.lt {B : Nat} {w : World} {zs : List Int} (h : Own128 B w zs) : B < w.heap.size := World.block_lt_of_cell? w ⟨B, 0 + 0, none⟩ (h.at_ 0 (by rw [h.len]; decide))
theorem Own128.below {B : Nat} {w w' : World} {zs : List Int} (h : Own128 B w zs) (hb : Below w.heap.size w w') : Own128 B w' zs :=
  ⟨h.len, h.at_.below hb, fun k hk => (hb.frozen (p := ⟨B, k, none⟩) h.lt).trans (h.froz k hk), h.word⟩
theorem Own128.set {B k : Nat} {w : World} {zs : List Int} (h : Own128 B w zs) (hk : k < 128) (x : Int) (h0 : 0 ≤ x) (h1 : x < 65536) : Own128 B (w.setCell ⟨B, k, none⟩ (.int .i64 x)) (zs.set k x) := by
  refine ⟨by rw [List.length_set]; exact h.len, h.at_.set (by rw [h.len]; exact hk) x, fun j hj => ?_, fun z hz => ?_⟩
  · rw [World.frozen?_setCell]
    exact h.froz j hj
  · rcases List.mem_or_eq_of_mem_set hz with hz | rfl
    · exact h.word z hz
    · exact ⟨h0, h1⟩
theorem Own128.raw {B : Nat} {w : World} {zs : List Int} (h : Own128 B w zs) (c : Nat) : RawIn w (.slice (some ⟨B, 0, none⟩) 128 c) zs :=
  ⟨some ⟨B, 0, none⟩, B, 0, c, by rw [h.len], fun _ => rfl, h.at_, fun z hz => by have := h.word z hz; omega⟩
theorem made_int (n k : Nat) (h : k < n) : (madeCells (Value.int .i64 0).cells n)[k]? = some (.int .i64 0) := by
  unfold madeCells
  simp [h, Value.cells, Nat.mod_one]
theorem make128 (w : World) : ∃ W, (Instr.makeSlice 36 (.int .i64 128) (.int .i64 128)).run Tryd.prog w = .ok (.slice (some ⟨w.heap.size, 0, none⟩) 128 128) W ∧ Own128 w.heap.size W (List.replicate 128 0) ∧ Below w.heap.size w W := by
  obtain ⟨i0, hi, hz0, hz1, hz2⟩ := info_get infoI
  have hr := run_makeSlice (P := Tryd.prog) w 36 3 i0 (.int .i64 0) Tryd.underlying36 hi hz0 .i64 .i64 128 128 (by decide) (by decide) (by rw [hz1]; decide) (by rw [hz2]; decide) (by decide)
  refine ⟨_, hr, ⟨by simp, fun j hj => ?_, fun k hk => by simp, fun z hz => ?_⟩, bal (Below.refl _ _) _⟩
  · rw [List.length_replicate] at hj
    rw [Nat.zero_add, World.cell?_alloc_at _ _ _ _ rfl, hz1, made_int _ _ (by simpa using hj), List.getElem_replicate]
  · rw [(List.mem_replicate.1 hz).2]
    decide
set_option maxRecDepth 100000 in
set_option maxHeartbeats 2000000 in
theorem mmuMade_main (u : Value) (rs : List Int) (a : Int) (bw : Bool) (n : Int) (w : World) (hu : RawIn w u rs) (hg : ETok w) (hr : rs.length ≤ 256) (ha : -9223372036854775808 ≤ a ∧ a ≤ 9223372036854775807) (hn : -9223372036854775808 ≤ n ∧ n ≤ 9223372036854775807) :
    Calls Tryd.prog 5 #[u, .int .i64 a, .bool bw, .int .i64 n] w fun r w' => r = .returned (.bool true) ∧ Below w.heap.size w w' := by
  have HU := hid hu
  have HG := hid hg
  obtain ⟨q0, b0, f0, c0, rfl, -, -, -⟩ := hu
  have hr2 : (rs.length : Int) ≤ 256 := by omega
  obtain ⟨a0, a1⟩ := ha
  obtain ⟨n0, n1⟩ := hn
  clear hg
  go_enter Tryd.func5, Tryd.ntmps5
  obtain ⟨W1, hmk, hO1, hB1⟩ := make128 w
  have O1 := hid hO1
  have B1 := hid hB1
  clear hO1 hB1
  go_wp2_with fail
  go_loopw [10] (fun i wr => ∃ (k : Nat) (zs : List Int), k ≤ 6 ∧ i = .int .i64 k ∧ Hid (Own128 w.heap.size wr zs) ∧ Hid (Below w.heap.size w wr)) (fun i _ => 6 - (intOf i).toNat)
  case atStart => exact ⟨0, _, by omega, rfl, O1, B1⟩
  case round =>
    obtain ⟨k, zs, hk, rfl, HO, HB⟩ := hrel
    by_cases hlt : k < 6
    · have hlt2 : (k : Int) < 6 := by omega
      go_wp2_with fail
      refine (raw_num _ rs k _ (HU.out.below HB.out) hr (by omega)).mono ?_
      rintro e w2 ⟨c, rfl, c0, c1, hb⟩
      have O2 := hid (HO.out.below hb)
      have B2 := hid (btr HB.out hb)
      clear hb HO HB
      obtain ⟨j1, hj1⟩ : ∃ j : Nat, pickV c 3 = (j : Int) := ⟨(pickV c 3).toNat, by have := pickV_bound c 3 (by decide); omega⟩
      obtain ⟨j2, hj2⟩ : ∃ j : Nat, pickV (c / 3) 3 = (j : Int) := ⟨(pickV (c / 3) 3).toNat, by have := pickV_bound (c / 3) 3 (by decide); omega⟩
      obtain ⟨j3, hj3⟩ : ∃ j : Nat, pickV (c / 9) 3 = (j : Int) := ⟨(pickV (c / 9) 3).toNat, by have := pickV_bound (c / 9) 3 (by decide); omega⟩
      obtain ⟨j4, hj4⟩ : ∃ j : Nat, pickV (c / 27) 3 = (j : Int) := ⟨(pickV (c / 27) 3).toNat, by have := pickV_bound (c / 27) 3 (by decide); omega⟩
      obtain ⟨j5, hj5⟩ : ∃ j : Nat, pickV (c / 81) 2 = (j : Int) := ⟨(pickV (c / 81) 2).toNat, by have := pickV_bound (c / 81) 2 (by decide); omega⟩
      obtain ⟨j6, hj6⟩ : ∃ j : Nat, pickV (c / 162) 4 = (j : Int) := ⟨(pickV (c / 162) 4).toNat, by have := pickV_bound (c / 162) 4 (by decide); omega⟩
      have b1 : j1 < 3 := by have := pickV_bound c 3 (by decide); omega
      have b2 : j2 < 3 := by have := pickV_bound (c / 3) 3 (by decide); omega
      have b3 : j3 < 3 := by have := pickV_bound (c / 9) 3 (by decide); omega
      have b4 : j4 < 3 := by have := pickV_bound (c / 27) 3 (by decide); omega
      have b5 : j5 < 2 := by have := pickV_bound (c / 81) 2 (by decide); omega
      have b6 : j6 < 4 := by have := pickV_bound (c / 162) 4 (by decide); omega
      have P1 := hid hj1
      have P2 := hid hj2
      have P3 := hid hj3
      have P4 := hid hj4
      have P5 := hid hj5
      have P6 := hid hj6
      clear hj1 hj2 hj3 hj4 hj5 hj6
      have i1 : (j1 : Int) < 128 := by omega
      have x1 := O2.out.at_ j1 (by rw [O2.out.len]; omega)
      rw [Nat.zero_add] at x1
      have f1 := O2.out.froz j1 (by omega)
      have O3 := hid (O2.out.set (k := j1) (by omega) (32769 + (j2 : Int)) (by omega) (by omega))
      have B3 := hid (bset (o := j1) B2.out (Nat.le_refl _) (.int .i64 (32769 + (j2 : Int))))
      go_upto_region 9 with (first | (go_at_call 28; refine (pick_eq _ _ _ (by omega) (by omega) (by decide)).mono ?_; rintro e w' ⟨rfl, rfl⟩; (first | rw [P1.out] | rw [P2.out])))
      generalize World.setCell _ _ _ = W3 at O3 B3 ⊢
      clear O2 B2 x1 f1 i1
      generalize zs.set j1 (32769 + (j2 : Int)) = zs3 at O3
      have tn : ((1 + (j3 : Int)) * 16 + (j4 : Int)).toNat = (1 + j3) * 16 + j4 := by omega
      have i3 : (1 + (j3 : Int)) * 16 + (j4 : Int) < 128 := by omega
      have i4 : 0 ≤ (1 + (j3 : Int)) * 16 + (j4 : Int) := by omega
      have x3 := O3.out.at_ ((1 + j3) * 16 + j4) (by rw [O3.out.len]; omega)
      rw [Nat.zero_add] at x3
      have f3 := O3.out.froz ((1 + j3) * 16 + j4) (by omega)
      have O4 := hid (O3.out.set (k := (1 + j3) * 16 + j4) (by omega) (32768 + (j5 : Int) * 16384 + 4 + (j6 : Int)) (by omega) (by omega))
      have B4 := hid (bset (o := (1 + j3) * 16 + j4) B3.out (Nat.le_refl _) (.int .i64 (32768 + (j5 : Int) * 16384 + 4 + (j6 : Int))))
      go_wp2_with (first | (go_at_call 28; refine (pick_eq _ _ _ (by omega) (by omega) (by decide)).mono ?_; rintro e w' ⟨rfl, rfl⟩; (first | rw [P3.out] | rw [P4.out] | rw [P5.out] | rw [P6.out])))
      exact ⟨⟨k + 1, _, by omega, by go_num, O4, B4⟩, by simp [intOf]; omega⟩
    · obtain rfl : k = 6 := by omega
      clear O1 B1 hmk hlt hk
      have PA := pickV_bound a 800 (by decide)
      obtain ⟨m, hm⟩ : ∃ j : Nat, pickV n 5 = (j : Int) := ⟨(pickV n 5).toNat, by have := pickV_bound n 5 (by decide); omega⟩
      have hm5 : m < 5 := by have := pickV_bound n 5 (by decide); omega
      have PM := hid hm
      clear hm
      go_wp2_with (first | (go_at_call 28; refine (pick_eq a 800 _ a0 a1 (by decide)).mono ?_; rintro e w' ⟨rfl, rfl⟩))
      generalize pickV a 800 = pa at PA ⊢
      obtain ⟨pa0, pa1⟩ := PA
      generalize wr = w5 at HO HB ⊢
      go_loopw [12, 13] (fun x i wx => ∃ (k : Nat) (l : List Ent), k ≤ 5 ∧ i = .int .i64 k ∧ l.length ≤ 4 ∧ Hid (TlbIn wx x l) ∧ Hid (Below w5.heap.size w5 wx)) (fun _ i _ => 5 - (intOf i).toNat)
      case atStart => exact ⟨0, [], by omega, rfl, by simp, hid (tlb_nil _), hid (Below.refl _ _)⟩
      case round =>
        obtain ⟨k, l, hk, rfl, hl, HT, HX⟩ := hrel
        by_cases hlt : k < m
        · have hlt2 : (k : Int) < (m : Int) := by omega
          go_wp2_with (first | (go_at_call 28; refine (pick_eq n 5 _ n0 n1 (by decide)).mono ?_; rintro e w' ⟨rfl, rfl⟩; rw [PM.out]))
          rw [show (20 + (k : Int)) = ((20 + k : Nat) : Int) by omega]
          refine (raw_num _ rs (20 + k) _ (HU.out.below (btr HB.out HX.out)) hr (by omega)).mono ?_
          rintro e w6 ⟨c, rfl, c0, c1, hb⟩
          have X6 := hid (btr HX.out hb)
          have T6 := hid (HT.out.below hb)
          clear hb HX HT
          go_wp2_with (first | (go_at_call 28; refine (pick_eq _ _ _ (by omega) (by omega) (by decide)).mono ?_; rintro e w' ⟨rfl, rfl⟩))
          refine (filled_any _ l 0 _ _ _ w6 T6.out).mono ?_
          rintro e w7 ⟨uu, rfl, hT, hb⟩
          have T7 := hid hT.tlb
          have X7 := hid (btr X6.out hb)
          clear hT hb
          go_wp2_with fail
          exact ⟨⟨k + 1, _, by omega, by go_num, last4_len _, T7, X7⟩, by simp [intOf]; omega⟩
        · have hlt2 : ¬ (k : Int) < (m : Int) := by omega
          have O9 := hid (HO.out.below HX.out)
          have B9 := hid (btr HB.out HX.out)
          go_wp2_with (first | (go_at_call 28; refine (pick_eq n 5 _ n0 n1 (by decide)).mono ?_; rintro e w' ⟨rfl, rfl⟩; rw [PM.out]))
          refine (mmuSays_main _ _ zs l 0 pa bw 0 (pa / 16) 5 false _ (O9.out.raw 128) HT.out (HG.out.below B9.out) (by rw [O9.out.len]; decide) (by omega)).mono ?_
          rintro e w8 ⟨rfl, hb⟩
          have B10 := hid (btr B9.out hb)
          have O10 := hid (O9.out.below hb)
          have T10 := hid (HT.out.below hb)
          clear hb
          go_wp2_with (first | (go_at_call 28; refine (pick_eq n 9 _ n0 n1 (by decide)).mono ?_; rintro e w' ⟨rfl, rfl⟩))
          refine (mmuSays_main _ _ zs l _ pa bw 1 3 0 false _ (O10.out.raw 128) T10.out (HG.out.below B10.out) (by rw [O10.out.len]; decide) (by omega)).mono ?_
          rintro e w9 ⟨rfl, hb⟩
          have B11 := hid (btr B10.out hb)
          clear hb
          go_wp2_with fail
          go_ret
          exact ⟨rfl, B11.out⟩
end Go.Proofs.YtfpkbfhaipgibaaDoor.Mmu
