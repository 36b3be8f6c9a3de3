/- mmu.Entry, mmu.Walk and the document's answer on walking tables, walked. -/
import Derived.Test.YtfpkbfhaipgibaaDoorBitsPlain
import Derived.Test.YtfpkbfhaipgibaaDoorWords
namespace Go.Proofs.YtfpkbfhaipgibaaDoor.Mmu
open Go.RowKit Go.Proofs.YtfpkbfhaipgibaaDoor.Mem Go.Proofs.YtfpkbfhaipgibaaDoor.Bw Go.Proofs.YtfpkbfhaipgibaaDoor.Nums

/-- A memory of words. -/
structure RamAt (w : World) (v : Value) (zs : List Int) : Prop where
  row : ∃ q b cap, v = .slice q zs.length cap ∧ (0 < zs.length → q = some ⟨b, 0, none⟩) ∧ IntsAt w b 0 zs
  word : ∀ z ∈ zs, 0 ≤ z ∧ z < 65536
  len : zs.length ≤ 600
theorem RamAt.below {w w' : World} {v : Value} {zs : List Int} (h : RamAt w v zs) (hb : Below w.heap.size w w') : RamAt w' v zs :=
  ⟨by obtain ⟨q, b, cap, h1, h2, h3⟩ := h.row; exact ⟨q, b, cap, h1, h2, h3.below hb⟩, h.word, h.len⟩
/-- Is the address one of a space of that memory? -/
abbrev inb (n s a : Int) : Prop := n % 16 = 0 ∧ n ≤ 384 ∧ 0 ≤ s ∧ s < n / 16 ∧ 0 ≤ a ∧ a < 4096
/-- Which frame an entry tells, if it is one. -/
abbrev isE (x n : Int) : Prop := x / 32768 % 2 = 1 ∧ x % 1024 < n
theorem entry_yes (x n : Int) (w : World) (x0 : 0 ≤ x) (x1 : x < 65536) (h : isE x n) :
    Calls Tryd.prog 47 #[.int .i64 x, .int .i64 n] w fun e w' => e = .returned (.int .i64 (x % 1024)) ∧ w = w' := by
  unfold isE at h
  have g1 : (x / 32768 % 2 == 0) = false := beq_eq_false_iff_ne.2 (by omega)
  have g2 : ¬ (n ≤ x % 1024) := by omega
  clear h
  go_enter Tryd.func47, Tryd.ntmps47
  go_wp2_with fail
  go_ret
  exact ⟨rfl, rfl⟩
theorem entry_no (x n : Int) (w : World) (x0 : 0 ≤ x) (x1 : x < 65536) (h : ¬ isE x n) :
    Calls Tryd.prog 47 #[.int .i64 x, .int .i64 n] w fun e w' => e = .returned (.int .i64 (-1)) ∧ w = w' := by
  unfold isE at h
  by_cases g : x / 32768 % 2 = 0
  · have g1 : (x / 32768 % 2 == 0) = true := beq_iff_eq.2 g
    clear h g
    go_enter Tryd.func47, Tryd.ntmps47
    go_wp2_with fail
    go_ret
    exact ⟨rfl, rfl⟩
  · have g1 : (x / 32768 % 2 == 0) = false := beq_eq_false_iff_ne.2 g
    have g2 : n ≤ x % 1024 := by omega
    clear h g
    go_enter Tryd.func47, Tryd.ntmps47
    go_wp2_with fail
    go_ret
    exact ⟨rfl, rfl⟩
theorem and15 (x : Int) (x0 : 0 ≤ x) (x1 : x < 65536) : bits .and .i64 x 32768 = x / 32768 % 2 * 32768 := by
  obtain ⟨y, rfl⟩ := Int.eq_ofNat_of_zero_le x0
  rw [bit15 y (by omega)]
  omega
theorem and14 (x : Int) (x0 : 0 ≤ x) (x1 : x < 65536) : bits .and .i64 x 16384 = x / 16384 % 2 * 16384 := by
  obtain ⟨y, rfl⟩ := Int.eq_ofNat_of_zero_le x0
  rw [bit14 y (by omega)]
  omega
theorem leads_yes (x : Int) (w : World) (g1 : (bits .and .i64 x 32768 == 0) = false) :
    Calls Tryd.prog 84 #[.int .i64 x] w fun e w' => e = .returned (.tuple #[.int .i64 (x % 1024), .bool (bits .and .i64 x 16384 != 0), .bool true]) ∧ w = w' := by
  have e10 := mask10 x
  go_enter Tryd.func84, Tryd.ntmps84
  go_wp2_with fail
  go_ret3
  exact ⟨rfl, rfl⟩
theorem leads_no (x : Int) (w : World) (g1 : (bits .and .i64 x 32768 == 0) = true) :
    Calls Tryd.prog 84 #[.int .i64 x] w fun e w' => e = .returned (.tuple #[.int .i64 0, .bool false, .bool false]) ∧ w = w' := by
  go_enter Tryd.func84, Tryd.ntmps84
  go_wp2_with fail
  go_ret3
  exact ⟨rfl, rfl⟩
end Go.Proofs.YtfpkbfhaipgibaaDoor.Mmu
namespace Go.Proofs.YtfpkbfhaipgibaaDoor.Mmu
open Go.RowKit Go.Proofs.YtfpkbfhaipgibaaDoor.Mem Go.Proofs.YtfpkbfhaipgibaaDoor.Bw Go.Proofs.YtfpkbfhaipgibaaDoor.Nums

theorem inBounds_any (v : Value) (zs : List Int) (s a : Int) (w : World) (hv : RamAt w v zs) :
    Calls Tryd.prog 48 #[v, .int .i64 s, .int .i64 a] w fun e w' => e = .returned (.bool (decide (inb zs.length s a))) ∧ w = w' := by
  obtain ⟨⟨q, b, cap, rfl, hq, hz⟩, _, hl⟩ := hv
  have hl2 : (zs.length : Int) ≤ 600 := by omega
  clear hq hz
  by_cases h1 : (zs.length : Int) % 16 = 0
  · have g1 : ((zs.length : Int) % 16 != 0) = false := by rw [bne_eq_false_iff_eq]; exact h1
    by_cases h2 : 24 < (zs.length : Int) / 16
    · have e : decide (inb zs.length s a) = false := decide_eq_false (by unfold inb; omega)
      rw [e]
      clear e h1
      go_enter Tryd.func48, Tryd.ntmps48
      go_wp2_with fail
      go_ret
      exact ⟨rfl, rfl⟩
    · by_cases h3 : 0 ≤ s
      · by_cases h4 : s < (zs.length : Int) / 16
        · by_cases h5 : 0 ≤ a
          · by_cases h6 : a < 4096
            · have e : decide (inb zs.length s a) = true := decide_eq_true (by unfold inb; omega)
              rw [e]
              clear e h1
              go_enter Tryd.func48, Tryd.ntmps48
              go_wp2_with fail
              go_ret
              exact ⟨rfl, rfl⟩
            · have e : decide (inb zs.length s a) = false := decide_eq_false (by unfold inb; omega)
              rw [e]
              clear e h1
              go_enter Tryd.func48, Tryd.ntmps48
              go_wp2_with fail
              go_ret
              exact ⟨rfl, rfl⟩
          · have e : decide (inb zs.length s a) = false := decide_eq_false (by unfold inb; omega)
            rw [e]
            clear e h1
            go_enter Tryd.func48, Tryd.ntmps48
            go_wp2_with fail
            go_ret
            exact ⟨rfl, rfl⟩
        · have e : decide (inb zs.length s a) = false := decide_eq_false (by unfold inb; omega)
          rw [e]
          clear e h1
          go_enter Tryd.func48, Tryd.ntmps48
          go_wp2_with fail
          go_ret
          exact ⟨rfl, rfl⟩
      · have e : decide (inb zs.length s a) = false := decide_eq_false (by unfold inb; omega)
        rw [e]
        clear e h1
        go_enter Tryd.func48, Tryd.ntmps48
        go_wp2_with fail
        go_ret
        exact ⟨rfl, rfl⟩
  · have g1 : ((zs.length : Int) % 16 != 0) = true := by rw [bne_iff_ne]; exact h1
    have e : decide (inb zs.length s a) = false := decide_eq_false (by unfold inb; omega)
    rw [e]
    clear e h1
    go_enter Tryd.func48, Tryd.ntmps48
    go_wp2_with fail
    go_ret
    exact ⟨rfl, rfl⟩
theorem framesOf_yes (v : Value) (zs : List Int) (w : World) (hv : RamAt w v zs) (h1 : (zs.length : Int) % 16 = 0) (h2 : (zs.length : Int) ≤ 384) :
    Calls Tryd.prog 46 #[v] w fun e w' => e = .returned (.int .i64 ((zs.length : Int) / 16)) ∧ w = w' := by
  obtain ⟨⟨q, b, cap, rfl, hq, hz⟩, _, hl⟩ := hv
  have g1 : ¬ (0 < (zs.length : Int) % 16) := by omega
  clear hq hz h1
  go_enter Tryd.func46, Tryd.ntmps46
  go_wp2_with fail
  go_ret
  exact ⟨rfl, rfl⟩
theorem framesOf_no (v : Value) (zs : List Int) (w : World) (hv : RamAt w v zs) (h : ¬ ((zs.length : Int) % 16 = 0 ∧ (zs.length : Int) ≤ 384)) :
    Calls Tryd.prog 46 #[v] w fun e w' => e = .returned (.int .i64 (-1)) ∧ w = w' := by
  obtain ⟨⟨q, b, cap, rfl, hq, hz⟩, _, hl⟩ := hv
  clear hq hz
  by_cases g1 : 0 < (zs.length : Int) % 16
  · clear h
    go_enter Tryd.func46, Tryd.ntmps46
    go_wp2_with fail
    go_ret
    exact ⟨rfl, rfl⟩
  · have g2 : 384 < (zs.length : Int) := by omega
    clear h
    go_enter Tryd.func46, Tryd.ntmps46
    go_wp2_with fail
    go_ret
    exact ⟨rfl, rfl⟩
set_option maxRecDepth 100000 in
theorem follow_yes (v : Value) (zs : List Int) (f k : Int) (w : World) (hv : RamAt w v zs) (f0 : 0 ≤ f) (k0 : 0 ≤ k) (hk : f * 16 + k < zs.length) (x : Int) (hx : zs[(f * 16 + k).toNat]? = some x) (h : isE x ((zs.length : Int) / 16)) :
    Calls Tryd.prog 49 #[v, .int .i64 f, .int .i64 k] w fun e w' => e = .returned (.tuple #[.int .i64 (x % 1024), .bool (decide (x / 16384 % 2 = 1)), .bool true]) ∧ w = w' := by
  obtain ⟨⟨q, b, cap, rfl, hq, hz⟩, hw, hl⟩ := hv
  have hj : (f * 16 + k).toNat < zs.length := by omega
  have hqe := hq (by omega)
  subst hqe
  have hc := hz _ hj
  rw [List.getElem?_eq_getElem hj] at hx
  have hxx := Option.some.inj hx
  rw [hxx, Nat.zero_add] at hc
  have hwx := hw _ (List.getElem_mem hj)
  rw [hxx] at hwx
  obtain ⟨x0, x1⟩ := hwx
  have i0 : 0 ≤ f * 16 + k := by omega
  have e10 := mask10 x
  have b15 := and15 x x0 x1
  have b14 := and14 x x0 x1
  have fb : f < 100 := by omega
  have kb : k < 1000 := by omega
  unfold isE at h
  have HV := hid (show (bits .and .i64 x 16384 != 0) = decide (x / 16384 % 2 = 1) by rw [b14, Bool.eq_iff_iff, bne_iff_ne, decide_eq_true_iff]; omega)
  have g1 : (bits .and .i64 x 32768 == 0) = false := by rw [b15]; exact beq_eq_false_iff_ne.2 (by omega)
  have g2 : ¬ ((zs.length : Int) / 16 ≤ x % 1024) := by omega
  clear hq hz hw hx hxx h b14 b15
  go_enter Tryd.func49, Tryd.ntmps49
  go_wp2_with fail
  refine (leads_yes x _ g1).mono ?_
  rintro r w1 ⟨rfl, rfl⟩
  go_wp2_with fail
  go_ret3
  exact ⟨by rw [← HV.out]; rfl, rfl⟩
set_option maxRecDepth 100000 in
theorem follow_no (v : Value) (zs : List Int) (f k : Int) (w : World) (hv : RamAt w v zs) (f0 : 0 ≤ f) (k0 : 0 ≤ k) (hk : f * 16 + k < zs.length) (x : Int) (hx : zs[(f * 16 + k).toNat]? = some x) (h : ¬ isE x ((zs.length : Int) / 16)) :
    Calls Tryd.prog 49 #[v, .int .i64 f, .int .i64 k] w fun e w' => e = .returned (.tuple #[.int .i64 0, .bool false, .bool false]) ∧ w = w' := by
  obtain ⟨⟨q, b, cap, rfl, hq, hz⟩, hw, hl⟩ := hv
  have hj : (f * 16 + k).toNat < zs.length := by omega
  have hqe := hq (by omega)
  subst hqe
  have hc := hz _ hj
  rw [List.getElem?_eq_getElem hj] at hx
  have hxx := Option.some.inj hx
  rw [hxx, Nat.zero_add] at hc
  have hwx := hw _ (List.getElem_mem hj)
  rw [hxx] at hwx
  obtain ⟨x0, x1⟩ := hwx
  have i0 : 0 ≤ f * 16 + k := by omega
  have e10 := mask10 x
  have b15 := and15 x x0 x1
  have b14 := and14 x x0 x1
  have fb : f < 100 := by omega
  have kb : k < 1000 := by omega
  unfold isE at h
  clear b14
  by_cases g : x / 32768 % 2 = 0
  · have g1 : (bits .and .i64 x 32768 == 0) = true := by rw [b15, g]; rfl
    clear hq hz hw hx hxx h b15 g
    go_enter Tryd.func49, Tryd.ntmps49
    go_wp2_with fail
    refine (leads_no x _ g1).mono ?_
    rintro r w1 ⟨rfl, rfl⟩
    go_wp2_with fail
    go_ret3
    exact ⟨rfl, rfl⟩
  · have g1 : (bits .and .i64 x 32768 == 0) = false := by rw [b15]; exact beq_eq_false_iff_ne.2 (by omega)
    have g2 : (zs.length : Int) / 16 ≤ x % 1024 := by omega
    clear hq hz hw hx hxx h b15 g
    go_enter Tryd.func49, Tryd.ntmps49
    go_wp2_with fail
    refine (leads_yes x _ g1).mono ?_
    rintro r w1 ⟨rfl, rfl⟩
    go_wp2_with fail
    go_ret3
    exact ⟨rfl, rfl⟩
end Go.Proofs.YtfpkbfhaipgibaaDoor.Mmu
