/- isa.shapeOf, isa.fits, isa.Check, isa.Encode, walked. -/
import Derived.Test.YtfpkbfhaipgibaaDoorIsaPlain
import Derived.Test.YtfpkbfhaipgibaaDoorMem
import Derived.Test.YtfpkbfhaipgibaaDoorChecked
import Derived.WalkKit
import Derived.WalkSpells
import Derived.WalkLawsBesides
namespace Go.Proofs.YtfpkbfhaipgibaaDoor.Isa
open Go.RowKit Go.Proofs.YtfpkbfhaipgibaaDoor.Mem

theorem fits_any (v : Int) (has : Bool) (lo hi : Int) (w : World) :
    Calls Tryd.prog 90 #[.int .i64 v, .bool has, .int .i64 lo, .int .i64 hi] w fun e w' => e = .returned (.bool (IP.fitB v has lo hi)) ∧ w = w' := by
  cases has with
  | true =>
    go_enter Tryd.func90, Tryd.ntmps90
    go_wp2
    all_goals
      go_ret
      exact ⟨ret_bool (by rw [Bool.eq_iff_iff, IP.fitB_iff]; simp at *; try omega), rfl⟩
  | false =>
    go_enter Tryd.func90, Tryd.ntmps90
    go_wp2
    go_ret
    exact ⟨ret_bool (by rw [Bool.eq_iff_iff, IP.fitB_iff]; simp), rfl⟩
set_option maxHeartbeats 1000000 in
theorem shape_any (o : Int) (w : World) :
    Calls Tryd.prog 89 #[.int .i64 o] w fun e w' => e = .returned (.agg #[.bool (IP.hA o), .bool (IP.hB o), .bool (IP.hC o)]) ∧ Below w.heap.size w w' := by
  by_cases h0 : o = 0
  · subst h0
    go_enter Tryd.func89, Tryd.ntmps89
    go_wp2
    exact bodyPost_ret (v := .agg #[.bool false, .bool false, .bool false]) (by simp [results, Tryd.results89, go_sem]) rfl ⟨rfl, bal (Below.refl _ _) _⟩
  by_cases h1 : o = 1
  · subst h1
    go_enter Tryd.func89, Tryd.ntmps89
    go_wp2
    exact bodyPost_ret (v := .agg #[.bool true, .bool false, .bool true]) (by simp [results, Tryd.results89, go_sem]) rfl ⟨rfl, bal (Below.refl _ _) _⟩
  by_cases h13 : o = 13
  · subst h13
    go_enter Tryd.func89, Tryd.ntmps89
    go_wp2
    exact bodyPost_ret (v := .agg #[.bool true, .bool false, .bool true]) (by simp [results, Tryd.results89, go_sem]) rfl ⟨rfl, bal (Below.refl _ _) _⟩
  by_cases h10 : o = 10
  · subst h10
    go_enter Tryd.func89, Tryd.ntmps89
    go_wp2
    exact bodyPost_ret (v := .agg #[.bool true, .bool true, .bool true]) (by simp [results, Tryd.results89, go_sem]) rfl ⟨rfl, bal (Below.refl _ _) _⟩
  by_cases h11 : o = 11
  · subst h11
    go_enter Tryd.func89, Tryd.ntmps89
    go_wp2
    exact bodyPost_ret (v := .agg #[.bool true, .bool true, .bool true]) (by simp [results, Tryd.results89, go_sem]) rfl ⟨rfl, bal (Below.refl _ _) _⟩
  by_cases h12 : o = 12
  · subst h12
    go_enter Tryd.func89, Tryd.ntmps89
    go_wp2
    exact bodyPost_ret (v := .agg #[.bool false, .bool false, .bool true]) (by simp [results, Tryd.results89, go_sem]) rfl ⟨rfl, bal (Below.refl _ _) _⟩
  by_cases h14 : o = 14
  · subst h14
    go_enter Tryd.func89, Tryd.ntmps89
    go_wp2
    exact bodyPost_ret (v := .agg #[.bool false, .bool false, .bool true]) (by simp [results, Tryd.results89, go_sem]) rfl ⟨rfl, bal (Below.refl _ _) _⟩
  have e0 : (o == 0) = false := beq_eq_false_iff_ne.2 h0
  have e1 : (o == 1) = false := beq_eq_false_iff_ne.2 h1
  have e13 : (o == 13) = false := beq_eq_false_iff_ne.2 h13
  have e10 : (o == 10) = false := beq_eq_false_iff_ne.2 h10
  have e11 : (o == 11) = false := beq_eq_false_iff_ne.2 h11
  have e12 : (o == 12) = false := beq_eq_false_iff_ne.2 h12
  have e14 : (o == 14) = false := beq_eq_false_iff_ne.2 h14
  rw [show IP.hA o = true from by simp [IP.hA]; omega, show IP.hB o = true from by simp [IP.hB]; omega, show IP.hC o = false from by simp [IP.hC]; omega]
  clear h0 h1 h13 h10 h11 h12 h14
  go_enter Tryd.func89, Tryd.ntmps89
  go_wp2
  exact bodyPost_ret (v := .agg #[.bool true, .bool true, .bool false]) (by simp [results, Tryd.results89, go_sem]) rfl ⟨rfl, bal (Below.refl _ _) _⟩
/-- An error by its number: none, or api's. -/
def errV (n : Int) : Value := if n = 0 then .nilIface else .iface 23 (.int .i64 n)
theorem errV_zero : errV 0 = .nilIface := rfl
set_option maxHeartbeats 1000000 in
theorem check_any (o a b i : Int) (w : World) :
    Calls Tryd.prog 68 #[.agg #[.int .i64 o, .int .i64 a, .int .i64 b, .int .i64 i]] w fun e w' => e = .returned (errV (IP.may o a b i)) ∧ Below w.heap.size w w' := by
  by_cases h1 : o < 0 ∨ 14 < o
  · rw [IP.may_range h1]
    rcases h1 with h1 | h1
    all_goals
      go_enter Tryd.func68, Tryd.ntmps68
      go_wp2_with fail
      go_ret
      exact ⟨rfl, bal (Below.refl _ _) _⟩
  have k0 : 0 ≤ o := by omega
  have k1 : o ≤ 14 := by omega
  have k2 : o < 15 := by omega
  clear h1
  cases ha : IP.fitB a (IP.hA o) 0 7 with
  | false =>
    rw [IP.may_a k0 k1 ha]
    go_enter Tryd.func68, Tryd.ntmps68
    go_wp2_with fail
    refine (shape_any _ _).mono ?_
    rintro e w1 ⟨rfl, hb⟩
    obtain ⟨hc, hz⟩ := bcell hb
    have hs : w.heap.size < w1.heap.size := by have := hb.size; simp at this; omega
    go_wp2_with (go_at_call 90; refine (fits_any _ _ _ _ _).mono ?_; rintro e w' ⟨rfl, rfl⟩)
    go_ret
    exact ⟨rfl, bal (btr (bal (Below.refl _ _) _) hb) _⟩
  | true =>
    cases hb : IP.fitB b (IP.hB o) 0 7 with
    | false =>
      rw [IP.may_b k0 k1 hb]
      go_enter Tryd.func68, Tryd.ntmps68
      go_wp2_with fail
      refine (shape_any _ _).mono ?_
      rintro e w1 ⟨rfl, hbl⟩
      obtain ⟨hc, hz⟩ := bcell hbl
      have hs : w.heap.size < w1.heap.size := by have := hbl.size; simp at this; omega
      go_wp2_with (go_at_call 90; refine (fits_any _ _ _ _ _).mono ?_; rintro e w' ⟨rfl, rfl⟩)
      go_ret
      exact ⟨rfl, bal (btr (bal (Below.refl _ _) _) hbl) _⟩
    | true =>
      cases hi : IP.fitB i (IP.hC o) (-32768) 32767 with
      | false =>
        rw [IP.may_i k0 k1 hi]
        go_enter Tryd.func68, Tryd.ntmps68
        go_wp2_with fail
        refine (shape_any _ _).mono ?_
        rintro e w1 ⟨rfl, hbl⟩
        obtain ⟨hc, hz⟩ := bcell hbl
        have hs : w.heap.size < w1.heap.size := by have := hbl.size; simp at this; omega
        go_wp2_with (go_at_call 90; refine (fits_any _ _ _ _ _).mono ?_; rintro e w' ⟨rfl, rfl⟩)
        go_ret
        exact ⟨rfl, bal (btr (bal (Below.refl _ _) _) hbl) _⟩
      | true =>
        rw [IP.may_ok k0 k1 ha hb hi]
        go_enter Tryd.func68, Tryd.ntmps68
        go_wp2_with fail
        refine (shape_any _ _).mono ?_
        rintro e w1 ⟨rfl, hbl⟩
        obtain ⟨hc, hz⟩ := bcell hbl
        have hs : w.heap.size < w1.heap.size := by have := hbl.size; simp at this; omega
        go_wp2_with (go_at_call 90; refine (fits_any _ _ _ _ _).mono ?_; rintro e w' ⟨rfl, rfl⟩)
        go_ret
        exact ⟨rfl, bal (btr (bal (Below.refl _ _) _) hbl) _⟩
theorem check_ok (o a b i : Int) (w : World) (h : Hid (IP.may o a b i = 0)) :
    Calls Tryd.prog 68 #[.agg #[.int .i64 o, .int .i64 a, .int .i64 b, .int .i64 i]] w fun e w' => e = .returned .nilIface ∧ Below w.heap.size w w' := by
  have c := check_any o a b i w
  rw [h.out, errV_zero] at c
  exact c
theorem check_no (o a b i : Int) (w : World) (h : Hid (IP.may o a b i ≠ 0)) :
    Calls Tryd.prog 68 #[.agg #[.int .i64 o, .int .i64 a, .int .i64 b, .int .i64 i]] w fun e w' => e = .returned (.iface 23 (.int .i64 (IP.may o a b i))) ∧ Below w.heap.size w w' := by
  have c := check_any o a b i w
  have e : errV (IP.may o a b i) = .iface 23 (.int .i64 (IP.may o a b i)) := by unfold errV; rw [if_neg h.out]
  rw [e] at c
  exact c
set_option maxHeartbeats 400000 in
theorem encode_ok (o a b i : Int) (w : World) (h : IP.may o a b i = 0) :
    Calls Tryd.prog 34 #[.agg #[.int .i64 o, .int .i64 a, .int .i64 b, .int .i64 i]] w
      fun e w' => e = .returned (.tuple #[.agg #[.int .i64 (IP.c0 o a b), .int .i64 (IP.c1 i)], .nilIface]) ∧ Below w.heap.size w w' := by
  obtain ⟨o0, o1, a0, a1, b0, b1, i0, i1⟩ := IP.may_zero h
  have H := hid h
  clear h
  by_cases hi : i < 0
  · rw [show IP.c1 i = i + 65536 from by unfold IP.c1; rw [if_pos hi]]
    go_enter Tryd.func34, Tryd.ntmps34
    go_wp2_with fail
    refine (check_ok _ _ _ _ _ H).mono ?_
    rintro e w1 ⟨rfl, hb⟩
    obtain ⟨hc, hz⟩ := bcell hb
    go_wp2_with fail
    have two := two_set (v0 := .int .i64 (o * 256 + a * 16 + b)) (v1 := .int .i64 (i + 65536)) (cells_next (cells_at (w.alloc (.cells #[.int .i64 o, .int .i64 a, .int .i64 b, .int .i64 i] 34)) #[.int .i64 0, .int .i64 0] 78 (w.heap.size + 1) (by simp)) (by simp) hb)
    refine bodyPost_ret (v := .tuple #[.agg #[.int .i64 (o * 256 + a * 16 + b), .int .i64 (i + 65536)], .nilIface]) (by simp [results, Tryd.results34, go_sem, two]) rfl ⟨rfl, ?_⟩
    exact bset (bset (btr (bal (bal (Below.refl _ _) _) _) hb) (by simp) _) (by simp) _
  · rw [show IP.c1 i = i from by unfold IP.c1; rw [if_neg hi]]
    go_enter Tryd.func34, Tryd.ntmps34
    go_wp2_with fail
    refine (check_ok _ _ _ _ _ H).mono ?_
    rintro e w1 ⟨rfl, hb⟩
    obtain ⟨hc, hz⟩ := bcell hb
    go_wp2_with fail
    have two := two_set (v0 := .int .i64 (o * 256 + a * 16 + b)) (v1 := .int .i64 (i)) (cells_next (cells_at (w.alloc (.cells #[.int .i64 o, .int .i64 a, .int .i64 b, .int .i64 i] 34)) #[.int .i64 0, .int .i64 0] 78 (w.heap.size + 1) (by simp)) (by simp) hb)
    refine bodyPost_ret (v := .tuple #[.agg #[.int .i64 (o * 256 + a * 16 + b), .int .i64 (i)], .nilIface]) (by simp [results, Tryd.results34, go_sem, two]) rfl ⟨rfl, ?_⟩
    exact bset (bset (btr (bal (bal (Below.refl _ _) _) _) hb) (by simp) _) (by simp) _
set_option maxHeartbeats 400000 in
theorem encode_no (o a b i : Int) (w : World) (h : IP.may o a b i ≠ 0) :
    Calls Tryd.prog 34 #[.agg #[.int .i64 o, .int .i64 a, .int .i64 b, .int .i64 i]] w
      fun e w' => e = .returned (.tuple #[.agg #[.int .i64 0, .int .i64 0], .iface 23 (.int .i64 (IP.may o a b i))]) ∧ Below w.heap.size w w' := by
  have H := hid h
  clear h
  go_enter Tryd.func34, Tryd.ntmps34
  go_wp2_with fail
  refine (check_no _ _ _ _ _ H).mono ?_
  rintro e w1 ⟨rfl, hb⟩
  obtain ⟨hc, hz⟩ := bcell hb
  go_wp2_with fail
  have two := two_set (v0 := .int .i64 0) (v1 := .int .i64 0) (cells_next (cells_at (w.alloc (.cells #[.int .i64 o, .int .i64 a, .int .i64 b, .int .i64 i] 34)) #[.int .i64 0, .int .i64 0] 78 (w.heap.size + 1) (by simp)) (by simp) hb)
  refine bodyPost_ret (v := .tuple #[.agg #[.int .i64 0, .int .i64 0], .iface 23 (.int .i64 (IP.may o a b i))]) (by simp [results, Tryd.results34, go_sem, two]) rfl ⟨rfl, ?_⟩
  exact bset (bset (btr (bal (bal (Below.refl _ _) _) _) hb) (by simp) _) (by simp) _
end Go.Proofs.YtfpkbfhaipgibaaDoor.Isa
