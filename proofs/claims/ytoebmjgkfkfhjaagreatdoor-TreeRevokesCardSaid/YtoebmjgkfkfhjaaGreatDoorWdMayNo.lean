/- Whether a world is sound, by the other text: keyholdref.WorldMay where the lists are not as long as they should be; walked. (Written by mk_may.py.) -/
import Derived.Test.YtoebmjgkfkfhjaaGreatDoorWdMay0
namespace Go.Proofs.YtoebmjgkfkfhjaaGreatDoor.Wd
open Go.RowKit Go.Proofs.YtoebmjgkfkfhjaaGreatDoor.Mem Go.Proofs.YtoebmjgkfkfhjaaGreatDoor.Bw Go.Proofs.YtoebmjgkfkfhjaaGreatDoor.Nums Go.Proofs.YtoebmjgkfkfhjaaGreatDoor.Mmu
set_option maxRecDepth 100000 in
set_option maxHeartbeats 40000000 in
theorem worldMay_no (V : Nat → Value) (p : PW) (w : World) (hv : WorldV w V p) (hp : p.Fits) (h : (lfB p && within 0 1000000 p.time) = false) :
  Calls Tryz.prog 61 #[.agg (arr11 V)] w fun r w' => r = .returned (.agg #[.int .i64 (wmA p).1, .int .i64 (wmA p).2]) ∧ Below w.heap.size w w' := by
 have RG := hid (boxed w V 28)
 have B0 := hid (bal (bal (Below.refl w.heap.size w) (.cells (arr11 V) 28)) (.cells #[.int .i64 0, .int .i64 0] 53))
 have RG0 := hid (range_below RG.out (bal (Below.refl _ (w.alloc (.cells (arr11 V) 28))) (.cells #[.int .i64 0, .int .i64 0] 53)))
 have CB := hid (cells_at (w.alloc (.cells (arr11 V) 28)) #[.int .i64 0, .int .i64 0] 53 (w.heap.size + 1) (by simp))
 have FB := hid (show ∀ o, ((w.alloc (.cells (arr11 V) 28)).alloc (.cells #[.int .i64 0, .int .i64 0] 53)).frozen? ⟨w.heap.size + 1, o, none⟩ = false from fun o => World.frozen?_alloc_at _ _ _ _ (by simp))
 have SZ := hid (show w.heap.size + 1 < ((w.alloc (.cells (arr11 V) 28)).alloc (.cells #[.int .i64 0, .int .i64 0] 53)).heap.size by simp)
 obtain ⟨q0, c0, e0⟩ := len_in hv.ram
 obtain ⟨q1, c1, e1⟩ := len_in hv.kinds
 obtain ⟨q2, c2, e2⟩ := hv.slots.slice
 obtain ⟨q3, c3, e3⟩ := hv.tasks.slice
 obtain ⟨q4, c4, e4⟩ := lens_in hv.lines
 obtain ⟨q5, c5, e5⟩ := len_in hv.bits
 obtain ⟨q6, c6, e6⟩ := len_in hv.cores
 obtain ⟨q7, c7, e7⟩ := lens_in hv.ready
 obtain ⟨q8, c8, e8⟩ := hv.tlbs.slice
 obtain ⟨q9, c9, e9⟩ := len_in hv.doms
 have e10 := hv.time
 have l0 : (p.ram.length : Int) ≤ 1000 := by have := hp.ram; omega
 have l1 : (p.kinds.length : Int) ≤ 1000 := by have := hp.kinds; omega
 have l2 : (p.slots.length : Int) ≤ 1000 := by have := hp.slots; omega
 have l3 : (p.tasks.length : Int) ≤ 1000 := by have := hp.tasks; omega
 have l4 : (p.lines.length : Int) ≤ 1000 := by have := hp.lines; omega
 have l5 : (p.bits.length : Int) ≤ 1000 := by have := hp.bits; omega
 have l6 : (p.cores.length : Int) ≤ 1000 := by have := hp.cores; omega
 have l7 : (p.ready.length : Int) ≤ 1000 := by have := hp.ready; omega
 have l8 : (p.tlbs.length : Int) ≤ 1000 := by have := hp.tlbs; omega
 have l9 : (p.doms.length : Int) ≤ 1000 := by have := hp.doms; omega
 have HN := hid (show wmA p = (2, -1) by unfold wmA; rw [h]; rfl)
 have HX := hid (fun a1 a2 b1 b2 c1 c2 d0 d2 d3 d4 d5 d7 d8 (ht : within 0 1000000 p.time = true) => (absurd h (by rw [lfB_of (p := p) a1 a2 b1 b2 c1 c2 d0 d2 d3 d4 d5 d7 d8, ht]; decide) : False))
 clear hv hp h
 generalize p.ram.length = n0 at *
 generalize p.kinds.length = n1 at *
 generalize p.slots.length = n2 at *
 generalize p.tasks.length = n3 at *
 generalize p.lines.length = n4 at *
 generalize p.bits.length = n5 at *
 generalize p.cores.length = n6 at *
 generalize p.ready.length = n7 at *
 generalize p.tlbs.length = n8 at *
 generalize p.doms.length = n9 at *
 generalize p.time = tm at *
 have g0 : ((w.alloc (.cells (arr11 V) 28)).alloc (.cells #[.int .i64 0, .int .i64 0] 53)).cell? ⟨w.heap.size, 0, none⟩ = some (V 0) := range_cell RG0.out rfl
 have g1 : ((w.alloc (.cells (arr11 V) 28)).alloc (.cells #[.int .i64 0, .int .i64 0] 53)).cell? ⟨w.heap.size, 1, none⟩ = some (V 1) := range_cell RG0.out rfl
 have g2 : ((w.alloc (.cells (arr11 V) 28)).alloc (.cells #[.int .i64 0, .int .i64 0] 53)).cell? ⟨w.heap.size, 2, none⟩ = some (V 2) := range_cell RG0.out rfl
 have g3 : ((w.alloc (.cells (arr11 V) 28)).alloc (.cells #[.int .i64 0, .int .i64 0] 53)).cell? ⟨w.heap.size, 3, none⟩ = some (V 3) := range_cell RG0.out rfl
 have g4 : ((w.alloc (.cells (arr11 V) 28)).alloc (.cells #[.int .i64 0, .int .i64 0] 53)).cell? ⟨w.heap.size, 4, none⟩ = some (V 4) := range_cell RG0.out rfl
 have g5 : ((w.alloc (.cells (arr11 V) 28)).alloc (.cells #[.int .i64 0, .int .i64 0] 53)).cell? ⟨w.heap.size, 5, none⟩ = some (V 5) := range_cell RG0.out rfl
 have g6 : ((w.alloc (.cells (arr11 V) 28)).alloc (.cells #[.int .i64 0, .int .i64 0] 53)).cell? ⟨w.heap.size, 6, none⟩ = some (V 6) := range_cell RG0.out rfl
 have g7 : ((w.alloc (.cells (arr11 V) 28)).alloc (.cells #[.int .i64 0, .int .i64 0] 53)).cell? ⟨w.heap.size, 7, none⟩ = some (V 7) := range_cell RG0.out rfl
 have g8 : ((w.alloc (.cells (arr11 V) 28)).alloc (.cells #[.int .i64 0, .int .i64 0] 53)).cell? ⟨w.heap.size, 8, none⟩ = some (V 8) := range_cell RG0.out rfl
 have g9 : ((w.alloc (.cells (arr11 V) 28)).alloc (.cells #[.int .i64 0, .int .i64 0] 53)).cell? ⟨w.heap.size, 9, none⟩ = some (V 9) := range_cell RG0.out rfl
 have g10 : ((w.alloc (.cells (arr11 V) 28)).alloc (.cells #[.int .i64 0, .int .i64 0] 53)).cell? ⟨w.heap.size, 10, none⟩ = some (V 10) := range_cell RG0.out rfl
 by_cases h0 : (n1 : Int) < 1
 ·clear HX
  go_enter Tryz.func61, Tryz.ntmps61
  go_upto_region 3 with fail
  simp only [List.append_eq, List.cons_append, List.nil_append]
  go_wp2_with fail
  refine (err_any 2 _).mono ?_
  rintro r w1 ⟨rfl, hb1⟩
  have cc := cells_next CB.out SZ.out hb1
  have ff : ∀ o, w1.frozen? ⟨w.heap.size + 1, o, none⟩ = false := fun o => (hb1.frozen (p := ⟨w.heap.size + 1, o, none⟩) SZ.out).trans (FB.out o)
  have BZ := hid (btr B0.out hb1)
  clear hb1
  go_wp2_with fail
  have qq := two_set (v0 := .int .i64 2) (v1 := .int .i64 (-1)) cc
  exact bodyPost_ret (v := .agg #[.int .i64 2, .int .i64 (-1)]) (by simp [results, Tryz.results61, go_sem, qq 0, qq 1]) rfl ⟨by rw [HN.out], bset (bset BZ.out (Nat.le_succ _) _) (Nat.le_succ _) _⟩
 by_cases h1 : (24 : Int) < (n1 : Int)
 ·clear HX
  go_enter Tryz.func61, Tryz.ntmps61
  go_upto_region 3 with fail
  simp only [List.append_eq, List.cons_append, List.nil_append]
  go_wp2_with fail
  refine (err_any 2 _).mono ?_
  rintro r w1 ⟨rfl, hb1⟩
  have cc := cells_next CB.out SZ.out hb1
  have ff : ∀ o, w1.frozen? ⟨w.heap.size + 1, o, none⟩ = false := fun o => (hb1.frozen (p := ⟨w.heap.size + 1, o, none⟩) SZ.out).trans (FB.out o)
  have BZ := hid (btr B0.out hb1)
  clear hb1
  go_wp2_with fail
  have qq := two_set (v0 := .int .i64 2) (v1 := .int .i64 (-1)) cc
  exact bodyPost_ret (v := .agg #[.int .i64 2, .int .i64 (-1)]) (by simp [results, Tryz.results61, go_sem, qq 0, qq 1]) rfl ⟨by rw [HN.out], bset (bset BZ.out (Nat.le_succ _) _) (Nat.le_succ _) _⟩
 by_cases h2 : (n6 : Int) < 1
 ·clear HX
  go_enter Tryz.func61, Tryz.ntmps61
  go_upto_region 3 with fail
  simp only [List.append_eq, List.cons_append, List.nil_append]
  go_wp2_with fail
  refine (err_any 2 _).mono ?_
  rintro r w1 ⟨rfl, hb1⟩
  have cc := cells_next CB.out SZ.out hb1
  have ff : ∀ o, w1.frozen? ⟨w.heap.size + 1, o, none⟩ = false := fun o => (hb1.frozen (p := ⟨w.heap.size + 1, o, none⟩) SZ.out).trans (FB.out o)
  have BZ := hid (btr B0.out hb1)
  clear hb1
  go_wp2_with fail
  have qq := two_set (v0 := .int .i64 2) (v1 := .int .i64 (-1)) cc
  exact bodyPost_ret (v := .agg #[.int .i64 2, .int .i64 (-1)]) (by simp [results, Tryz.results61, go_sem, qq 0, qq 1]) rfl ⟨by rw [HN.out], bset (bset BZ.out (Nat.le_succ _) _) (Nat.le_succ _) _⟩
 by_cases h3 : (4 : Int) < (n6 : Int)
 ·clear HX
  go_enter Tryz.func61, Tryz.ntmps61
  go_upto_region 3 with fail
  simp only [List.append_eq, List.cons_append, List.nil_append]
  go_wp2_with fail
  refine (err_any 2 _).mono ?_
  rintro r w1 ⟨rfl, hb1⟩
  have cc := cells_next CB.out SZ.out hb1
  have ff : ∀ o, w1.frozen? ⟨w.heap.size + 1, o, none⟩ = false := fun o => (hb1.frozen (p := ⟨w.heap.size + 1, o, none⟩) SZ.out).trans (FB.out o)
  have BZ := hid (btr B0.out hb1)
  clear hb1
  go_wp2_with fail
  have qq := two_set (v0 := .int .i64 2) (v1 := .int .i64 (-1)) cc
  exact bodyPost_ret (v := .agg #[.int .i64 2, .int .i64 (-1)]) (by simp [results, Tryz.results61, go_sem, qq 0, qq 1]) rfl ⟨by rw [HN.out], bset (bset BZ.out (Nat.le_succ _) _) (Nat.le_succ _) _⟩
 by_cases h4 : (n0 : Int) = (n1 : Int) * 16
 rotate_left
 ·have g24b : ((n0 : Int) != (n1 : Int) * 16) = true := by simpa using h4
  clear h4 HX
  go_enter Tryz.func61, Tryz.ntmps61
  go_upto_region 3 with fail
  simp only [List.append_eq, List.cons_append, List.nil_append]
  go_wp2_with fail
  refine (err_any 2 _).mono ?_
  rintro r w1 ⟨rfl, hb1⟩
  have cc := cells_next CB.out SZ.out hb1
  have ff : ∀ o, w1.frozen? ⟨w.heap.size + 1, o, none⟩ = false := fun o => (hb1.frozen (p := ⟨w.heap.size + 1, o, none⟩) SZ.out).trans (FB.out o)
  have BZ := hid (btr B0.out hb1)
  clear hb1
  go_wp2_with fail
  have qq := two_set (v0 := .int .i64 2) (v1 := .int .i64 (-1)) cc
  exact bodyPost_ret (v := .agg #[.int .i64 2, .int .i64 (-1)]) (by simp [results, Tryz.results61, go_sem, qq 0, qq 1]) rfl ⟨by rw [HN.out], bset (bset BZ.out (Nat.le_succ _) _) (Nat.le_succ _) _⟩
 have g24b : ((n0 : Int) != (n1 : Int) * 16) = false := by simpa using h4
 have H4 := hid h4
 clear h4
 by_cases h5 : (n2 : Int) = (n1 : Int) * 16
 rotate_left
 ·have g25b : ((n2 : Int) != (n1 : Int) * 16) = true := by simpa using h5
  clear h5 HX
  go_enter Tryz.func61, Tryz.ntmps61
  go_upto_region 3 with fail
  simp only [List.append_eq, List.cons_append, List.nil_append]
  go_wp2_with fail
  refine (err_any 2 _).mono ?_
  rintro r w1 ⟨rfl, hb1⟩
  have cc := cells_next CB.out SZ.out hb1
  have ff : ∀ o, w1.frozen? ⟨w.heap.size + 1, o, none⟩ = false := fun o => (hb1.frozen (p := ⟨w.heap.size + 1, o, none⟩) SZ.out).trans (FB.out o)
  have BZ := hid (btr B0.out hb1)
  clear hb1
  go_wp2_with fail
  have qq := two_set (v0 := .int .i64 2) (v1 := .int .i64 (-1)) cc
  exact bodyPost_ret (v := .agg #[.int .i64 2, .int .i64 (-1)]) (by simp [results, Tryz.results61, go_sem, qq 0, qq 1]) rfl ⟨by rw [HN.out], bset (bset BZ.out (Nat.le_succ _) _) (Nat.le_succ _) _⟩
 have g25b : ((n2 : Int) != (n1 : Int) * 16) = false := by simpa using h5
 have H5 := hid h5
 clear h5
 by_cases h6 : (n3 : Int) = (n1 : Int)
 rotate_left
 ·have g26b : ((n3 : Int) != (n1 : Int)) = true := by simpa using h6
  clear h6 HX
  go_enter Tryz.func61, Tryz.ntmps61
  go_upto_region 3 with fail
  simp only [List.append_eq, List.cons_append, List.nil_append]
  go_wp2_with fail
  refine (err_any 2 _).mono ?_
  rintro r w1 ⟨rfl, hb1⟩
  have cc := cells_next CB.out SZ.out hb1
  have ff : ∀ o, w1.frozen? ⟨w.heap.size + 1, o, none⟩ = false := fun o => (hb1.frozen (p := ⟨w.heap.size + 1, o, none⟩) SZ.out).trans (FB.out o)
  have BZ := hid (btr B0.out hb1)
  clear hb1
  go_wp2_with fail
  have qq := two_set (v0 := .int .i64 2) (v1 := .int .i64 (-1)) cc
  exact bodyPost_ret (v := .agg #[.int .i64 2, .int .i64 (-1)]) (by simp [results, Tryz.results61, go_sem, qq 0, qq 1]) rfl ⟨by rw [HN.out], bset (bset BZ.out (Nat.le_succ _) _) (Nat.le_succ _) _⟩
 have g26b : ((n3 : Int) != (n1 : Int)) = false := by simpa using h6
 have H6 := hid h6
 clear h6
 by_cases h7 : (n4 : Int) = (n1 : Int)
 rotate_left
 ·have g27b : ((n4 : Int) != (n1 : Int)) = true := by simpa using h7
  clear h7 HX
  go_enter Tryz.func61, Tryz.ntmps61
  go_upto_region 3 with fail
  simp only [List.append_eq, List.cons_append, List.nil_append]
  go_wp2_with fail
  refine (err_any 2 _).mono ?_
  rintro r w1 ⟨rfl, hb1⟩
  have cc := cells_next CB.out SZ.out hb1
  have ff : ∀ o, w1.frozen? ⟨w.heap.size + 1, o, none⟩ = false := fun o => (hb1.frozen (p := ⟨w.heap.size + 1, o, none⟩) SZ.out).trans (FB.out o)
  have BZ := hid (btr B0.out hb1)
  clear hb1
  go_wp2_with fail
  have qq := two_set (v0 := .int .i64 2) (v1 := .int .i64 (-1)) cc
  exact bodyPost_ret (v := .agg #[.int .i64 2, .int .i64 (-1)]) (by simp [results, Tryz.results61, go_sem, qq 0, qq 1]) rfl ⟨by rw [HN.out], bset (bset BZ.out (Nat.le_succ _) _) (Nat.le_succ _) _⟩
 have g27b : ((n4 : Int) != (n1 : Int)) = false := by simpa using h7
 have H7 := hid h7
 clear h7
 by_cases h8 : (n5 : Int) = (n1 : Int)
 rotate_left
 ·have g28b : ((n5 : Int) != (n1 : Int)) = true := by simpa using h8
  clear h8 HX
  go_enter Tryz.func61, Tryz.ntmps61
  go_upto_region 3 with fail
  simp only [List.append_eq, List.cons_append, List.nil_append]
  go_wp2_with fail
  refine (err_any 2 _).mono ?_
  rintro r w1 ⟨rfl, hb1⟩
  have cc := cells_next CB.out SZ.out hb1
  have ff : ∀ o, w1.frozen? ⟨w.heap.size + 1, o, none⟩ = false := fun o => (hb1.frozen (p := ⟨w.heap.size + 1, o, none⟩) SZ.out).trans (FB.out o)
  have BZ := hid (btr B0.out hb1)
  clear hb1
  go_wp2_with fail
  have qq := two_set (v0 := .int .i64 2) (v1 := .int .i64 (-1)) cc
  exact bodyPost_ret (v := .agg #[.int .i64 2, .int .i64 (-1)]) (by simp [results, Tryz.results61, go_sem, qq 0, qq 1]) rfl ⟨by rw [HN.out], bset (bset BZ.out (Nat.le_succ _) _) (Nat.le_succ _) _⟩
 have g28b : ((n5 : Int) != (n1 : Int)) = false := by simpa using h8
 have H8 := hid h8
 clear h8
 by_cases h9 : (n7 : Int) = (n6 : Int) * 4
 rotate_left
 ·have g29b : ((n7 : Int) != (n6 : Int) * 4) = true := by simpa using h9
  clear h9 HX
  go_enter Tryz.func61, Tryz.ntmps61
  go_upto_region 3 with fail
  simp only [List.append_eq, List.cons_append, List.nil_append]
  go_wp2_with fail
  refine (err_any 2 _).mono ?_
  rintro r w1 ⟨rfl, hb1⟩
  have cc := cells_next CB.out SZ.out hb1
  have ff : ∀ o, w1.frozen? ⟨w.heap.size + 1, o, none⟩ = false := fun o => (hb1.frozen (p := ⟨w.heap.size + 1, o, none⟩) SZ.out).trans (FB.out o)
  have BZ := hid (btr B0.out hb1)
  clear hb1
  go_wp2_with fail
  have qq := two_set (v0 := .int .i64 2) (v1 := .int .i64 (-1)) cc
  exact bodyPost_ret (v := .agg #[.int .i64 2, .int .i64 (-1)]) (by simp [results, Tryz.results61, go_sem, qq 0, qq 1]) rfl ⟨by rw [HN.out], bset (bset BZ.out (Nat.le_succ _) _) (Nat.le_succ _) _⟩
 have g29b : ((n7 : Int) != (n6 : Int) * 4) = false := by simpa using h9
 have H9 := hid h9
 clear h9
 by_cases h10 : (n8 : Int) = (n6 : Int)
 rotate_left
 ·have g30b : ((n8 : Int) != (n6 : Int)) = true := by simpa using h10
  clear h10 HX
  go_enter Tryz.func61, Tryz.ntmps61
  go_upto_region 3 with fail
  simp only [List.append_eq, List.cons_append, List.nil_append]
  go_wp2_with fail
  refine (err_any 2 _).mono ?_
  rintro r w1 ⟨rfl, hb1⟩
  have cc := cells_next CB.out SZ.out hb1
  have ff : ∀ o, w1.frozen? ⟨w.heap.size + 1, o, none⟩ = false := fun o => (hb1.frozen (p := ⟨w.heap.size + 1, o, none⟩) SZ.out).trans (FB.out o)
  have BZ := hid (btr B0.out hb1)
  clear hb1
  go_wp2_with fail
  have qq := two_set (v0 := .int .i64 2) (v1 := .int .i64 (-1)) cc
  exact bodyPost_ret (v := .agg #[.int .i64 2, .int .i64 (-1)]) (by simp [results, Tryz.results61, go_sem, qq 0, qq 1]) rfl ⟨by rw [HN.out], bset (bset BZ.out (Nat.le_succ _) _) (Nat.le_succ _) _⟩
 have g30b : ((n8 : Int) != (n6 : Int)) = false := by simpa using h10
 have H10 := hid h10
 clear h10
 by_cases h11 : (n9 : Int) < 1
 ·clear HX
  go_enter Tryz.func61, Tryz.ntmps61
  go_upto_region 3 with fail
  simp only [List.append_eq, List.cons_append, List.nil_append]
  go_wp2_with fail
  refine (err_any 2 _).mono ?_
  rintro r w1 ⟨rfl, hb1⟩
  have cc := cells_next CB.out SZ.out hb1
  have ff : ∀ o, w1.frozen? ⟨w.heap.size + 1, o, none⟩ = false := fun o => (hb1.frozen (p := ⟨w.heap.size + 1, o, none⟩) SZ.out).trans (FB.out o)
  have BZ := hid (btr B0.out hb1)
  clear hb1
  go_wp2_with fail
  have qq := two_set (v0 := .int .i64 2) (v1 := .int .i64 (-1)) cc
  exact bodyPost_ret (v := .agg #[.int .i64 2, .int .i64 (-1)]) (by simp [results, Tryz.results61, go_sem, qq 0, qq 1]) rfl ⟨by rw [HN.out], bset (bset BZ.out (Nat.le_succ _) _) (Nat.le_succ _) _⟩
 by_cases h12 : (8 : Int) < (n9 : Int)
 ·clear HX
  go_enter Tryz.func61, Tryz.ntmps61
  go_upto_region 3 with fail
  simp only [List.append_eq, List.cons_append, List.nil_append]
  go_wp2_with fail
  refine (err_any 2 _).mono ?_
  rintro r w1 ⟨rfl, hb1⟩
  have cc := cells_next CB.out SZ.out hb1
  have ff : ∀ o, w1.frozen? ⟨w.heap.size + 1, o, none⟩ = false := fun o => (hb1.frozen (p := ⟨w.heap.size + 1, o, none⟩) SZ.out).trans (FB.out o)
  have BZ := hid (btr B0.out hb1)
  clear hb1
  go_wp2_with fail
  have qq := two_set (v0 := .int .i64 2) (v1 := .int .i64 (-1)) cc
  exact bodyPost_ret (v := .agg #[.int .i64 2, .int .i64 (-1)]) (by simp [results, Tryz.results61, go_sem, qq 0, qq 1]) rfl ⟨by rw [HN.out], bset (bset BZ.out (Nat.le_succ _) _) (Nat.le_succ _) _⟩
 cases ht : within 0 1000000 tm with
 | true => exact (HX.out h0 h1 h2 h3 h11 h12 H4.out H5.out H6.out H7.out H8.out H9.out H10.out ht).elim
 | false =>
 have HT := hid ht
 clear ht HX
 go_enter Tryz.func61, Tryz.ntmps61
 go_upto_region 3 with fail
 simp only [List.append_eq, List.cons_append, List.nil_append]
 go_wp2_with fail
 refine (farW tm 1000000 _).mono ?_
 rintro r w1 ⟨rfl, rfl⟩
 rw [HT.out]
 go_wp2_with fail
 refine (err_any 2 _).mono ?_
 rintro r w1 ⟨rfl, hb1⟩
 have cc := cells_next CB.out SZ.out hb1
 have ff : ∀ o, w1.frozen? ⟨w.heap.size + 1, o, none⟩ = false := fun o => (hb1.frozen (p := ⟨w.heap.size + 1, o, none⟩) SZ.out).trans (FB.out o)
 have BZ := hid (btr B0.out hb1)
 clear hb1
 go_wp2_with fail
 have qq := two_set (v0 := .int .i64 2) (v1 := .int .i64 (-1)) cc
 exact bodyPost_ret (v := .agg #[.int .i64 2, .int .i64 (-1)]) (by simp [results, Tryz.results61, go_sem, qq 0, qq 1]) rfl ⟨by rw [HN.out], bset (bset BZ.out (Nat.le_succ _) _) (Nat.le_succ _) _⟩
end Go.Proofs.YtoebmjgkfkfhjaaGreatDoor.Wd
