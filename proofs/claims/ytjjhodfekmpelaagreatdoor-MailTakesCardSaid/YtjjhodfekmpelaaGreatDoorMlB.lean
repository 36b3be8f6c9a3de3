/- What ringing and hearing a bell, and sending a word, come to in a sound world: the program's way and the document's are the same. · Bells, by the document: keyholdref.RingBell, HearBell; walked. (Written by mk_bell.py.) · Who stands first: mail.first; what mail.Ring and mail.Listen do, and what the document asks; walked. (Written by mk_bdeed.py.) -/
import Derived.Test.YtjjhodfekmpelaaGreatDoorGLvMore
import Derived.Test.YtjjhodfekmpelaaGreatDoorGRfM2
import Derived.Test.YtjjhodfekmpelaaGreatDoorMlA
import Derived.Test.YtjjhodfekmpelaaGreatDoorRefBits
namespace Go.Proofs.YtjjhodfekmpelaaGreatDoor.Wd
open Go.RowKit Go.Proofs.YtjjhodfekmpelaaGreatDoor.Mem Go.Proofs.YtjjhodfekmpelaaGreatDoor.Bw Go.Proofs.YtjjhodfekmpelaaGreatDoor.Nums Go.Proofs.YtjjhodfekmpelaaGreatDoor.Mmu
/-- Who stands first in a line of a sound world is a task that is there. -/
theorem line_first {p : PW} (h : Snd p) {a : Nat} (ha : a < p.lines.length) {z : Int} {l : List Int} (hz : p.lines.getD a [] = z :: l) : ∃ (t : Nat) (ht : t < p.kinds.length), z = t ∧ p.kinds[t] = 6 ∧ p.tasks.getD t bl 14 = a := by
 have e : p.lines[a] = z :: l := by rw [← hz, List.getD_eq_getElem?_getD, List.getElem?_eq_getElem ha]; rfl
 have h1 : blB p a (p.kinds.getD a 0) (p.bits.getD a 0) p.lines[a] = false := h.b6 a ha
 rw [e] at h1
 unfold blB at h1
 rw [Bool.or_eq_false_iff, List.any_cons, Bool.or_eq_false_iff] at h1
 have h2 := h1.2.1
 unfold tB at h2
 rw [Bool.not_eq_false', Bool.and_eq_true, Bool.and_eq_true] at h2
 have h3 := h2.1.1
 have h4 := eq_of_beq h2.1.2
 unfold isB kindAt at h3
 by_cases h0 : 0 ≤ z
 ·rw [if_pos h0] at h3
  obtain ⟨t, rfl⟩ : ∃ t : Nat, z = t := ⟨z.toNat, by omega⟩
  rw [Int.toNat_natCast] at h3
  have h5 := eq_of_beq h3
  obtain ⟨ht, h6⟩ := List.getElem?_eq_some_iff.1 h5
  have hl : t < p.tasks.length := by rw [h.lf.tasks]; exact ht
  unfold atV at h4
  rw [Int.toNat_natCast, List.getElem?_eq_getElem hl] at h4
  refine ⟨t, ht, rfl, h6, ?_⟩
  rw [List.getD_eq_getElem?_getD, List.getElem?_eq_getElem hl]
  exact h4
 ·rw [if_neg h0] at h3
  cases h3
/-- A task that stands somewhere: of which kind that is, how often it stands there, and that it is on no core and in no Ready. -/
theorem stands_at {p : PW} (h : Snd p) {t a : Nat} (ht : t < p.kinds.length) (hk : p.kinds[t] = 6) (hat : p.tasks.getD t bl 14 = a) : isB p a (pl (p.tasks.getD t bl 9)) = true ∧ cna t p.lines = 1 ∧ lvs t p.ready = p.ready ∧ p.cores.map (noT t) = p.cores ∧ pl (p.tasks.getD t bl 9) ≠ 0 := by
 obtain ⟨_, _, _, hs, hr⟩ := snd_task h ht hk
 unfold srB at hs
 rw [hat] at hs
 by_cases h0 : pl (p.tasks.getD t bl 9) = 0
 ·rw [if_pos h0, Bool.and_eq_true] at hs
  have := eq_of_beq hs.1
  omega
 ·rw [if_neg h0, Bool.and_eq_true, Bool.and_eq_true] at hs
  have h1 := eq_of_beq hs.1.2
  have h9 : ¬ p.tasks.getD t bl 9 = 1 := fun e => h0 (by rw [e]; decide)
  unfold rrB at hr
  rw [if_neg h9] at hr
  have h2 := eq_of_beq hr
  exact ⟨hs.1.1, by omega, lvs_self (by omega), noT_self (by omega), h0⟩
theorem isB_at {p : PW} {a : Nat} {k : Int} (ha : a < p.kinds.length) (h : isB p a k = true) : p.kinds[a] = k := by
 unfold isB at h
 rw [kindAt_some ha] at h
 simpa using h
theorem cna_pos {t : Int} {l : List Int} : ∀ {ls : List (List Int)} {a : Nat}, ls[a]? = some (t :: l) → 0 < cna t ls
 | [], a, h => by simp at h
 | x :: r, 0, h => by
  simp only [List.getElem?_cons_zero, Option.some.injEq] at h
  subst h
  have : 0 < cn t (t :: l) := cn_mem (List.mem_cons_self ..)
  unfold cna sumOf
  simp only [List.map_cons, List.sum_cons]
  omega
 | x :: r, a + 1, h => by
  have h1 := cna_pos (ls := r) (a := a) (by simpa using h)
  unfold cna sumOf at h1 ⊢
  simp only [List.map_cons, List.sum_cons]
  omega
/-- Who stands first, and nowhere else, is taken out of all lines. -/
theorem lvs_first {t : Int} {l : List Int} : ∀ {ls : List (List Int)} {a : Nat}, cna t ls = 1 → ls[a]? = some (t :: l) → lvs t ls = ls.set a l
 | [], a, _, h => by simp at h
 | x :: r, 0, h0, h => by
  simp only [List.getElem?_cons_zero, Option.some.injEq] at h
  subst h
  have h1 : cna t r = 0 ∧ cn t l = 0 := by
   unfold cna cn sumOf at h0 ⊢
   simp only [List.map_cons, List.sum_cons] at h0
   have : one t t = 1 := if_pos rfl
   omega
  have h2 : lvs t r = r := lvs_self h1.1
  unfold lvs at h2 ⊢
  rw [List.map_cons, h2, List.set_cons_zero]
  congr 1
  have h3 : goneP (fun y => y == t) l = l := gone_self h1.2
  unfold goneP at h3 ⊢
  rw [List.filter_cons_of_neg (by simp)]
  exact h3
 | x :: r, a + 1, h0, h => by
  have hr : r[a]? = some (t :: l) := by simpa using h
  have h1 := cna_pos hr
  have h2 : cna t r = 1 ∧ cn t x = 0 := by
   unfold cna sumOf at h0 h1 ⊢
   simp only [List.map_cons, List.sum_cons] at h0
   omega
  have h3 := lvs_first h2.1 hr
  unfold lvs at h3 ⊢
  rw [List.map_cons, h3, List.set_cons_succ, gone_self h2.2]
/-- Who is on a core stands nowhere else. -/
theorem core_in {p : PW} (h : Snd p) {t : Nat} (ht : t < p.kinds.length) (hk : p.kinds[t] = 6) (hc : inB t p.cores = true) : lvs t p.lines = p.lines ∧ lvs t p.ready = p.ready ∧ p.tasks.getD t bl 9 = 1 := by
 obtain ⟨_, _, _, hs, hr⟩ := snd_task h ht hk
 unfold inB at hc
 have h0 := of_decide_eq_true hc
 unfold rrB at hr
 by_cases h9 : p.tasks.getD t bl 9 = 1
 ·rw [if_pos h9] at hr
  have h2 := eq_of_beq hr
  unfold srB at hs
  rw [h9, if_pos (by decide), Bool.and_eq_true] at hs
  have h1 := eq_of_beq hs.2
  exact ⟨lvs_self (by omega), lvs_self (by omega), h9⟩
 ·rw [if_neg h9] at hr
  have h2 := eq_of_beq hr
  omega
theorem wk_all (p : PW) (t n : Nat) (ht : t < p.tasks.length) : wkP p t n = wnP { p with lines := lvs t p.lines, ready := lvs t p.ready, cores := p.cores.map (noT t) } t n := by
 unfold wkP wnP lvP PW.task
 simp only
 rw [set_getD _ t _ _ ht, set_getD _ t _ _ ht, List.set_set, List.set_set, upd_comm _ 14 9 _ _ (by decide)]
theorem upd_same (f : Nat → Int) (k : Nat) (x y : Int) : upd (upd f k x) k y = upd f k y := by
 funext j
 unfold upd
 by_cases h : j = k
 ·rw [if_pos h, if_pos h]
 ·rw [if_neg h, if_neg h, if_neg h]
theorem task_same (p : PW) (t k : Nat) (x y : Int) (ht : t < p.tasks.length) : (p.task t k x).task t k y = p.task t k y := by
 unfold PW.task
 simp only
 rw [set_getD _ t _ _ ht, List.set_set, upd_same]
theorem task_comm (p : PW) (t i j : Nat) (x y : Int) (ht : t < p.tasks.length) (h : i ≠ j) : (p.task t i x).task t j y = (p.task t j y).task t i x := by
 unfold PW.task
 simp only
 rw [set_getD _ t _ _ ht, set_getD _ t _ _ ht, List.set_set, List.set_set, upd_comm _ i j _ _ h]
theorem wn14 (p : PW) (t n : Nat) (x : Int) (ht : t < p.tasks.length) : wnP (p.task t 14 x) t n = wnP p t n := by
 unfold wnP
 rw [task_comm p t 14 9 x 1 ht (by decide), task_same _ t 14 x (-1) (by rw [PW.task_len]; exact ht)]
 rfl
/-- Who stood first is handed two numbers and wakes: the program's way. -/
theorem wake_first {p : PW} (h : Snd p) {t a : Nat} {l : List Int} (ha : a < p.lines.length) (hz : p.lines.getD a [] = (t : Int) :: l) (ht : t < p.kinds.length) (hk : p.kinds[t] = 6) (hat : p.tasks.getD t bl 14 = a) (x y : Int) (n : Nat) :
  wkP ((p.task t 1 x).task t 2 y) t n = wnP (((frP p a t l).task t 1 x).task t 2 y) t n := by
 have hl : t < p.tasks.length := by rw [h.lf.tasks]; exact ht
 obtain ⟨_, h1, h2, h3, _⟩ := stands_at h ht hk hat
 have e : p.lines[a]? = some ((t : Int) :: l) := by
  rw [List.getD_eq_getElem?_getD, List.getElem?_eq_getElem ha, Option.getD_some] at hz
  rw [List.getElem?_eq_getElem ha, hz]
 have h4 := lvs_first h1 e
 rw [wk_all _ t n (by rw [PW.task_len, PW.task_len]; exact hl)]
 show wnP { (p.task t 1 x).task t 2 y with lines := lvs t p.lines, ready := lvs t p.ready, cores := p.cores.map (noT t) } t n = _
 rw [h2, h3, h4]
 unfold frP
 have hl2 : t < (({ p with lines := p.lines.set a l } : PW)).tasks.length := hl
 rw [task_comm _ t 14 1 _ _ hl2 (by decide), task_comm _ t 14 2 _ _ (by rw [PW.task_len]; exact hl2) (by decide), wn14 _ t n _ (by rw [PW.task_len, PW.task_len]; exact hl2)]
 rfl
theorem fr_fits {p : PW} (h : p.Fits) (a t : Nat) (l : List Int) (hl : l.length ≤ 1000) : (frP p a t l).Fits := by
 have h2 : ({ p with lines := p.lines.set a l } : PW).Fits := ⟨h.ram, h.kinds, h.slots, h.tasks, by show (p.lines.set a l).length ≤ 1000; rw [List.length_set]; exact h.lines, fun x hx => by
  rcases List.mem_or_eq_of_mem_set hx with h1 | h1
  ·exact h.line x h1
  ·rw [h1]; exact hl, h.bits, h.cores, h.ready, h.next, h.tlbs, h.doms⟩
 unfold frP
 exact ⟨h2.ram, h2.kinds, h2.slots, by rw [PW.task_len]; exact h2.tasks, h2.lines, h2.line, h2.bits, h2.cores, h2.ready, h2.next, h2.tlbs, h2.doms⟩
theorem tsk_fits {p : PW} (h : p.Fits) (t k : Nat) (x : Int) : (p.task t k x).Fits := ⟨h.ram, h.kinds, h.slots, by rw [PW.task_len]; exact h.tasks, h.lines, h.line, h.bits, h.cores, h.ready, h.next, h.tlbs, h.doms⟩
theorem fr_task (p : PW) (a t : Nat) (l : List Int) (k : Nat) (ht : t < p.tasks.length) (hk : k ≠ 14) : (frP p a t l).tasks.getD t bl k = p.tasks.getD t bl k := by
 unfold frP
 exact task_at ({ p with lines := p.lines.set a l } : PW) t 14 k (-1) ht hk
theorem fr_len (p : PW) (a t : Nat) (l : List Int) : (frP p a t l).tasks.length = p.tasks.length := PW.task_len _ t 14 (-1)
/-- The numbers of who stood first, behind all that was written. -/
theorem hand_at (p : PW) (a t : Nat) (l : List Int) (x y : Int) (k : Nat) (ht : t < p.tasks.length) (h1 : k ≠ 1) (h2 : k ≠ 2) (h3 : k ≠ 14) : (((frP p a t l).task t 1 x).task t 2 y).tasks.getD t bl k = p.tasks.getD t bl k := by
 rw [task_at _ t 2 k _ (by rw [PW.task_len, fr_len]; exact ht) h2, task_at _ t 1 k _ (by rw [fr_len]; exact ht) h1, fr_task p a t l k ht h3]
set_option maxRecDepth 100000 in
set_option maxHeartbeats 4000000 in
theorem first_nil (wb : Nat) (tag : Nat → Nat) (V : Nat → Value) (p : PW) (a : Nat) (sv : Value) (W : World) (bt : BoxT W wb tag V p) (hp : p.Fits) (ha : a < p.lines.length) (hz : p.lines.getD a [] = []) :
  Calls Tryz.prog 83 #[.pointer (some ⟨wb, 0, none⟩), .int .i64 a, sv] W fun r W' => r = .returned (.int .i64 (-1)) ∧ Below W.heap.size W W' := by
 have hl4 : (p.lines.length : Int) ≤ 1000 := by have := hp.lines; omega
 have ha2 : (a : Int) < (p.lines.length : Int) := by omega
 obtain ⟨gL, eL⟩ := bt.o.lines.form
 have hLR := bt.o.lines
 rw [eL] at hLR
 obtain ⟨u, cu, hu⟩ := hLR.at ha
 unfold ci at hu
 rw [hz] at hu
 have c4 : W.cell? ⟨wb, 4, none⟩ = some (.slice (some ⟨gL, 0, none⟩) p.lines.length p.lines.length) := by rw [range_cell bt.r (k := 4) rfl, eL]
 obtain ⟨q, gu, cap, rfl, -⟩ := hu.shape
 simp only [List.length_nil] at cu
 clear bt hp ha hz eL hLR hu
 go_enter Tryz.func83, Tryz.ntmps83
 go_upto_region 2 with fail
 go_quiet (fail)
 have BS := hid (below_drewN (Below.refl W.heap.size W) nq)
 generalize World.drewN _ _ = W1 at BS ⊢
 go_wp2_with fail
 go_ret
 exact ⟨rfl, BS.out⟩
theorem in_one (x s : Int) : inB x [s] = (s == x) := by
 unfold inB cn sumOf one
 by_cases h : s = x
 ·simp [h]
 ·simp [h]
set_option maxRecDepth 100000 in
set_option maxHeartbeats 4000000 in
theorem first_list (wb : Nat) (tag : Nat → Nat) (V : Nat → Value) (p : PW) (a t : Nat) (l : List Int) (sv : Value) (zs : List Int) (W : World) (bt : BoxT W wb tag V p) (hp : p.Fits) (ha : a < p.lines.length) (hz : p.lines.getD a [] = (t : Int) :: l) (ht : t < p.tasks.length) (hsv : IntsIn W sv zs) (hzs : zs.length ≤ 1000) :
  Calls Tryz.prog 83 #[.pointer (some ⟨wb, 0, none⟩), .int .i64 a, sv] W fun r W' => r = .returned (.int .i64 (if inB (p.tasks.getD t bl 9) zs = true then (t : Int) else -1)) ∧ Below W.heap.size W W' := by
 have hl4 : (p.lines.length : Int) ≤ 1000 := by have := hp.lines; omega
 have ha2 : (a : Int) < (p.lines.length : Int) := by omega
 obtain ⟨gL, eL⟩ := bt.o.lines.form
 have hLR := bt.o.lines
 rw [eL] at hLR
 obtain ⟨u, cu, hu⟩ := hLR.at ha
 unfold ci at hu
 rw [hz] at hu
 have c4 : W.cell? ⟨wb, 4, none⟩ = some (.slice (some ⟨gL, 0, none⟩) p.lines.length p.lines.length) := by rw [range_cell bt.r (k := 4) rfl, eL]
 obtain ⟨gu, cap, rfl⟩ := hu.form (by simp)
 have x0 := hu.int (show 0 < ((t : Int) :: l).length by simp)
 simp only [List.length_cons] at cu
 simp only [List.getElem_cons_zero] at x0
 have hgt : (0 : Int) < ((l.length + 1 : Nat) : Int) := by omega
 have hll : l.length + 1 ≤ 1000 := by
  have h1 := hp.line _ (List.getElem_mem ha)
  have h2 := hz
  rw [List.getD_eq_getElem?_getD, List.getElem?_eq_getElem ha, Option.getD_some] at h2
  rw [h2] at h1
  exact h1
 have hl5 : ((l.length + 1 : Nat) : Int) ≤ 1000 := by omega
 obtain ⟨g3, cap3, e3⟩ := bt.o.tasks.form (by omega)
 have hl3 : (p.tasks.length : Int) ≤ 1000 := by have := hp.tasks; omega
 have ht2 : (t : Int) < (p.tasks.length : Int) := by omega
 have c3 : W.cell? ⟨wb, 3, none⟩ = some (.slice (some ⟨g3, 0, none⟩) p.tasks.length cap3) := by rw [range_cell bt.r (k := 3) rfl, e3]
 have x9 := bt.taskAt e3 ht (show 9 < 20 by omega)
 generalize p.tasks.getD t bl 9 = y at x9 ⊢
 have HCX := hid (fun n => ((contains_any sv zs y (W.drewN n) (hsv.below (below_drew W n)) hzs).mono fun _ _ h => (⟨h.1, h.2.symm⟩ : _ ∧ _)))
 generalize inB y zs = bb at HCX ⊢
 clear bt hp ha hz eL hLR hu e3 ht hsv hll hzs
 cases bb with
 | true =>
  rw [if_pos rfl]
  go_enter Tryz.func83, Tryz.ntmps83
  go_upto_region 2 with fail
  go_quiet (first | (go_at_call 75; refine Calls.quiet_of_same (HCX.out _)))
  have BS := hid (below_drewN (Below.refl W.heap.size W) nq)
  have y0 : (W.drewN nq).cell? ⟨gu, 0, none⟩ = some (.int .i64 t) := x0
  generalize World.drewN _ _ = W1 at BS y0 ⊢
  clear x0 cu c4 c3 x9 HCX
  go_wp2_with fail
  go_ret
  exact ⟨rfl, BS.out⟩
 | false =>
  rw [if_neg (by decide)]
  go_enter Tryz.func83, Tryz.ntmps83
  go_upto_region 2 with fail
  go_quiet (first | (go_at_call 75; refine Calls.quiet_of_same (HCX.out _)))
  have BS := hid (below_drewN (Below.refl W.heap.size W) nq)
  generalize World.drewN _ _ = W1 at BS ⊢
  clear x0 cu c4 c3 x9 HCX
  go_wp2_with fail
  go_ret
  exact ⟨rfl, BS.out⟩
theorem first_cons (wb : Nat) (tag : Nat → Nat) (V : Nat → Value) (p : PW) (a t : Nat) (l : List Int) (sv : Value) (s : Int) (W : World) (bt : BoxT W wb tag V p) (hp : p.Fits) (ha : a < p.lines.length) (hz : p.lines.getD a [] = (t : Int) :: l) (ht : t < p.tasks.length) (hsv : IntsIn W sv [s]) :
  Calls Tryz.prog 83 #[.pointer (some ⟨wb, 0, none⟩), .int .i64 a, sv] W fun r W' => r = .returned (.int .i64 (if p.tasks.getD t bl 9 = s then (t : Int) else -1)) ∧ Below W.heap.size W W' := by
 have h := first_list wb tag V p a t l sv [s] W bt hp ha hz ht hsv (by simp)
 rw [in_one] at h
 have e : (if (s == p.tasks.getD t bl 9) = true then (t : Int) else -1) = if p.tasks.getD t bl 9 = s then (t : Int) else -1 := by
  by_cases hy : p.tasks.getD t bl 9 = s
  ·rw [if_pos hy, if_pos (by rw [hy]; exact beq_self_eq_true s)]
  ·rw [if_neg hy, if_neg (by simpa using fun e => hy e.symm)]
 rw [e] at h
 exact h
end Go.Proofs.YtjjhodfekmpelaaGreatDoor.Wd
