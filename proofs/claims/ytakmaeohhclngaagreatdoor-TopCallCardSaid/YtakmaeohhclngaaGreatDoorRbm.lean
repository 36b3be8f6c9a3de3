/- What ringing and hearing a bell, and sending a word, come to in a sound world: the program's way and the document's are the same. · Bells, by the document: keyholdref.RingBell, HearBell; walked. (Written by mk_bell.py.) · Who stands first: mail.first; what mail.Ring and mail.Listen do, and what the document asks; walked. (Written by mk_bdeed.py.) · The rest of MlB: what few laws reach. · TopBell's worlds, plain: before the hearing (A), listening (B), having heard at once (C), woken by a ring (D); what ringing and hearing do to them. · TopBell's worlds are sound, whatever the letters. · What sending and taking a word have in common, plain; mail.ask, walked. (Cut out of MlSn.) -/
import Derived.Test.YtakmaeohhclngaaGreatDoorRbg
import Derived.Test.YtakmaeohhclngaaGreatDoorRbh
import Derived.Test.YtakmaeohhclngaaGreatDoorRbl
import Derived.Test.YtakmaeohhclngaaGreatDoorRau
import Derived.Test.YtakmaeohhclngaaGreatDoorRbj
import Derived.Test.YtakmaeohhclngaaGreatDoorRbk
namespace Go.Proofs.YtakmaeohhclngaaGreatDoor.Wd
open Go.RowKit Go.Proofs.YtakmaeohhclngaaGreatDoor.Mem Go.Proofs.YtakmaeohhclngaaGreatDoor.Bw Go.Proofs.YtakmaeohhclngaaGreatDoor.Nums Go.Proofs.YtakmaeohhclngaaGreatDoor.Mmu
/-- Who stands first in a line of a sound world is a task that is there. -/
theorem line_first {p : PW} (h : Snd p) {a : Nat} (ha : a < p.lines.length) {z : Int} {l : List Int} (hz : p.lines.getD a [] = z :: l) : ∃ (t : Nat) (ht : t < p.kinds.length), z = t ∧ p.kinds[t] = 6 ∧ p.tasks.getD t bl 14 = a := by
 have e : p.lines[a] = z :: l := by rw [← hz, List.getD_eq_getElem?_getD, List.getElem?_eq_getElem ha]; rfl
 have h1 : blB p a (p.kinds.getD a 0) (p.bits.getD a 0) p.lines[a] = false := h.b6 a ha
 rw [e] at h1
 unfold blB at h1
 rw [Bool.or_eq_false_iff, List.any_cons, Bool.or_eq_false_iff] at h1
 have h2 := h1.2.1
 unfold tB at h2
 rw [Bool.not_eq_false', Bool.and_eq_true, Bool.and_eq_true] at h2
 have h3 := h2.1.1
 have h4 := eq_of_beq h2.1.2
 unfold isB kindAt at h3
 by_cases h0 : 0 ≤ z
 ·rw [if_pos h0] at h3
  obtain ⟨t, rfl⟩ : ∃ t : Nat, z = t := ⟨z.toNat, by omega⟩
  rw [Int.toNat_natCast] at h3
  have h5 := eq_of_beq h3
  obtain ⟨ht, h6⟩ := List.getElem?_eq_some_iff.1 h5
  have hl : t < p.tasks.length := by rw [h.lf.tasks]; exact ht
  unfold atV at h4
  rw [Int.toNat_natCast, List.getElem?_eq_getElem hl] at h4
  refine ⟨t, ht, rfl, h6, ?_⟩
  rw [List.getD_eq_getElem?_getD, List.getElem?_eq_getElem hl]
  exact h4
 ·rw [if_neg h0] at h3
  cases h3
/-- A task that stands somewhere: of which kind that is, how often it stands there, and that it is on no core and in no Ready. -/
theorem stands_at {p : PW} (h : Snd p) {t a : Nat} (ht : t < p.kinds.length) (hk : p.kinds[t] = 6) (hat : p.tasks.getD t bl 14 = a) : isB p a (pl (p.tasks.getD t bl 9)) = true ∧ cna t p.lines = 1 ∧ lvs t p.ready = p.ready ∧ p.cores.map (noT t) = p.cores ∧ pl (p.tasks.getD t bl 9) ≠ 0 := by
 obtain ⟨_, _, _, hs, hr⟩ := snd_task h ht hk
 unfold srB at hs
 rw [hat] at hs
 by_cases h0 : pl (p.tasks.getD t bl 9) = 0
 ·rw [if_pos h0, Bool.and_eq_true] at hs
  have := eq_of_beq hs.1
  omega
 ·rw [if_neg h0, Bool.and_eq_true, Bool.and_eq_true] at hs
  have h1 := eq_of_beq hs.1.2
  have h9 : ¬ p.tasks.getD t bl 9 = 1 := fun e => h0 (by rw [e]; decide)
  unfold rrB at hr
  rw [if_neg h9] at hr
  have h2 := eq_of_beq hr
  exact ⟨hs.1.1, by omega, lvs_self (by omega), noT_self (by omega), h0⟩
theorem isB_at {p : PW} {a : Nat} {k : Int} (ha : a < p.kinds.length) (h : isB p a k = true) : p.kinds[a] = k := by
 unfold isB at h
 rw [kindAt_some ha] at h
 simpa using h
theorem cna_pos {t : Int} {l : List Int} : ∀ {ls : List (List Int)} {a : Nat}, ls[a]? = some (t :: l) → 0 < cna t ls
 | [], a, h => by simp at h
 | x :: r, 0, h => by
  simp only [List.getElem?_cons_zero, Option.some.injEq] at h
  subst h
  have : 0 < cn t (t :: l) := cn_mem (List.mem_cons_self ..)
  unfold cna sumOf
  simp only [List.map_cons, List.sum_cons]
  omega
 | x :: r, a + 1, h => by
  have h1 := cna_pos (ls := r) (a := a) (by simpa using h)
  unfold cna sumOf at h1 ⊢
  simp only [List.map_cons, List.sum_cons]
  omega
/-- Who stands first, and nowhere else, is taken out of all lines. -/
theorem lvs_first {t : Int} {l : List Int} : ∀ {ls : List (List Int)} {a : Nat}, cna t ls = 1 → ls[a]? = some (t :: l) → lvs t ls = ls.set a l
 | [], a, _, h => by simp at h
 | x :: r, 0, h0, h => by
  simp only [List.getElem?_cons_zero, Option.some.injEq] at h
  subst h
  have h1 : cna t r = 0 ∧ cn t l = 0 := by
   unfold cna cn sumOf at h0 ⊢
   simp only [List.map_cons, List.sum_cons] at h0
   have : one t t = 1 := if_pos rfl
   omega
  have h2 : lvs t r = r := lvs_self h1.1
  unfold lvs at h2 ⊢
  rw [List.map_cons, h2, List.set_cons_zero]
  congr 1
  have h3 : goneP (fun y => y == t) l = l := gone_self h1.2
  unfold goneP at h3 ⊢
  rw [List.filter_cons_of_neg (by simp)]
  exact h3
 | x :: r, a + 1, h0, h => by
  have hr : r[a]? = some (t :: l) := by simpa using h
  have h1 := cna_pos hr
  have h2 : cna t r = 1 ∧ cn t x = 0 := by
   unfold cna sumOf at h0 h1 ⊢
   simp only [List.map_cons, List.sum_cons] at h0
   omega
  have h3 := lvs_first h2.1 hr
  unfold lvs at h3 ⊢
  rw [List.map_cons, h3, List.set_cons_succ, gone_self h2.2]
/-- Who is on a core stands nowhere else. -/
theorem core_in {p : PW} (h : Snd p) {t : Nat} (ht : t < p.kinds.length) (hk : p.kinds[t] = 6) (hc : inB t p.cores = true) : lvs t p.lines = p.lines ∧ lvs t p.ready = p.ready ∧ p.tasks.getD t bl 9 = 1 := by
 obtain ⟨_, _, _, hs, hr⟩ := snd_task h ht hk
 unfold inB at hc
 have h0 := of_decide_eq_true hc
 unfold rrB at hr
 by_cases h9 : p.tasks.getD t bl 9 = 1
 ·rw [if_pos h9] at hr
  have h2 := eq_of_beq hr
  unfold srB at hs
  rw [h9, if_pos (by decide), Bool.and_eq_true] at hs
  have h1 := eq_of_beq hs.2
  exact ⟨lvs_self (by omega), lvs_self (by omega), h9⟩
 ·rw [if_neg h9] at hr
  have h2 := eq_of_beq hr
  omega
theorem wk_all (p : PW) (t n : Nat) (ht : t < p.tasks.length) : wkP p t n = wnP { p with lines := lvs t p.lines, ready := lvs t p.ready, cores := p.cores.map (noT t) } t n := by
 unfold wkP wnP lvP PW.task
 simp only
 rw [set_getD _ t _ _ ht, set_getD _ t _ _ ht, List.set_set, List.set_set, upd_comm _ 14 9 _ _ (by decide)]
theorem upd_same (f : Nat → Int) (k : Nat) (x y : Int) : upd (upd f k x) k y = upd f k y := by
 funext j
 unfold upd
 by_cases h : j = k
 ·rw [if_pos h, if_pos h]
 ·rw [if_neg h, if_neg h, if_neg h]
theorem task_same (p : PW) (t k : Nat) (x y : Int) (ht : t < p.tasks.length) : (p.task t k x).task t k y = p.task t k y := by
 unfold PW.task
 simp only
 rw [set_getD _ t _ _ ht, List.set_set, upd_same]
theorem task_comm (p : PW) (t i j : Nat) (x y : Int) (ht : t < p.tasks.length) (h : i ≠ j) : (p.task t i x).task t j y = (p.task t j y).task t i x := by
 unfold PW.task
 simp only
 rw [set_getD _ t _ _ ht, set_getD _ t _ _ ht, List.set_set, List.set_set, upd_comm _ i j _ _ h]
theorem wn14 (p : PW) (t n : Nat) (x : Int) (ht : t < p.tasks.length) : wnP (p.task t 14 x) t n = wnP p t n := by
 unfold wnP
 rw [task_comm p t 14 9 x 1 ht (by decide), task_same _ t 14 x (-1) (by rw [PW.task_len]; exact ht)]
 rfl
/-- Who stood first is handed two numbers and wakes: the program's way. -/
theorem wake_first {p : PW} (h : Snd p) {t a : Nat} {l : List Int} (ha : a < p.lines.length) (hz : p.lines.getD a [] = (t : Int) :: l) (ht : t < p.kinds.length) (hk : p.kinds[t] = 6) (hat : p.tasks.getD t bl 14 = a) (x y : Int) (n : Nat) :
  wkP ((p.task t 1 x).task t 2 y) t n = wnP (((frP p a t l).task t 1 x).task t 2 y) t n := by
 have hl : t < p.tasks.length := by rw [h.lf.tasks]; exact ht
 obtain ⟨_, h1, h2, h3, _⟩ := stands_at h ht hk hat
 have e : p.lines[a]? = some ((t : Int) :: l) := by
  rw [List.getD_eq_getElem?_getD, List.getElem?_eq_getElem ha, Option.getD_some] at hz
  rw [List.getElem?_eq_getElem ha, hz]
 have h4 := lvs_first h1 e
 rw [wk_all _ t n (by rw [PW.task_len, PW.task_len]; exact hl)]
 show wnP { (p.task t 1 x).task t 2 y with lines := lvs t p.lines, ready := lvs t p.ready, cores := p.cores.map (noT t) } t n = _
 rw [h2, h3, h4]
 unfold frP
 have hl2 : t < (({ p with lines := p.lines.set a l } : PW)).tasks.length := hl
 rw [task_comm _ t 14 1 _ _ hl2 (by decide), task_comm _ t 14 2 _ _ (by rw [PW.task_len]; exact hl2) (by decide), wn14 _ t n _ (by rw [PW.task_len, PW.task_len]; exact hl2)]
 rfl
theorem fr_fits {p : PW} (h : p.Fits) (a t : Nat) (l : List Int) (hl : l.length ≤ 1000) : (frP p a t l).Fits := by
 have h2 : ({ p with lines := p.lines.set a l } : PW).Fits := ⟨h.ram, h.kinds, h.slots, h.tasks, by show (p.lines.set a l).length ≤ 1000; rw [List.length_set]; exact h.lines, fun x hx => by
  rcases List.mem_or_eq_of_mem_set hx with h1 | h1
  ·exact h.line x h1
  ·rw [h1]; exact hl, h.bits, h.cores, h.ready, h.next, h.tlbs, h.doms⟩
 unfold frP
 exact ⟨h2.ram, h2.kinds, h2.slots, by rw [PW.task_len]; exact h2.tasks, h2.lines, h2.line, h2.bits, h2.cores, h2.ready, h2.next, h2.tlbs, h2.doms⟩
theorem tsk_fits {p : PW} (h : p.Fits) (t k : Nat) (x : Int) : (p.task t k x).Fits := ⟨h.ram, h.kinds, h.slots, by rw [PW.task_len]; exact h.tasks, h.lines, h.line, h.bits, h.cores, h.ready, h.next, h.tlbs, h.doms⟩
theorem fr_len (p : PW) (a t : Nat) (l : List Int) : (frP p a t l).tasks.length = p.tasks.length := PW.task_len _ t 14 (-1)
set_option maxRecDepth 100000 in
set_option maxHeartbeats 4000000 in
theorem first_nil (wb : Nat) (tag : Nat → Nat) (V : Nat → Value) (p : PW) (a : Nat) (sv : Value) (W : World) (bt : BoxT W wb tag V p) (hp : p.Fits) (ha : a < p.lines.length) (hz : p.lines.getD a [] = []) :
  Calls Tryz.prog 26 #[.pointer (some ⟨wb, 0, none⟩), .int .i64 a, sv] W fun r W' => r = .returned (.int .i64 (-1)) ∧ Below W.heap.size W W' := by
 have hl4 : (p.lines.length : Int) ≤ 1000 := by have := hp.lines; omega
 have ha2 : (a : Int) < (p.lines.length : Int) := by omega
 obtain ⟨gL, eL⟩ := bt.o.lines.form
 have hLR := bt.o.lines
 rw [eL] at hLR
 obtain ⟨u, cu, hu⟩ := hLR.at ha
 unfold ci at hu
 rw [hz] at hu
 have c4 : W.cell? ⟨wb, 4, none⟩ = some (.slice (some ⟨gL, 0, none⟩) p.lines.length p.lines.length) := by rw [range_cell bt.r (k := 4) rfl, eL]
 obtain ⟨q, gu, cap, rfl, -⟩ := hu.shape
 simp only [List.length_nil] at cu
 clear bt hp ha hz eL hLR hu
 go_enter Tryz.func26, Tryz.ntmps26
 go_upto_region 2 with fail
 go_quiet (fail)
 have BS := hid (below_drewN (Below.refl W.heap.size W) nq)
 generalize World.drewN _ _ = W1 at BS ⊢
 go_wp2_with fail
 go_ret
 exact ⟨rfl, BS.out⟩
theorem in_one (x s : Int) : inB x [s] = (s == x) := by
 unfold inB cn sumOf one
 by_cases h : s = x
 ·simp [h]
 ·simp [h]
set_option maxRecDepth 100000 in
set_option maxHeartbeats 4000000 in
theorem first_list (wb : Nat) (tag : Nat → Nat) (V : Nat → Value) (p : PW) (a t : Nat) (l : List Int) (sv : Value) (zs : List Int) (W : World) (bt : BoxT W wb tag V p) (hp : p.Fits) (ha : a < p.lines.length) (hz : p.lines.getD a [] = (t : Int) :: l) (ht : t < p.tasks.length) (hsv : IntsIn W sv zs) (hzs : zs.length ≤ 1000) :
  Calls Tryz.prog 26 #[.pointer (some ⟨wb, 0, none⟩), .int .i64 a, sv] W fun r W' => r = .returned (.int .i64 (if inB (p.tasks.getD t bl 9) zs = true then (t : Int) else -1)) ∧ Below W.heap.size W W' := by
 have hl4 : (p.lines.length : Int) ≤ 1000 := by have := hp.lines; omega
 have ha2 : (a : Int) < (p.lines.length : Int) := by omega
 obtain ⟨gL, eL⟩ := bt.o.lines.form
 have hLR := bt.o.lines
 rw [eL] at hLR
 obtain ⟨u, cu, hu⟩ := hLR.at ha
 unfold ci at hu
 rw [hz] at hu
 have c4 : W.cell? ⟨wb, 4, none⟩ = some (.slice (some ⟨gL, 0, none⟩) p.lines.length p.lines.length) := by rw [range_cell bt.r (k := 4) rfl, eL]
 obtain ⟨gu, cap, rfl⟩ := hu.form (by simp)
 have x0 := hu.int (show 0 < ((t : Int) :: l).length by simp)
 simp only [List.length_cons] at cu
 simp only [List.getElem_cons_zero] at x0
 have hgt : (0 : Int) < ((l.length + 1 : Nat) : Int) := by omega
 have hll : l.length + 1 ≤ 1000 := by
  have h1 := hp.line _ (List.getElem_mem ha)
  have h2 := hz
  rw [List.getD_eq_getElem?_getD, List.getElem?_eq_getElem ha, Option.getD_some] at h2
  rw [h2] at h1
  exact h1
 have hl5 : ((l.length + 1 : Nat) : Int) ≤ 1000 := by omega
 obtain ⟨g3, cap3, e3⟩ := bt.o.tasks.form (by omega)
 have hl3 : (p.tasks.length : Int) ≤ 1000 := by have := hp.tasks; omega
 have ht2 : (t : Int) < (p.tasks.length : Int) := by omega
 have c3 : W.cell? ⟨wb, 3, none⟩ = some (.slice (some ⟨g3, 0, none⟩) p.tasks.length cap3) := by rw [range_cell bt.r (k := 3) rfl, e3]
 have x9 := bt.taskAt e3 ht (show 9 < 20 by omega)
 generalize p.tasks.getD t bl 9 = y at x9 ⊢
 have HCX := hid (fun n => ((contains_any sv zs y (W.drewN n) (hsv.below (below_drew W n)) hzs).mono fun _ _ h => (⟨h.1, h.2.symm⟩ : _ ∧ _)))
 generalize inB y zs = bb at HCX ⊢
 clear bt hp ha hz eL hLR hu e3 ht hsv hll hzs
 cases bb with
 | true =>
  rw [if_pos rfl]
  go_enter Tryz.func26, Tryz.ntmps26
  go_upto_region 2 with fail
  go_quiet (first | (go_at_call 60; refine Calls.quiet_of_same (HCX.out _)))
  have BS := hid (below_drewN (Below.refl W.heap.size W) nq)
  have y0 : (W.drewN nq).cell? ⟨gu, 0, none⟩ = some (.int .i64 t) := x0
  generalize World.drewN _ _ = W1 at BS y0 ⊢
  clear x0 cu c4 c3 x9 HCX
  go_wp2_with fail
  go_ret
  exact ⟨rfl, BS.out⟩
 | false =>
  rw [if_neg (by decide)]
  go_enter Tryz.func26, Tryz.ntmps26
  go_upto_region 2 with fail
  go_quiet (first | (go_at_call 60; refine Calls.quiet_of_same (HCX.out _)))
  have BS := hid (below_drewN (Below.refl W.heap.size W) nq)
  generalize World.drewN _ _ = W1 at BS ⊢
  clear x0 cu c4 c3 x9 HCX
  go_wp2_with fail
  go_ret
  exact ⟨rfl, BS.out⟩
theorem first_cons (wb : Nat) (tag : Nat → Nat) (V : Nat → Value) (p : PW) (a t : Nat) (l : List Int) (sv : Value) (s : Int) (W : World) (bt : BoxT W wb tag V p) (hp : p.Fits) (ha : a < p.lines.length) (hz : p.lines.getD a [] = (t : Int) :: l) (ht : t < p.tasks.length) (hsv : IntsIn W sv [s]) :
  Calls Tryz.prog 26 #[.pointer (some ⟨wb, 0, none⟩), .int .i64 a, sv] W fun r W' => r = .returned (.int .i64 (if p.tasks.getD t bl 9 = s then (t : Int) else -1)) ∧ Below W.heap.size W W' := by
 have h := first_list wb tag V p a t l sv [s] W bt hp ha hz ht hsv (by simp)
 rw [in_one] at h
 have e : (if (s == p.tasks.getD t bl 9) = true then (t : Int) else -1) = if p.tasks.getD t bl 9 = s then (t : Int) else -1 := by
  by_cases hy : p.tasks.getD t bl 9 = s
  ·rw [if_pos hy, if_pos (by rw [hy]; exact beq_self_eq_true s)]
  ·rw [if_neg hy, if_neg (by simpa using fun e => hy e.symm)]
 rw [e] at h
 exact h
end Go.Proofs.YtakmaeohhclngaaGreatDoor.Wd
namespace Go.Proofs.YtakmaeohhclngaaGreatDoor.Wd
open Go.RowKit Go.Proofs.YtakmaeohhclngaaGreatDoor.Mem Go.Proofs.YtakmaeohhclngaaGreatDoor.Bw Go.Proofs.YtakmaeohhclngaaGreatDoor.Nums Go.Proofs.YtakmaeohhclngaaGreatDoor.Mmu
end Go.Proofs.YtakmaeohhclngaaGreatDoor.Wd
namespace Go.Proofs.YtakmaeohhclngaaGreatDoor.Wd
open Go.RowKit Go.Proofs.YtakmaeohhclngaaGreatDoor.Mem Go.Proofs.YtakmaeohhclngaaGreatDoor.Bw Go.Proofs.YtakmaeohhclngaaGreatDoor.Nums Go.Proofs.YtakmaeohhclngaaGreatDoor.Mmu Go.Proofs.YtakmaeohhclngaaGreatDoor.Hex Go.Proofs.YtakmaeohhclngaaGreatDoor.Mad
/-- Core 0 has picked. -/
def p3 (L : Nat → Int) : PW := slP (p2 L) 0
theorem p3_fit (L : Nat → Int) : fitB (p3 L) = true := by kernel_rfl
theorem p3_snd (L : Nat → Int) (h : ∀ i, i < 32 → 0 ≤ L i ∧ L i ≤ 65535) : sndB (p3 L) = true := snd_ram (ramL_in h) (by kernel_rfl)
theorem p2_pick (L : Nat → Int) : pkE (p2 L) 0 = 0 := by kernel_rfl
theorem p3_core (L : Nat → Int) : (p3 L).cores.getD 0 0 = 8 := by kernel_rfl
theorem p3_kinds (L : Nat → Int) : (p3 L).kinds.length = 24 ∧ (p2 L).kinds.length = 24 ∧ (p3 L).cores.length = 2 ∧ (p2 L).cores.length = 2 := ⟨by kernel_rfl, by kernel_rfl, by kernel_rfl, by kernel_rfl⟩
/-- Before task 8 listens: the bell's bits are v. -/
def mA (L : Nat → Int) (v : Int) : PW := { p3 L with bits := (p3 L).bits.set 11 v }
end Go.Proofs.YtakmaeohhclngaaGreatDoor.Wd
namespace Go.Proofs.YtakmaeohhclngaaGreatDoor.Wd
open Go.RowKit Go.Proofs.YtakmaeohhclngaaGreatDoor.Mem Go.Proofs.YtakmaeohhclngaaGreatDoor.Bw Go.Proofs.YtakmaeohhclngaaGreatDoor.Nums Go.Proofs.YtakmaeohhclngaaGreatDoor.Mmu Go.Proofs.YtakmaeohhclngaaGreatDoor.Hex Go.Proofs.YtakmaeohhclngaaGreatDoor.Mad
/-- One place is asked by hand. -/
theorem lk_but {α : Type} {bad : Nat → α → Bool} {l : List α} (i : Nat) (d : α) (hi : bad i (l.getD i d) = false) (h : lk (fun k x => if k = i then false else bad k x) l = none) : lk bad l = none := lk_none (fun k hk => by
 by_cases e : k = i
 ·subst e
  rw [List.getD_eq_getElem?_getD, List.getElem?_eq_getElem hk] at hi
  exact hi
 ·unfold lk at h
  rw [List.find?_eq_none] at h
  have := h k (List.mem_range.2 hk)
  rw [List.getElem?_eq_getElem hk] at this
  simpa [e] using this)
/-- The looks that ask letters are done by hand: the words, the tasks, the lines. -/
def sndT (p : PW) : Bool := (lfB p && within 0 1000000 p.time) && (firstOf [(3, lk (fun _ x => nkB x) p.kinds), (2, lk (fun _ x => nd x) p.doms), (8, lk (fun k s => bsB p (p.kinds.getD (k / 16) 0) s) p.slots), (8, lk (fun k x => bfB p k x) p.kinds), (8, lk (fun k t => bcB p k t) p.cores), (8, lk (fun k l => brB p k l) p.ready), (9, lk (fun k x => beB p (p.kinds.getD (k / 16) 0) x) p.ram), (9, lk (fun _ l => bmB p l) p.tlbs)]).1 == 0
theorem first_none {e : Int} {o : Option Nat} {r : List (Int × Option Nat)} (he : e ≠ 0) (h : (firstOf ((e, o) :: r)).1 = 0) : o = none ∧ (firstOf r).1 = 0 := by
 cases o with
 | some k => exact absurd h he
 | none => exact ⟨rfl, h⟩
theorem snd_hand {p : PW} (h1 : ∀ x ∈ p.ram, 0 ≤ x ∧ x ≤ 65535) (h2 : lk (fun k f => btB p k (p.kinds.getD k 0) f) p.tasks = none) (h3 : lk (fun k l => blB p k (p.kinds.getD k 0) (p.bits.getD k 0) l) p.lines = none) (h : sndT p = true) : sndB p = true := by
 unfold sndT at h
 rw [Bool.and_eq_true, beq_iff_eq] at h
 obtain ⟨h0, h⟩ := h
 obtain ⟨a1, h⟩ := first_none (by decide) h
 obtain ⟨a2, h⟩ := first_none (by decide) h
 obtain ⟨a3, h⟩ := first_none (by decide) h
 obtain ⟨a4, h⟩ := first_none (by decide) h
 obtain ⟨a5, h⟩ := first_none (by decide) h
 obtain ⟨a6, h⟩ := first_none (by decide) h
 obtain ⟨a7, h⟩ := first_none (by decide) h
 obtain ⟨a8, h⟩ := first_none (by decide) h
 have e : lk (fun _ x => nwB x) p.ram = none := lk_none (fun k hk => by
  have := h1 _ (List.getElem_mem hk)
  unfold nwB wB
  simpa using this)
 unfold sndB wmA
 rw [h0, if_pos rfl]
 unfold looks
 rw [e, a1, a2, a3, a4, h2, h3, a5, a6, a7, a8]
 rfl
theorem wB_of {v : Int} (h : 0 ≤ v ∧ v ≤ 65535) : wB v = true := decide_eq_true h
end Go.Proofs.YtakmaeohhclngaaGreatDoor.Wd
namespace Go.Proofs.YtakmaeohhclngaaGreatDoor.Wd
open Go.RowKit Go.Proofs.YtakmaeohhclngaaGreatDoor.Mem Go.Proofs.YtakmaeohhclngaaGreatDoor.Bw Go.Proofs.YtakmaeohhclngaaGreatDoor.Nums Go.Proofs.YtakmaeohhclngaaGreatDoor.Mmu
theorem no_in {t : Int} : ∀ {ls : List (List Int)}, lvs t ls = ls → ∀ l ∈ ls, ∀ z ∈ l, z ≠ t
 | [], _, _, h => by cases h
 | a :: r, h, l, hl => by
  unfold lvs at h
  rw [List.map_cons] at h
  injection h with h1 h2
  rcases List.mem_cons.1 hl with rfl | hl
  ·intro z hz e
   unfold goneP at h1
   rw [← h1] at hz
   have := (List.mem_filter.1 hz).2
   simp [e] at this
  ·exact no_in (ls := r) h2 l hl
theorem of_no {t : Int} {ls : List (List Int)} (h : ∀ l ∈ ls, ∀ z ∈ l, z ≠ t) : lvs t ls = ls := by
 unfold lvs
 conv => rhs; rw [← List.map_id ls]
 exact List.map_congr_left fun l hl => by
  unfold goneP
  exact List.filter_eq_self.2 fun z hz => by simpa using h l hl z hz
theorem upd_self (f : Nat → Int) (k : Nat) : upd f k (f k) = f := by
 funext j
 unfold upd
 by_cases h : j = k
 ·rw [if_pos h, h]
 ·rw [if_neg h]
theorem task_self (p : PW) (t k : Nat) (ht : t < p.tasks.length) : p.task t k (p.tasks.getD t bl k) = p := by
 unfold PW.task
 rw [upd_self]
 have e : p.tasks.set t (p.tasks.getD t bl) = p.tasks := by
  rw [List.getD_eq_getElem?_getD, List.getElem?_eq_getElem ht, Option.getD_some, List.set_getElem_self]
 rw [e]
theorem task_els (p : PW) (t u k : Nat) (x : Int) (h : u ≠ t) : (p.task u k x).tasks.getD t bl = p.tasks.getD t bl := by
 unfold PW.task
 rw [List.getD_eq_getElem?_getD]
 show ((p.tasks.set u _)[t]?).getD bl = _
 rw [List.getElem?_set_ne h, List.getD_eq_getElem?_getD]
theorem ask_eq {q : PW} {t : Nat} (ht : t < q.tasks.length) (h4 : lvs t q.lines = q.lines) (h7 : lvs t q.ready = q.ready) (h14 : q.tasks.getD t bl 14 = -1) : lvP q t = { q with cores := q.cores.map (noT t) } := by
 have e := task_self q t 14 ht
 rw [h14] at e
 unfold lvP
 rw [h4, h7, e]
theorem stand_eq2 {q : PW} {t a : Nat} (hl : t < q.tasks.length) (h4 : lvs t q.lines = q.lines) (h7 : lvs t q.ready = q.ready) (s : Int) : sdP q t a s = ssP q t a s := by
 unfold sdP ssP
 rw [h4]
 have e : ((lvP q t).task t 9 s).task t 14 a = (({ q with cores := q.cores.map (noT t) } : PW).task t 9 s).task t 14 a := by
  unfold lvP
  rw [h4, h7]
  show ((({ q with cores := q.cores.map (noT t) } : PW).task t 14 (-1)).task t 9 s).task t 14 a = _
  have hl2 : t < (({ q with cores := q.cores.map (noT t) } : PW)).tasks.length := hl
  rw [task_comm _ t 14 9 _ _ hl2 (by decide), task_same _ t 14 _ _ (by rw [PW.task_len]; exact hl2)]
 rw [e]
theorem core_at {p : PW} (h : Snd p) {t : Nat} (ht : t < p.kinds.length) (hk : p.kinds[t] = 6) (hc : inB t p.cores = true) : p.tasks.getD t bl 14 = -1 := by
 obtain ⟨_, _, h9⟩ := core_in h ht hk hc
 obtain ⟨_, _, _, hs, _⟩ := snd_task h ht hk
 unfold srB at hs
 rw [h9, if_pos (by decide), Bool.and_eq_true] at hs
 exact eq_of_beq hs.1
theorem pushl_le {ls : List (List Int)} {k : Nat} {x : Int} {n : Nat} (h : ∀ l ∈ ls, l.length ≤ n) : ∀ l ∈ ls.set k (ls.getD k [] ++ [x]), l.length ≤ n + 1 := fun l hl => by
 rcases List.mem_or_eq_of_mem_set hl with h1 | h1
 ·exact Nat.le_trans (h l h1) (Nat.le_succ _)
 ·rw [h1, List.length_append, List.getD_eq_getElem?_getD]
  cases e : ls[k]? with
  | none => simp
  | some l0 => exact Nat.succ_le_succ (h l0 (List.mem_of_getElem? e))
theorem wn_fits {p : PW} (h : p.Fits) (hs : ∀ l ∈ p.ready, l.length ≤ 50) (t n : Nat) : (wnP p t n).Fits :=
 ⟨h.ram, h.kinds, h.slots, (tsk_fits (tsk_fits h t 9 1) t 14 (-1)).tasks, h.lines, h.line, h.bits, h.cores, by show (p.ready.set n _).length ≤ 1000; rw [List.length_set]; exact h.ready, fun l hl => Nat.le_trans (pushl_le hs l hl) (by omega), h.tlbs, h.doms⟩
theorem tl_le {p : PW} (h : p.Fits) {d : Nat} {z : Int} {l : List Int} (hz : p.lines.getD d [] = z :: l) : l.length + 1 ≤ 1000 := by
 rw [List.getD_eq_getElem?_getD] at hz
 cases e : p.lines[d]? with
 | none => rw [e] at hz; cases hz
 | some y =>
  rw [e, Option.getD_some] at hz
  have h1 := h.line y (List.mem_of_getElem? e)
  rw [hz, List.length_cons] at h1
  exact h1
set_option maxRecDepth 100000 in
set_option maxHeartbeats 4000000 in
theorem ask_any (wb : Nat) (tag : Nat → Nat) (V : Nat → Value) (p : PW) (t u : Nat) (W : World) (bt : BoxT W wb tag V p) (hp : p.Fits) (ht : t < p.tasks.length) (hu : u < p.tasks.length) :
  Calls Tryz.prog 29 #[.pointer (some ⟨wb, 0, none⟩), .int .i64 t, .int .i64 u] W fun r W' => r = .returned (.tuple #[]) ∧ BoxT W' wb tag V (((lvP p t).task t 9 5).task u 17 t) ∧ Kt tag tag W W' := by
 have HLV := hid (leaveW_any wb tag V p t W bt hp ht)
 have LT := hid (show (lvP p t).tasks.length = p.tasks.length from PW.task_len p t 14 (-1))
 have hl3 : (p.tasks.length : Int) ≤ 1000 := by have := hp.tasks; omega
 have ht2 : (t : Int) < (p.tasks.length : Int) := by omega
 obtain ⟨g3, cap3, e3⟩ := bt.o.tasks.form (by omega)
 have E3 := hid e3
 have HTT := hid ht
 have hu2 : (u : Int) < (p.tasks.length : Int) := by omega
 have HUU := hid hu
 clear bt hp e3 ht hu
 go_enter Tryz.func29, Tryz.ntmps29
 go_wp2_with fail
 refine HLV.out.mono ?_
 rintro r w0 ⟨rfl, h1, h2⟩
 have B0 := hid h1
 have K0 := hid h2
 clear h1 h2 HLV
 have e4 := hid (show V 3 = .slice (some ⟨g3, 0, none⟩) (lvP p t).tasks.length cap3 by rw [LT.out]; exact E3.out)
 have c3 : w0.cell? ⟨wb, 3, none⟩ = some (.slice (some ⟨g3, 0, none⟩) p.tasks.length cap3) := by rw [range_cell B0.out.r (k := 3) rfl, E3.out]
 have xa := B0.out.taskAt e4.out (i := t) (by rw [LT.out]; exact HTT.out) (show 9 < 20 by omega)
 have fa := B0.out.tasksFr e4.out (t * 20 + 9)
 obtain ⟨b1, q1⟩ := B0.out.task e4.out (i := t) (by rw [LT.out]; exact HTT.out) (show 9 < 20 by omega) 5
 have B1 := hid b1
 have K1 := hid (K0.out.trans q1)
 clear b1 q1 e4
 clear B0 K0
 go_upto_region 2 with fail
 generalize World.setCell _ _ _ = W1 at *
 clear c3 xa fa
 have e4 := hid (show V 3 = .slice (some ⟨g3, 0, none⟩) ((lvP p t).task t 9 5).tasks.length cap3 by rw [PW.task_len, LT.out]; exact E3.out)
 have c3 : W1.cell? ⟨wb, 3, none⟩ = some (.slice (some ⟨g3, 0, none⟩) p.tasks.length cap3) := by rw [range_cell B1.out.r (k := 3) rfl, E3.out]
 have xa := B1.out.taskAt e4.out (i := u) (by rw [PW.task_len, LT.out]; exact HUU.out) (show 17 < 20 by omega)
 have fa := B1.out.tasksFr e4.out (u * 20 + 17)
 obtain ⟨b1, q1⟩ := B1.out.task e4.out (i := u) (by rw [PW.task_len, LT.out]; exact HUU.out) (show 17 < 20 by omega) t
 have B2 := hid b1
 have K2 := hid (K1.out.trans q1)
 clear b1 q1 e4
 clear B1 K1
 go_wp2_with fail
 exact bodyPost_end (results_none rfl _ _ _) rfl ⟨rfl, B2.out, K2.out⟩
theorem frB_in {p : PW} {f : Int} (h : frB p f = true) : ∃ t : Nat, t < p.kinds.length ∧ f = t := by
 unfold frB at h
 have h3 := of_decide_eq_true h
 exact ⟨f.toNat, by omega, by omega⟩
theorem mt_in {p : PW} {t a k : Int} (h : mtE p t a k = 0) : ∃ (t' a' : Nat) (ht : t' < p.kinds.length) (ha : a' < p.kinds.length), t = t' ∧ a = a' ∧ p.kinds[t'] = 6 ∧ p.kinds[a'] = k ∧ inB t p.cores = true := by
 unfold mtE at h
 by_cases h1 : (frB p t && frB p a) = true
 ·rw [if_pos h1] at h
  by_cases h2 : (isB p t 6 && isB p a k) = true
  ·rw [if_pos h2] at h
   by_cases h3 : inB t p.cores = true
   ·rw [Bool.and_eq_true] at h1 h2
    obtain ⟨t', ht, rfl⟩ := frB_in h1.1
    obtain ⟨a', ha, rfl⟩ := frB_in h1.2
    exact ⟨t', a', ht, ha, rfl, rfl, isB_at ht h2.1, isB_at ha h2.2, h3⟩
   ·rw [if_neg h3] at h; cases h
  ·rw [if_neg h2] at h; cases h
 ·rw [if_neg h1] at h; cases h
end Go.Proofs.YtakmaeohhclngaaGreatDoor.Wd
