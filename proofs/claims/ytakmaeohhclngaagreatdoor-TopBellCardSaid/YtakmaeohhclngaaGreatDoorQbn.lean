/- What ringing and hearing a bell, and sending a word, come to in a sound world: the program's way and the document's are the same. · Bells, by the document: keyholdref.RingBell, HearBell; walked. (Written by mk_bell.py.) · Who stands first: mail.first; what mail.Ring and mail.Listen do, and what the document asks; walked. (Written by mk_bdeed.py.) · The rest of MlB: what few laws reach. -/
import Derived.Test.YtakmaeohhclngaaGreatDoorQbh
import Derived.Test.YtakmaeohhclngaaGreatDoorQbi
import Derived.Test.YtakmaeohhclngaaGreatDoorQbm
import Derived.Test.YtakmaeohhclngaaGreatDoorQat
namespace Go.Proofs.YtakmaeohhclngaaGreatDoor.Wd
open Go.RowKit Go.Proofs.YtakmaeohhclngaaGreatDoor.Mem Go.Proofs.YtakmaeohhclngaaGreatDoor.Bw Go.Proofs.YtakmaeohhclngaaGreatDoor.Nums Go.Proofs.YtakmaeohhclngaaGreatDoor.Mmu
/-- Who stands first in a line of a sound world is a task that is there. -/
theorem line_first {p : PW} (h : Snd p) {a : Nat} (ha : a < p.lines.length) {z : Int} {l : List Int} (hz : p.lines.getD a [] = z :: l) : ∃ (t : Nat) (ht : t < p.kinds.length), z = t ∧ p.kinds[t] = 6 ∧ p.tasks.getD t bl 14 = a := by
 have e : p.lines[a] = z :: l := by rw [← hz, List.getD_eq_getElem?_getD, List.getElem?_eq_getElem ha]; rfl
 have h1 : blB p a (p.kinds.getD a 0) (p.bits.getD a 0) p.lines[a] = false := h.b6 a ha
 rw [e] at h1
 unfold blB at h1
 rw [Bool.or_eq_false_iff, List.any_cons, Bool.or_eq_false_iff] at h1
 have h2 := h1.2.1
 unfold tB at h2
 rw [Bool.not_eq_false', Bool.and_eq_true, Bool.and_eq_true] at h2
 have h3 := h2.1.1
 have h4 := eq_of_beq h2.1.2
 unfold isB kindAt at h3
 by_cases h0 : 0 ≤ z
 ·rw [if_pos h0] at h3
  obtain ⟨t, rfl⟩ : ∃ t : Nat, z = t := ⟨z.toNat, by omega⟩
  rw [Int.toNat_natCast] at h3
  have h5 := eq_of_beq h3
  obtain ⟨ht, h6⟩ := List.getElem?_eq_some_iff.1 h5
  have hl : t < p.tasks.length := by rw [h.lf.tasks]; exact ht
  unfold atV at h4
  rw [Int.toNat_natCast, List.getElem?_eq_getElem hl] at h4
  refine ⟨t, ht, rfl, h6, ?_⟩
  rw [List.getD_eq_getElem?_getD, List.getElem?_eq_getElem hl]
  exact h4
 ·rw [if_neg h0] at h3
  cases h3
/-- A task that stands somewhere: of which kind that is, how often it stands there, and that it is on no core and in no Ready. -/
theorem stands_at {p : PW} (h : Snd p) {t a : Nat} (ht : t < p.kinds.length) (hk : p.kinds[t] = 6) (hat : p.tasks.getD t bl 14 = a) : isB p a (pl (p.tasks.getD t bl 9)) = true ∧ cna t p.lines = 1 ∧ lvs t p.ready = p.ready ∧ p.cores.map (noT t) = p.cores ∧ pl (p.tasks.getD t bl 9) ≠ 0 := by
 obtain ⟨_, _, _, hs, hr⟩ := snd_task h ht hk
 unfold srB at hs
 rw [hat] at hs
 by_cases h0 : pl (p.tasks.getD t bl 9) = 0
 ·rw [if_pos h0, Bool.and_eq_true] at hs
  have := eq_of_beq hs.1
  omega
 ·rw [if_neg h0, Bool.and_eq_true, Bool.and_eq_true] at hs
  have h1 := eq_of_beq hs.1.2
  have h9 : ¬ p.tasks.getD t bl 9 = 1 := fun e => h0 (by rw [e]; decide)
  unfold rrB at hr
  rw [if_neg h9] at hr
  have h2 := eq_of_beq hr
  exact ⟨hs.1.1, by omega, lvs_self (by omega), noT_self (by omega), h0⟩
theorem isB_at {p : PW} {a : Nat} {k : Int} (ha : a < p.kinds.length) (h : isB p a k = true) : p.kinds[a] = k := by
 unfold isB at h
 rw [kindAt_some ha] at h
 simpa using h
theorem cna_pos {t : Int} {l : List Int} : ∀ {ls : List (List Int)} {a : Nat}, ls[a]? = some (t :: l) → 0 < cna t ls
 | [], a, h => by simp at h
 | x :: r, 0, h => by
  simp only [List.getElem?_cons_zero, Option.some.injEq] at h
  subst h
  have : 0 < cn t (t :: l) := cn_mem (List.mem_cons_self ..)
  unfold cna sumOf
  simp only [List.map_cons, List.sum_cons]
  omega
 | x :: r, a + 1, h => by
  have h1 := cna_pos (ls := r) (a := a) (by simpa using h)
  unfold cna sumOf at h1 ⊢
  simp only [List.map_cons, List.sum_cons]
  omega
/-- Who stands first, and nowhere else, is taken out of all lines. -/
theorem lvs_first {t : Int} {l : List Int} : ∀ {ls : List (List Int)} {a : Nat}, cna t ls = 1 → ls[a]? = some (t :: l) → lvs t ls = ls.set a l
 | [], a, _, h => by simp at h
 | x :: r, 0, h0, h => by
  simp only [List.getElem?_cons_zero, Option.some.injEq] at h
  subst h
  have h1 : cna t r = 0 ∧ cn t l = 0 := by
   unfold cna cn sumOf at h0 ⊢
   simp only [List.map_cons, List.sum_cons] at h0
   have : one t t = 1 := if_pos rfl
   omega
  have h2 : lvs t r = r := lvs_self h1.1
  unfold lvs at h2 ⊢
  rw [List.map_cons, h2, List.set_cons_zero]
  congr 1
  have h3 : goneP (fun y => y == t) l = l := gone_self h1.2
  unfold goneP at h3 ⊢
  rw [List.filter_cons_of_neg (by simp)]
  exact h3
 | x :: r, a + 1, h0, h => by
  have hr : r[a]? = some (t :: l) := by simpa using h
  have h1 := cna_pos hr
  have h2 : cna t r = 1 ∧ cn t x = 0 := by
   unfold cna sumOf at h0 h1 ⊢
   simp only [List.map_cons, List.sum_cons] at h0
   omega
  have h3 := lvs_first h2.1 hr
  unfold lvs at h3 ⊢
  rw [List.map_cons, h3, List.set_cons_succ, gone_self h2.2]
/-- Who is on a core stands nowhere else. -/
theorem core_in {p : PW} (h : Snd p) {t : Nat} (ht : t < p.kinds.length) (hk : p.kinds[t] = 6) (hc : inB t p.cores = true) : lvs t p.lines = p.lines ∧ lvs t p.ready = p.ready ∧ p.tasks.getD t bl 9 = 1 := by
 obtain ⟨_, _, _, hs, hr⟩ := snd_task h ht hk
 unfold inB at hc
 have h0 := of_decide_eq_true hc
 unfold rrB at hr
 by_cases h9 : p.tasks.getD t bl 9 = 1
 ·rw [if_pos h9] at hr
  have h2 := eq_of_beq hr
  unfold srB at hs
  rw [h9, if_pos (by decide), Bool.and_eq_true] at hs
  have h1 := eq_of_beq hs.2
  exact ⟨lvs_self (by omega), lvs_self (by omega), h9⟩
 ·rw [if_neg h9] at hr
  have h2 := eq_of_beq hr
  omega
theorem wk_all (p : PW) (t n : Nat) (ht : t < p.tasks.length) : wkP p t n = wnP { p with lines := lvs t p.lines, ready := lvs t p.ready, cores := p.cores.map (noT t) } t n := by
 unfold wkP wnP lvP PW.task
 simp only
 rw [set_getD _ t _ _ ht, set_getD _ t _ _ ht, List.set_set, List.set_set, upd_comm _ 14 9 _ _ (by decide)]
theorem upd_same (f : Nat → Int) (k : Nat) (x y : Int) : upd (upd f k x) k y = upd f k y := by
 funext j
 unfold upd
 by_cases h : j = k
 ·rw [if_pos h, if_pos h]
 ·rw [if_neg h, if_neg h, if_neg h]
theorem task_same (p : PW) (t k : Nat) (x y : Int) (ht : t < p.tasks.length) : (p.task t k x).task t k y = p.task t k y := by
 unfold PW.task
 simp only
 rw [set_getD _ t _ _ ht, List.set_set, upd_same]
theorem task_comm (p : PW) (t i j : Nat) (x y : Int) (ht : t < p.tasks.length) (h : i ≠ j) : (p.task t i x).task t j y = (p.task t j y).task t i x := by
 unfold PW.task
 simp only
 rw [set_getD _ t _ _ ht, set_getD _ t _ _ ht, List.set_set, List.set_set, upd_comm _ i j _ _ h]
theorem wn14 (p : PW) (t n : Nat) (x : Int) (ht : t < p.tasks.length) : wnP (p.task t 14 x) t n = wnP p t n := by
 unfold wnP
 rw [task_comm p t 14 9 x 1 ht (by decide), task_same _ t 14 x (-1) (by rw [PW.task_len]; exact ht)]
 rfl
/-- Who stood first is handed two numbers and wakes: the program's way. -/
theorem wake_first {p : PW} (h : Snd p) {t a : Nat} {l : List Int} (ha : a < p.lines.length) (hz : p.lines.getD a [] = (t : Int) :: l) (ht : t < p.kinds.length) (hk : p.kinds[t] = 6) (hat : p.tasks.getD t bl 14 = a) (x y : Int) (n : Nat) :
  wkP ((p.task t 1 x).task t 2 y) t n = wnP (((frP p a t l).task t 1 x).task t 2 y) t n := by
 have hl : t < p.tasks.length := by rw [h.lf.tasks]; exact ht
 obtain ⟨_, h1, h2, h3, _⟩ := stands_at h ht hk hat
 have e : p.lines[a]? = some ((t : Int) :: l) := by
  rw [List.getD_eq_getElem?_getD, List.getElem?_eq_getElem ha, Option.getD_some] at hz
  rw [List.getElem?_eq_getElem ha, hz]
 have h4 := lvs_first h1 e
 rw [wk_all _ t n (by rw [PW.task_len, PW.task_len]; exact hl)]
 show wnP { (p.task t 1 x).task t 2 y with lines := lvs t p.lines, ready := lvs t p.ready, cores := p.cores.map (noT t) } t n = _
 rw [h2, h3, h4]
 unfold frP
 have hl2 : t < (({ p with lines := p.lines.set a l } : PW)).tasks.length := hl
 rw [task_comm _ t 14 1 _ _ hl2 (by decide), task_comm _ t 14 2 _ _ (by rw [PW.task_len]; exact hl2) (by decide), wn14 _ t n _ (by rw [PW.task_len, PW.task_len]; exact hl2)]
 rfl
theorem tsk_fits {p : PW} (h : p.Fits) (t k : Nat) (x : Int) : (p.task t k x).Fits := ⟨h.ram, h.kinds, h.slots, by rw [PW.task_len]; exact h.tasks, h.lines, h.line, h.bits, h.cores, h.ready, h.next, h.tlbs, h.doms⟩
set_option maxRecDepth 100000 in
set_option maxHeartbeats 4000000 in
theorem first_nil (wb : Nat) (tag : Nat → Nat) (V : Nat → Value) (p : PW) (a : Nat) (sv : Value) (W : World) (bt : BoxT W wb tag V p) (hp : p.Fits) (ha : a < p.lines.length) (hz : p.lines.getD a [] = []) :
  Calls Tryz.prog 26 #[.pointer (some ⟨wb, 0, none⟩), .int .i64 a, sv] W fun r W' => r = .returned (.int .i64 (-1)) ∧ Below W.heap.size W W' := by
 have hl4 : (p.lines.length : Int) ≤ 1000 := by have := hp.lines; omega
 have ha2 : (a : Int) < (p.lines.length : Int) := by omega
 obtain ⟨gL, eL⟩ := bt.o.lines.form
 have hLR := bt.o.lines
 rw [eL] at hLR
 obtain ⟨u, cu, hu⟩ := hLR.at ha
 unfold ci at hu
 rw [hz] at hu
 have c4 : W.cell? ⟨wb, 4, none⟩ = some (.slice (some ⟨gL, 0, none⟩) p.lines.length p.lines.length) := by rw [range_cell bt.r (k := 4) rfl, eL]
 obtain ⟨q, gu, cap, rfl, -⟩ := hu.shape
 simp only [List.length_nil] at cu
 clear bt hp ha hz eL hLR hu
 go_enter Tryz.func26, Tryz.ntmps26
 go_upto_region 2 with fail
 go_quiet (fail)
 have BS := hid (below_drewN (Below.refl W.heap.size W) nq)
 generalize World.drewN _ _ = W1 at BS ⊢
 go_wp2_with fail
 go_ret
 exact ⟨rfl, BS.out⟩
theorem in_one (x s : Int) : inB x [s] = (s == x) := by
 unfold inB cn sumOf one
 by_cases h : s = x
 ·simp [h]
 ·simp [h]
set_option maxRecDepth 100000 in
set_option maxHeartbeats 4000000 in
theorem first_list (wb : Nat) (tag : Nat → Nat) (V : Nat → Value) (p : PW) (a t : Nat) (l : List Int) (sv : Value) (zs : List Int) (W : World) (bt : BoxT W wb tag V p) (hp : p.Fits) (ha : a < p.lines.length) (hz : p.lines.getD a [] = (t : Int) :: l) (ht : t < p.tasks.length) (hsv : IntsIn W sv zs) (hzs : zs.length ≤ 1000) :
  Calls Tryz.prog 26 #[.pointer (some ⟨wb, 0, none⟩), .int .i64 a, sv] W fun r W' => r = .returned (.int .i64 (if inB (p.tasks.getD t bl 9) zs = true then (t : Int) else -1)) ∧ Below W.heap.size W W' := by
 have hl4 : (p.lines.length : Int) ≤ 1000 := by have := hp.lines; omega
 have ha2 : (a : Int) < (p.lines.length : Int) := by omega
 obtain ⟨gL, eL⟩ := bt.o.lines.form
 have hLR := bt.o.lines
 rw [eL] at hLR
 obtain ⟨u, cu, hu⟩ := hLR.at ha
 unfold ci at hu
 rw [hz] at hu
 have c4 : W.cell? ⟨wb, 4, none⟩ = some (.slice (some ⟨gL, 0, none⟩) p.lines.length p.lines.length) := by rw [range_cell bt.r (k := 4) rfl, eL]
 obtain ⟨gu, cap, rfl⟩ := hu.form (by simp)
 have x0 := hu.int (show 0 < ((t : Int) :: l).length by simp)
 simp only [List.length_cons] at cu
 simp only [List.getElem_cons_zero] at x0
 have hgt : (0 : Int) < ((l.length + 1 : Nat) : Int) := by omega
 have hll : l.length + 1 ≤ 1000 := by
  have h1 := hp.line _ (List.getElem_mem ha)
  have h2 := hz
  rw [List.getD_eq_getElem?_getD, List.getElem?_eq_getElem ha, Option.getD_some] at h2
  rw [h2] at h1
  exact h1
 have hl5 : ((l.length + 1 : Nat) : Int) ≤ 1000 := by omega
 obtain ⟨g3, cap3, e3⟩ := bt.o.tasks.form (by omega)
 have hl3 : (p.tasks.length : Int) ≤ 1000 := by have := hp.tasks; omega
 have ht2 : (t : Int) < (p.tasks.length : Int) := by omega
 have c3 : W.cell? ⟨wb, 3, none⟩ = some (.slice (some ⟨g3, 0, none⟩) p.tasks.length cap3) := by rw [range_cell bt.r (k := 3) rfl, e3]
 have x9 := bt.taskAt e3 ht (show 9 < 20 by omega)
 generalize p.tasks.getD t bl 9 = y at x9 ⊢
 have HCX := hid (fun n => ((contains_any sv zs y (W.drewN n) (hsv.below (below_drew W n)) hzs).mono fun _ _ h => (⟨h.1, h.2.symm⟩ : _ ∧ _)))
 generalize inB y zs = bb at HCX ⊢
 clear bt hp ha hz eL hLR hu e3 ht hsv hll hzs
 cases bb with
 | true =>
  rw [if_pos rfl]
  go_enter Tryz.func26, Tryz.ntmps26
  go_upto_region 2 with fail
  go_quiet (first | (go_at_call 60; refine Calls.quiet_of_same (HCX.out _)))
  have BS := hid (below_drewN (Below.refl W.heap.size W) nq)
  have y0 : (W.drewN nq).cell? ⟨gu, 0, none⟩ = some (.int .i64 t) := x0
  generalize World.drewN _ _ = W1 at BS y0 ⊢
  clear x0 cu c4 c3 x9 HCX
  go_wp2_with fail
  go_ret
  exact ⟨rfl, BS.out⟩
 | false =>
  rw [if_neg (by decide)]
  go_enter Tryz.func26, Tryz.ntmps26
  go_upto_region 2 with fail
  go_quiet (first | (go_at_call 60; refine Calls.quiet_of_same (HCX.out _)))
  have BS := hid (below_drewN (Below.refl W.heap.size W) nq)
  generalize World.drewN _ _ = W1 at BS ⊢
  clear x0 cu c4 c3 x9 HCX
  go_wp2_with fail
  go_ret
  exact ⟨rfl, BS.out⟩
theorem first_cons (wb : Nat) (tag : Nat → Nat) (V : Nat → Value) (p : PW) (a t : Nat) (l : List Int) (sv : Value) (s : Int) (W : World) (bt : BoxT W wb tag V p) (hp : p.Fits) (ha : a < p.lines.length) (hz : p.lines.getD a [] = (t : Int) :: l) (ht : t < p.tasks.length) (hsv : IntsIn W sv [s]) :
  Calls Tryz.prog 26 #[.pointer (some ⟨wb, 0, none⟩), .int .i64 a, sv] W fun r W' => r = .returned (.int .i64 (if p.tasks.getD t bl 9 = s then (t : Int) else -1)) ∧ Below W.heap.size W W' := by
 have h := first_list wb tag V p a t l sv [s] W bt hp ha hz ht hsv (by simp)
 rw [in_one] at h
 have e : (if (s == p.tasks.getD t bl 9) = true then (t : Int) else -1) = if p.tasks.getD t bl 9 = s then (t : Int) else -1 := by
  by_cases hy : p.tasks.getD t bl 9 = s
  ·rw [if_pos hy, if_pos (by rw [hy]; exact beq_self_eq_true s)]
  ·rw [if_neg hy, if_neg (by simpa using fun e => hy e.symm)]
 rw [e] at h
 exact h
end Go.Proofs.YtakmaeohhclngaaGreatDoor.Wd
namespace Go.Proofs.YtakmaeohhclngaaGreatDoor.Wd
open Go.RowKit Go.Proofs.YtakmaeohhclngaaGreatDoor.Mem Go.Proofs.YtakmaeohhclngaaGreatDoor.Bw Go.Proofs.YtakmaeohhclngaaGreatDoor.Nums Go.Proofs.YtakmaeohhclngaaGreatDoor.Mmu
theorem pl_cases (s : Int) : pl s = 0 ∨ (pl s = 7 ∧ (s = 2 ∨ s = 3 ∨ s = 4)) ∨ (pl s = 8 ∧ s = 6) := by
 unfold pl
 by_cases h : s = 2 ∨ s = 3 ∨ s = 4
 ·exact .inr (.inl ⟨if_pos h, h⟩)
 ·rw [if_neg h]
  by_cases h6 : s = 6
  ·exact .inr (.inr ⟨if_pos h6, h6⟩)
  ·exact .inl (if_neg h6)
/-- Who is on a core comes to a line's end: the program's way. -/
theorem stand_eq {p : PW} (h : Snd p) {t a : Nat} (ht : t < p.kinds.length) (hk : p.kinds[t] = 6) (hc : inB t p.cores = true) (s : Int) : sdP p t a s = ssP p t a s := by
 have hl : t < p.tasks.length := by rw [h.lf.tasks]; exact ht
 obtain ⟨h4, h7, _⟩ := core_in h ht hk hc
 unfold sdP ssP
 rw [h4]
 have e : ((lvP p t).task t 9 s).task t 14 a = (({ p with cores := p.cores.map (noT t) } : PW).task t 9 s).task t 14 a := by
  unfold lvP
  rw [h4, h7]
  show ((({ p with cores := p.cores.map (noT t) } : PW).task t 14 (-1)).task t 9 s).task t 14 a = _
  have hl2 : t < (({ p with cores := p.cores.map (noT t) } : PW)).tasks.length := hl
  rw [task_comm _ t 14 9 _ _ hl2 (by decide), task_same _ t 14 _ _ (by rw [PW.task_len]; exact hl2)]
 rw [e]
/-- Ringing. -/
def rgE (p : PW) (b g : Int) : Int := if thE p b 8 = 0 then (if wB g then 0 else 1) else thE p b 8
def rgP (p : PW) (b g : Int) : PW := match p.lines.getD b.toNat [] with
 | [] => { p with bits := p.bits.set b.toNat (bits .or .i64 (p.bits.getD b.toNat 0) g) }
 | z :: l => wnP (((frP p b.toNat z.toNat l).task z.toNat 1 0).task z.toNat 2 g) z.toNat (rdN p z.toNat)
/-- Hearing. -/
def hbP (p : PW) (t b : Int) : PW := if p.bits.getD b.toNat 0 = 0 then ssP p t.toNat b.toNat 6 else { (p.task t.toNat 1 0).task t.toNat 2 (p.bits.getD b.toNat 0) with bits := p.bits.set b.toNat 0 }
/-- Who stands at a bell listens. -/
theorem bell_first {p : PW} (h : Snd p) {a t : Nat} (ha : a < p.kinds.length) (hka : p.kinds[a] = 8) (ht : t < p.kinds.length) (hk : p.kinds[t] = 6) (hat : p.tasks.getD t bl 14 = a) : p.tasks.getD t bl 9 = 6 := by
 obtain ⟨h1, _, _, _, h2⟩ := stands_at h ht hk hat
 have h3 := isB_at ha h1
 rw [hka] at h3
 rcases pl_cases (p.tasks.getD t bl 9) with h4 | ⟨h4, _⟩ | ⟨_, h4⟩
 ·exact absurd h4 h2
 ·omega
 ·exact h4
theorem BoxT.bitsAt {W : World} {wb : Nat} {tag : Nat → Nat} {V : Nat → Value} {p : PW} (h : BoxT W wb tag V p) {g cap : Nat} (e : V 5 = .slice (some ⟨g, 0, none⟩) p.bits.length cap) {i : Nat} (hi : i < p.bits.length) : W.cell? ⟨g, i, none⟩ = some (.int .i64 (p.bits.getD i 0)) ∧ W.frozen? ⟨g, i, none⟩ = false := by
 have h2 := h.o.bits
 rw [e] at h2
 refine ⟨(h2.int hi).trans ?_, h2.frozen i⟩
 rw [List.getD_eq_getElem?_getD, List.getElem?_eq_getElem hi]
 rfl
set_option maxRecDepth 100000 in
set_option maxHeartbeats 4000000 in
theorem ring_deed (c1 c2 : Nat) (b g : Int) (p : PW) (hp : p.Fits) (hl : ∀ l ∈ p.tlbs, l.length ≤ 100) (hs : Snd p) : DeedT 39 #[ptr c1, ptr c2] (CapsT [(c1, .int .i64 b), (c2, .int .i64 g)]) eV p (rgP p b g) (rgE p b g) := by
 intro W wb tag V bt hc
 have x1 := (hc (c1, .int .i64 b) (by simp)).1
 have x2 := (hc (c2, .int .i64 g) (by simp)).1
 have HC := hid hc
 have HT := hid (thing_any wb V p b 8 W (bt.view hp hl))
 have HWD := hid (isWord_any g W)
 unfold ptr
 simp only [List.append_toArray, List.cons_append, List.nil_append]
 by_cases h0 : thE p b 8 = 0
 rotate_left
 ·have HE := hid (show rgE p b g = thE p b 8 from if_neg h0)
  rw [eV_n h0] at HT
  have HN := hid h0
  rw [HE.out, eV_n h0]
  generalize thE p b 8 = x at HT HN ⊢
  clear h0 HE bt hp hl hs hc HWD
  go_enter Tryz.func39, Tryz.ntmps39
  go_wp2_with fail
  refine HT.out.mono ?_
  rintro q w1 ⟨rfl, rfl⟩
  go_wp2_with fail
  go_ret
  exact ⟨rfl, tag, Kt.refl _ _, fun h => absurd h HN.out⟩
 have HE0 := hid (show rgE p b g = if wB g then 0 else 1 from if_pos h0)
 rw [h0, eV_0] at HT
 obtain ⟨a, ha, rfl, hka⟩ := thE_in h0
 clear h0
 cases hg : wB g with
 | false =>
  rw [hg, if_neg (by decide)] at HE0
  rw [hg] at HWD
  rw [HE0.out]
  clear bt hp hl hs hc hka hg
  go_enter Tryz.func39, Tryz.ntmps39
  go_wp2_with fail
  refine HT.out.mono ?_
  rintro q w1 ⟨rfl, rfl⟩
  go_wp2_with fail
  refine HWD.out.mono ?_
  rintro q w1 ⟨rfl, rfl⟩
  go_wp2_with fail
  go_ret
  exact ⟨rfl, tag, Kt.refl _ _, fun h => by cases h⟩
 | true =>
 rw [hg, if_pos rfl] at HE0
 rw [hg] at HWD
 rw [HE0.out, eV_0]
 have hal : a < p.lines.length := by rw [hs.lf.lines]; exact ha
 have hab : a < p.bits.length := by rw [hs.lf.bits]; exact ha
 have BN := hid (bal (Below.refl W.heap.size W) (.cells #[.int .i64 6] 3))
 have CN := hid (show IntsIn (W.alloc (.cells #[.int .i64 6] 3)) (.slice (some ⟨W.heap.size, 0, none⟩) 1 1) [6] from ⟨some ⟨W.heap.size, 0, none⟩, W.heap.size, 0, 1, rfl, fun _ => rfl, fun j hj => by
  obtain rfl : j = 0 := by simp at hj; omega
  exact cells_new W #[.int .i64 6] 3 0⟩)
 obtain ⟨zs, hz⟩ : ∃ zs, p.lines.getD a [] = zs := ⟨_, rfl⟩
 cases zs with
 | nil =>
  have hl5 : (p.bits.length : Int) ≤ 1000 := by have := hp.bits; omega
  have hb2 : (a : Int) < (p.bits.length : Int) := by omega
  obtain ⟨g5, cap5, e5⟩ := bt.o.bits.form (by omega)
  have E5 := hid e5
  have HBL := hid hab
  obtain ⟨y, hy0⟩ : ∃ y, p.bits.getD a 0 = y := ⟨_, rfl⟩
  have HY := hid hy0
  have HRR := hid (show rgP p a g = { p with bits := p.bits.set a (bits .or .i64 y g) } by unfold rgP; rw [Int.toNat_natCast, hz, hy0])
  have HF := hid (first_nil wb tag V p a (.slice (some ⟨W.heap.size, 0, none⟩) 1 1) _ (bt.below BN.out) hp hal hz)
  have HBB := hid bt
  clear bt hp hl hs hc hka hg hal hab hz hy0 e5 CN
  go_enter Tryz.func39, Tryz.ntmps39
  go_wp2_with fail
  refine HT.out.mono ?_
  rintro q w1 ⟨rfl, rfl⟩
  go_wp2_with fail
  refine HWD.out.mono ?_
  rintro q w1 ⟨rfl, rfl⟩
  go_wp2_with fail
  refine HF.out.mono ?_
  rintro q Y ⟨rfl, hb⟩
  have BY := hid (HBB.out.below (btr BN.out hb))
  have KY := hid (show Kt tag tag W Y from .below (btr BN.out hb))
  have z1 := (HC.out.kt KY.out (c1, .int .i64 a) (by simp)).1
  clear hb HF BN HBB x1 x2
  go_wp2_with fail
  have BD : Hid (Below Y.heap.size Y Y.drew) := hid (below_drew Y 1)
  have KS := hid (fun X (h : Below Y.heap.size Y X) => show X.cell? ⟨wb, 5, none⟩ = some (.slice (some ⟨g5, 0, none⟩) p.bits.length cap5) ∧ X.cell? ⟨c1, 0, none⟩ = some (.int .i64 a) ∧ X.cell? ⟨c2, 0, none⟩ = some (.int .i64 g) from ⟨by rw [range_cell (BY.out.below h).r (k := 5) rfl, E5.out], (HC.out.kt (KY.out.trans (.below h)) (c1, .int .i64 a) (by simp)).1, (HC.out.kt (KY.out.trans (.below h)) (c2, .int .i64 g) (by simp)).1⟩)
  have KR := hid (fun X (h : Below Y.heap.size Y X) => show X.cell? ⟨g5, a, none⟩ = some (.int .i64 y) by rw [← HY.out]; exact ((BY.out.below h).bitsAt E5.out HBL.out).1)
  refine wp_region_F (S := fun X => X.cell? ⟨wb, 5, none⟩ = some (.slice (some ⟨g5, 0, none⟩) p.bits.length cap5) ∧ X.cell? ⟨c1, 0, none⟩ = some (.int .i64 a) ∧ X.cell? ⟨c2, 0, none⟩ = some (.int .i64 g)) (R := fun X => X.cell? ⟨g5, a, none⟩ = some (.int .i64 y)) [10] (by kernel_rfl) (KS.out _ BD.out) (KR.out _ BD.out) (fun hS0 hR0 => ?_)
  have hS := hid hS0
  have hR := hid hR0
  clear hS0 hR0
  refine wpAnyF_take (i := 0) (v := .pointer (some ⟨wb, 0, none⟩)) rfl (by kernel_rfl) (by kernel_rfl) (by kernel_rfl) (by kernel_rfl) (fun _ _ _ h => h) (Or.inl ⟨by rfl, fun W h => by clear h; go_simp⟩) hS.out (fun _ => hR.out) ?_
  simp only [jj]
  refine wpAnyF_take (i := 1) (v := .pointer (some ⟨wb, 0, none⟩)) rfl (by kernel_rfl) (by kernel_rfl) (by kernel_rfl) (by kernel_rfl) (fun _ _ _ h => h) (Or.inl ⟨by rfl, fun W h => by clear h; go_simp⟩) hS.out (fun _ => hR.out) ?_
  simp only [jj]
  refine wpAnyF_take (i := 2) (v := .pointer (some ⟨wb, 5, none⟩)) rfl (by kernel_rfl) (by kernel_rfl) (by kernel_rfl) (by kernel_rfl) (fun _ _ _ h => h) (Or.inl ⟨by rfl, fun W h => by clear h; go_simp⟩) hS.out (fun _ => hR.out) ?_
  simp only [jj]
  refine wpAnyF_take (i := 3) (v := .slice (some ⟨g5, 0, none⟩) p.bits.length cap5) rfl (by kernel_rfl) (by kernel_rfl) (by kernel_rfl) (by kernel_rfl) (fun _ _ _ h => h) (Or.inl ⟨by rfl, fun W h => by have h3 := h.1; clear h; go_simp⟩) hS.out (fun _ => hR.out) ?_
  simp only [jj]
  refine wpAnyF_take (i := 4) (v := .int .i64 a) rfl (by kernel_rfl) (by kernel_rfl) (by kernel_rfl) (by kernel_rfl) (fun _ _ _ h => h) (Or.inl ⟨by rfl, fun W h => by have h3 := h.2.1; clear h; go_simp⟩) hS.out (fun _ => hR.out) ?_
  simp only [jj]
  refine wpAnyF_take (i := 5) (v := .pointer (some ⟨g5, a, none⟩)) rfl (by kernel_rfl) (by kernel_rfl) (by kernel_rfl) (by kernel_rfl) (fun _ _ _ h => h) (Or.inl ⟨by rfl, fun W h => by clear h; go_simp⟩) hS.out (fun _ => hR.out) ?_
  simp only [jj]
  refine wpAnyF_takeR (i := 6) (v := .int .i64 y) rfl (by kernel_rfl) (by kernel_rfl) (by kernel_rfl) (by kernel_rfl) (by kernel_rfl) (by kernel_rfl) (fun _ _ _ h => h) (Or.inl ⟨by rfl, fun W h => by have h3 := h.2; clear h; go_simp⟩) hS.out (fun _ => hR.out) ?_
  simp only [jj]
  refine wpAnyF_take (i := 7) (v := .int .i64 g) rfl (by kernel_rfl) (by kernel_rfl) (by kernel_rfl) (by kernel_rfl) (fun _ _ _ h => h) (Or.inl ⟨by rfl, fun W h => by have h3 := h.2.2; clear h; go_simp⟩) hS.out (fun _ => hR.out) ?_
  simp only [jj]
  refine wpAnyF_take (i := 8) (v := .int .i64 (bits .or .i64 y g)) rfl (by kernel_rfl) (by kernel_rfl) (by kernel_rfl) (by kernel_rfl) (fun _ _ _ h => h) (Or.inl ⟨by rfl, fun W h => by clear h; go_simp⟩) hS.out (fun _ => hR.out) ?_
  simp only [jj]
  refine wpAnyF_take (i := 9) (v := .pointer (some ⟨g5, a, none⟩)) rfl (by kernel_rfl) (by kernel_rfl) (by kernel_rfl) (by kernel_rfl) (fun _ _ _ h => h) (Or.inl ⟨by rfl, fun W h => by clear h; go_simp⟩) hS.out (fun _ => hR.out) ?_
  simp only [jj]
  obtain ⟨y5, f5⟩ := (BY.out.below BD.out).bitsAt E5.out HBL.out
  rw [HY.out] at y5
  obtain ⟨b6, k6⟩ := (BY.out.below BD.out).bitsCell E5.out a (bits .or .i64 y g)
  have B6 := hid (show BoxT (Y.setCell ⟨g5, a, none⟩ (.int .i64 (bits .or .i64 y g))).drew wb tag V { p with bits := p.bits.set a (bits .or .i64 y g) } from b6)
  have K6 := hid (show Kt tag tag W (Y.setCell ⟨g5, a, none⟩ (.int .i64 (bits .or .i64 y g))).drew from (KY.out.trans (.below BD.out)).trans k6)
  have S6 := hid (show (Y.setCell ⟨g5, a, none⟩ (.int .i64 (bits .or .i64 y g))).drew.cell? ⟨wb, 5, none⟩ = some (.slice (some ⟨g5, 0, none⟩) p.bits.length cap5) ∧ (Y.setCell ⟨g5, a, none⟩ (.int .i64 (bits .or .i64 y g))).drew.cell? ⟨c1, 0, none⟩ = some (.int .i64 a) ∧ (Y.setCell ⟨g5, a, none⟩ (.int .i64 (bits .or .i64 y g))).drew.cell? ⟨c2, 0, none⟩ = some (.int .i64 g) from ⟨by rw [range_cell B6.out.r (k := 5) rfl, E5.out], (HC.out.kt K6.out (c1, .int .i64 a) (by simp)).1, (HC.out.kt K6.out (c2, .int .i64 g) (by simp)).1⟩)
  clear b6 k6
  refine wpAnyF_ready (rs := [10]) (by kernel_rfl) (by simp) (AllReadyF.cons rfl (fun K hK => ?_) AllReadyF.nil)
  go_simp
  refine hK.out _ _ S6.out (notClean (by kernel_rfl)) (fun _ _ => ?_)
  clear hK K
  try simp only [Act.put]
  refine wpAnyF_done (by kernel_rfl) ?_ _
  generalize World.drew (World.setCell _ _ _) = W6 at *
  clear KS KR BD S6 y5 f5 hS hR z1
  go_wp2_with fail
  go_ret
  exact ⟨rfl, tag, K6.out, fun _ => ⟨V, by rw [HRR.out]; exact B6.out⟩⟩
 | cons z l =>
  obtain ⟨t, ht, rfl, hk, hat⟩ := line_first hs hal hz
  have h9 := bell_first hs ha hka ht hk hat
  have htl : t < p.tasks.length := by rw [hs.lf.tasks]; exact ht
  have HF := hid (first_cons wb tag V p a t l (.slice (some ⟨W.heap.size, 0, none⟩) 1 1) 6 _ (bt.below BN.out) hp hal hz htl CN.out)
  rw [h9, if_pos rfl] at HF
  obtain ⟨r1, r2, r3, r4⟩ := rdN_eq hs ht hk
  have HRR := hid (show rgP p a g = wkP ((p.task t 1 0).task t 2 g) t (rdN p t) by
   rw [wake_first hs hal hz ht hk hat 0 g (rdN p t)]
   unfold rgP
   rw [Int.toNat_natCast, hz]
   simp only [Int.toNat_natCast])
  have HH := hid (fun X (h : BoxT X wb tag V p) => handM_any wb tag V p t 0 g X h hp htl)
  have e18 : ((p.task t 1 0).task t 2 g).tasks.getD t bl 18 = p.tasks.getD t bl 18 := by rw [task_at _ t 2 18 _ (by rw [PW.task_len]; exact htl) (by decide), task_at _ t 1 18 _ htl (by decide)]
  have e10 : ((p.task t 1 0).task t 2 g).tasks.getD t bl 10 = p.tasks.getD t bl 10 := by rw [task_at _ t 2 10 _ (by rw [PW.task_len]; exact htl) (by decide), task_at _ t 1 10 _ htl (by decide)]
  have HW := hid (fun X (h : BoxT X wb tag V ((p.task t 1 0).task t 2 g)) => wake_any wb tag V ((p.task t 1 0).task t 2 g) t (rdN p t) X h (tsk_fits (tsk_fits hp t 1 0) t 2 g) (by rw [PW.task_len, PW.task_len]; exact htl) r1 (by rw [e18]; exact r3) (by rw [e10]; exact r4) (by rw [e18, e10]; exact r2))
  have HBB := hid bt
  have ht0 : ¬ ((t : Int) = -1) := by omega
  have ht1 : ((t : Int) == -1) = false := by simp
  clear bt hp hl hs hc hka hg hal hab hz hk hat h9 htl r1 r2 r3 r4 e18 e10 CN
  go_enter Tryz.func39, Tryz.ntmps39
  go_wp2_with fail
  refine HT.out.mono ?_
  rintro q w1 ⟨rfl, rfl⟩
  go_wp2_with fail
  refine HWD.out.mono ?_
  rintro q w1 ⟨rfl, rfl⟩
  go_wp2_with fail
  refine HF.out.mono ?_
  rintro q Y ⟨rfl, hb⟩
  have BY := hid (HBB.out.below (btr BN.out hb))
  have KY := hid (show Kt tag tag W Y from .below (btr BN.out hb))
  have z2 := (HC.out.kt KY.out (c2, .int .i64 g) (by simp)).1
  clear hb HF BN HBB x1 x2
  go_wp2_with fail
  refine (HH.out _ BY.out).mono ?_
  rintro q w2 ⟨rfl, h1, h2⟩
  have B2 := hid h1
  have K2 := hid (KY.out.trans h2)
  clear h1 h2 HH z2
  go_wp2_with fail
  refine (HW.out _ B2.out).mono ?_
  rintro q w3 ⟨rfl, tg3, h1, h2⟩
  have B3 := hid h1
  have K3 := hid (K2.out.trans h2)
  clear h1 h2 HW
  go_wp2_with fail
  go_ret
  exact ⟨rfl, tg3, K3.out, fun _ => ⟨V, by rw [HRR.out]; exact B3.out⟩⟩
end Go.Proofs.YtakmaeohhclngaaGreatDoor.Wd
