/- Taking a word at a door, and answering: plain; what mail.Take and mail.Answer do, and what the document asks of them; keyholdlaw.MailTakes; walked. (Written by mk_take.py, mk_tklaw.py.) -/
import Derived.Deep.RegionHeld3
import Derived.BigQuiet
import Derived.Test.YtakmaeohhclngaaGreatDoorRbg
import Derived.Test.YtakmaeohhclngaaGreatDoorRbh
import Derived.Test.YtakmaeohhclngaaGreatDoorRbm
import Derived.Test.YtakmaeohhclngaaGreatDoorRau
namespace Go.Proofs.YtakmaeohhclngaaGreatDoor.Wd
open Go.RowKit Go.Proofs.YtakmaeohhclngaaGreatDoor.Mem Go.Proofs.YtakmaeohhclngaaGreatDoor.Bw Go.Proofs.YtakmaeohhclngaaGreatDoor.Nums Go.Proofs.YtakmaeohhclngaaGreatDoor.Mmu
theorem task_els2 (p : PW) (t u i j : Nat) (x y : Int) (h : t ≠ u) : (p.task t i x).task u j y = (p.task u j y).task t i x := by
 have e1 := task_els p u t i x h
 have e2 := task_els p t u j y (Ne.symm h)
 show ({ p with tasks := (p.task t i x).tasks.set u (upd ((p.task t i x).tasks.getD u bl) j y) } : PW) = { p with tasks := (p.task u j y).tasks.set t (upd ((p.task u j y).tasks.getD t bl) i x) }
 rw [e1, e2]
 unfold PW.task
 simp only
 rw [List.set_comm _ _ h]
theorem pl_door {s : Int} (h : pl s = 7) : s = 2 ∨ s = 3 ∨ s = 4 := by
 unfold pl at h
 by_cases h1 : s = 2 ∨ s = 3 ∨ s = 4
 ·exact h1
 ·rw [if_neg h1] at h
  by_cases h2 : s = 6
  ·rw [if_pos h2] at h; omega
  ·rw [if_neg h2] at h; omega
theorem in_two (x : Int) : inB x [2, 3] = (decide (x = 2) || decide (x = 3)) := by
 unfold inB cn sumOf one
 by_cases h : x = 2
 ·simp [h]
 ·by_cases h3 : x = 3
  ·simp [h3]
  ·simp [h, h3, Ne.symm h, Ne.symm h3]
/-- Who stands first at a door with a word. -/
def fkV (p : PW) (d : Nat) : Int := match p.lines.getD d [] with
 | [] => -1
 | z :: _ => if p.tasks.getD z.toNat bl 9 = 4 then -1 else z
theorem fk_at {p : PW} {d u : Nat} {l : List Int} (hz : p.lines.getD d [] = (u : Int) :: l) : fkV p d = if p.tasks.getD u bl 9 = 4 then -1 else (u : Int) := by
 unfold fkV
 rw [hz]
 rfl
theorem door_state {p : PW} (h : Snd p) {d u : Nat} (hd : d < p.kinds.length) (hkd : p.kinds[d] = 7) (hu : u < p.kinds.length) (hk : p.kinds[u] = 6) (hat : p.tasks.getD u bl 14 = d) : p.tasks.getD u bl 9 = 2 ∨ p.tasks.getD u bl 9 = 3 ∨ p.tasks.getD u bl 9 = 4 := by
 obtain ⟨h1, _⟩ := stands_at h hu hk hat
 have h2 := isB_at hd h1
 exact pl_door (by rw [← h2]; exact hkd)
theorem fk_cases {p : PW} (h : Snd p) {d : Nat} (hd : d < p.kinds.length) (hkd : p.kinds[d] = 7) : (fkV p d = -1) ∨ (∃ (u : Nat) (l : List Int) (hu : u < p.kinds.length), fkV p d = u ∧ p.lines.getD d [] = (u : Int) :: l ∧ p.kinds[u] = 6 ∧ p.tasks.getD u bl 14 = d ∧ (p.tasks.getD u bl 9 = 2 ∨ p.tasks.getD u bl 9 = 3)) := by
 cases hz : p.lines.getD d [] with
 | nil => left; unfold fkV; rw [hz]
 | cons z l =>
  obtain ⟨u, hu, rfl, hk, hat⟩ := line_first h (by rw [h.lf.lines]; exact hd) hz
  have e := fk_at hz
  by_cases h4 : p.tasks.getD u bl 9 = 4
  ·left; rw [e, if_pos h4]
  ·right
   rw [if_neg h4] at e
   rcases door_state h hd hkd hu hk hat with h5 | h5 | h5
   ·exact ⟨u, l, hu, e, rfl, hk, hat, .inl h5⟩
   ·exact ⟨u, l, hu, e, rfl, hk, hat, .inr h5⟩
   ·exact absurd h5 h4
/-- A word is taken from u, who stood first at d: what both ways have then. -/
def tkQ (p : PW) (d t u : Nat) (l : List Int) : PW := ((((({ p with lines := p.lines.set d l } : PW).task t 1 (p.tasks.getD u bl 16)).task t 2 (p.tasks.getD u bl 15)).task u 16 0).task u 15 0).task u 14 (-1)
/-- The same, before the program's one leaves where it stood. -/
def tkU (p : PW) (t u : Nat) : PW := (((p.task t 1 (p.tasks.getD u bl 16)).task t 2 (p.tasks.getD u bl 15)).task u 16 0).task u 15 0
theorem tkU_len (p : PW) (t u : Nat) : (tkU p t u).tasks.length = p.tasks.length := by
 unfold tkU
 rw [PW.task_len, PW.task_len, PW.task_len, PW.task_len]
theorem tkU_at (p : PW) (t u k : Nat) (hne : t ≠ u) (hu : u < p.tasks.length) (h1 : k ≠ 15) (h2 : k ≠ 16) : (tkU p t u).tasks.getD u bl k = p.tasks.getD u bl k := by
 unfold tkU
 rw [task_at _ u 15 k _ (by rw [PW.task_len, PW.task_len, PW.task_len]; exact hu) h1, task_at _ u 16 k _ (by rw [PW.task_len, PW.task_len]; exact hu) h2, task_els _ u t 2 _ hne, task_els _ u t 1 _ hne]
theorem tk_leave {p : PW} (h : Snd p) {d t u : Nat} {l : List Int} (hd : d < p.lines.length) (hz : p.lines.getD d [] = (u : Int) :: l) (hu : u < p.kinds.length) (hk : p.kinds[u] = 6) (hat : p.tasks.getD u bl 14 = d) : lvP (tkU p t u) u = tkQ p d t u l ∧ (∀ n, wkP (tkU p t u) u n = wnP (tkQ p d t u l) u n) := by
 have hl : u < p.tasks.length := by rw [h.lf.tasks]; exact hu
 obtain ⟨_, h1, h2, h3, _⟩ := stands_at h hu hk hat
 have e : p.lines[d]? = some ((u : Int) :: l) := by
  rw [List.getD_eq_getElem?_getD, List.getElem?_eq_getElem hd, Option.getD_some] at hz
  rw [List.getElem?_eq_getElem hd, hz]
 have h4 := lvs_first h1 e
 refine ⟨?_, fun n => ?_⟩
 ·show ({ (tkU p t u).task u 14 (-1) with lines := lvs u p.lines, ready := lvs u p.ready, cores := p.cores.map (noT u) } : PW) = _
  rw [h2, h3, h4]
  rfl
 ·rw [wk_all _ u n (by rw [tkU_len]; exact hl)]
  show wnP { tkU p t u with lines := lvs u p.lines, ready := lvs u p.ready, cores := p.cores.map (noT u) } u n = _
  rw [h2, h3, h4]
  exact (wn14 ({ tkU p t u with lines := p.lines.set d l } : PW) u n (-1) (by rw [show ({ tkU p t u with lines := p.lines.set d l } : PW).tasks.length = (tkU p t u).tasks.length from rfl, tkU_len]; exact hl)).symm
/-- Taking. -/
def tkP (p : PW) (t0 d0 : Int) : PW := if fkV p d0.toNat = -1 then ssP p t0.toNat d0.toNat 4
 else (if p.tasks.getD (fkV p d0.toNat).toNat bl 9 = 3 then ((tkQ p d0.toNat t0.toNat (fkV p d0.toNat).toNat (p.lines.getD d0.toNat []).tail).task (fkV p d0.toNat).toNat 9 5).task t0.toNat 17 (fkV p d0.toNat) else wnP (tkQ p d0.toNat t0.toNat (fkV p d0.toNat).toNat (p.lines.getD d0.toNat []).tail) (fkV p d0.toNat).toNat (rdN p (fkV p d0.toNat).toNat))
def tkE (p : PW) (t0 d0 : Int) : Int := if mtE p t0 d0 7 = 0 then (if p.tasks.getD t0.toNat bl 17 = -1 then 0 else 7) else mtE p t0 d0 7
theorem tkP_no {p : PW} {t d : Nat} (h : fkV p d = -1) : tkP p t d = ssP p t d 4 := by
 unfold tkP
 rw [Int.toNat_natCast, Int.toNat_natCast, if_pos h]
theorem tkP_yes {p : PW} {t d u : Nat} {l : List Int} (h : fkV p d = u) (hz : p.lines.getD d [] = (u : Int) :: l) : tkP p t d = if p.tasks.getD u bl 9 = 3 then ((tkQ p d t u l).task u 9 5).task t 17 u else wnP (tkQ p d t u l) u (rdN p u) := by
 unfold tkP
 rw [Int.toNat_natCast, Int.toNat_natCast, h, if_neg (by omega), Int.toNat_natCast, hz]
 rfl
theorem tkU_fits {p : PW} (h : p.Fits) (t u : Nat) : (tkU p t u).Fits := tsk_fits (tsk_fits (tsk_fits (tsk_fits h t 1 _) t 2 _) u 16 0) u 15 0
theorem tk_tlbs (p : PW) (t0 d0 : Int) : (tkP p t0 d0).tlbs = p.tlbs := by
 unfold tkP
 split
 ·rfl
 ·split <;> rfl
/-- Answering. -/
def anP (p : PW) (t0 v : Int) : PW := wnP (((p.task t0.toNat 17 (-1)).task (p.tasks.getD t0.toNat bl 17).toNat 1 0).task (p.tasks.getD t0.toNat bl 17).toNat 2 v) (p.tasks.getD t0.toNat bl 17).toNat (rdN p (p.tasks.getD t0.toNat bl 17).toNat)
def anE (p : PW) (t0 v : Int) : Int := if mtE p t0 t0 6 = 0 then (if wB v = true then (if p.tasks.getD t0.toNat bl 17 = -1 then 6 else 0) else 1) else mtE p t0 t0 6
theorem mt_self (p : PW) (t : Int) : mtE p t t 6 = if thE p t 6 = 0 then (if inB t p.cores = true then 0 else 7) else thE p t 6 := by
 unfold mtE thE
 cases frB p t <;> cases isB p t 6 <;> simp
theorem anP_at {p : PW} {t u : Nat} (v : Int) (h : p.tasks.getD t bl 17 = u) : anP p t v = wnP (((p.task t 17 (-1)).task u 1 0).task u 2 v) u (rdN p u) := by
 unfold anP
 rw [Int.toNat_natCast, h, Int.toNat_natCast]
theorem an_tlbs (p : PW) (t0 v : Int) : (anP p t0 v).tlbs = p.tlbs := rfl
/-- Who owes, owes a task that asks: it stands nowhere. -/
theorem owed_in {p : PW} (h : Snd p) {t : Nat} (ht : t < p.kinds.length) (hk : p.kinds[t] = 6) (h0 : p.tasks.getD t bl 17 ≠ -1) : ∃ (u : Nat) (hu : u < p.kinds.length), p.tasks.getD t bl 17 = u ∧ p.kinds[u] = 6 ∧ p.tasks.getD u bl 9 = 5 ∧ lvs u p.lines = p.lines ∧ lvs u p.ready = p.ready ∧ p.cores.map (noT u) = p.cores := by
 obtain ⟨_, hf, hd, _, _⟩ := snd_task h ht hk
 unfold ffB at hf
 rw [Bool.and_eq_true] at hf
 have h1 := hf.2
 unfold isOrB at h1
 have h2 : (p.tasks.getD t bl 17 == -1) = false := by simpa using h0
 rw [h2, Bool.false_or] at h1
 generalize e : p.tasks.getD t bl 17 = z at *
 obtain ⟨u, hu, rfl, hku⟩ : ∃ (u : Nat) (hu : u < p.kinds.length), z = u ∧ p.kinds[u] = 6 := by
  unfold isB kindAt at h1
  by_cases hz : 0 ≤ z
  ·rw [if_pos hz] at h1
   obtain ⟨u, rfl⟩ : ∃ u : Nat, z = u := ⟨z.toNat, by omega⟩
   rw [Int.toNat_natCast] at h1
   obtain ⟨hu, h6⟩ := List.getElem?_eq_some_iff.1 (eq_of_beq h1)
   exact ⟨u, hu, rfl, h6⟩
  ·rw [if_neg hz] at h1
   cases h1
 unfold dbB at hd
 rw [Bool.and_eq_true] at hd
 have h3 := hd.1
 unfold owB at h3
 rw [e, h2, Bool.false_or, Bool.and_eq_true] at h3
 have hul : u < p.tasks.length := by rw [h.lf.tasks]; exact hu
 have h4 := eq_of_beq h3.1
 rw [stV_at hul] at h4
 have h5 : p.tasks.getD u bl 9 = 5 := by rw [List.getD_eq_getElem?_getD, List.getElem?_eq_getElem hul]; exact h4
 obtain ⟨_, _, _, hs, hr⟩ := snd_task h hu hku
 unfold srB at hs
 rw [h5, if_pos (by decide), Bool.and_eq_true] at hs
 unfold rrB at hr
 rw [h5, if_neg (by decide)] at hr
 have h6 := eq_of_beq hs.2
 have h7 := eq_of_beq hr
 exact ⟨u, hu, rfl, hku, h5, lvs_self (by omega), lvs_self (by omega), noT_self (by omega)⟩
theorem an_eq {p : PW} {t u : Nat} (v : Int) (hne : t ≠ u) (hu : u < p.tasks.length) (h4 : lvs u p.lines = p.lines) (h7 : lvs u p.ready = p.ready) (h6 : p.cores.map (noT u) = p.cores) (n : Nat) :
  (wkP ((p.task u 1 0).task u 2 v) u n).task t 17 (-1) = wnP (((p.task t 17 (-1)).task u 1 0).task u 2 v) u n := by
 rw [wk_all _ u n (by rw [PW.task_len, PW.task_len]; exact hu)]
 show (wnP { (p.task u 1 0).task u 2 v with lines := lvs u p.lines, ready := lvs u p.ready, cores := p.cores.map (noT u) } u n).task t 17 (-1) = _
 rw [h4, h7, h6]
 show (wnP ((p.task u 1 0).task u 2 v) u n).task t 17 (-1) = _
 have e := task_els2 ((((p.task u 1 0).task u 2 v).task u 9 1)) u t 14 17 (-1) (-1) (Ne.symm hne)
 have e2 := task_els2 (((p.task u 1 0).task u 2 v)) u t 9 17 1 (-1) (Ne.symm hne)
 have e3 := task_els2 ((p.task u 1 0)) u t 2 17 v (-1) (Ne.symm hne)
 have e4 := task_els2 p u t 1 17 0 (-1) (Ne.symm hne)
 rw [e2, e3, e4] at e
 unfold wnP
 show ({ ((((p.task u 1 0).task u 2 v).task u 9 1).task u 14 (-1)).task t 17 (-1) with ready := _ } : PW) = _
 rw [e]
 rfl
theorem first_take (wb : Nat) (tag : Nat → Nat) (V : Nat → Value) (p : PW) (d : Nat) (sv : Value) (W : World) (bt : BoxT W wb tag V p) (hp : p.Fits) (hs : Snd p) (hd : d < p.kinds.length) (hkd : p.kinds[d] = 7) (hsv : IntsIn W sv [2, 3]) :
  Calls Tryz.prog 26 #[.pointer (some ⟨wb, 0, none⟩), .int .i64 d, sv] W fun r W' => r = .returned (.int .i64 (fkV p d)) ∧ Below W.heap.size W W' := by
 have hdl : d < p.lines.length := by rw [hs.lf.lines]; exact hd
 cases hz : p.lines.getD d [] with
 | nil =>
  have e : fkV p d = -1 := by unfold fkV; rw [hz]
  rw [e]
  exact first_nil wb tag V p d sv W bt hp hdl hz
 | cons z l =>
  obtain ⟨u, hu, rfl, hk, hat⟩ := line_first hs hdl hz
  have e : fkV p d = if inB (p.tasks.getD u bl 9) [2, 3] = true then (u : Int) else -1 := by
   rw [fk_at hz, in_two]
   rcases door_state hs hd hkd hu hk hat with h5 | h5 | h5 <;> rw [h5] <;> rfl
  rw [e]
  exact first_list wb tag V p d u l sv [2, 3] W bt hp hdl hz (by rw [hs.lf.tasks]; exact hu) hsv (by simp)
set_option maxRecDepth 100000 in
set_option maxHeartbeats 4000000 in
theorem take_deed (c1 c2 : Nat) (t0 d0 : Int) (p : PW) (hp : p.Fits) (hl : ∀ l ∈ p.tlbs, l.length ≤ 100) (hs : Snd p) : DeedT 24 #[ptr c1, ptr c2] (CapsT [(c1, .int .i64 t0), (c2, .int .i64 d0)]) eV p (tkP p t0 d0) (tkE p t0 d0) := by
 intro W wb tag V bt hc
 have x1 := (hc (c1, .int .i64 t0) (by simp)).1
 have x2 := (hc (c2, .int .i64 d0) (by simp)).1
 have HC := hid hc
 have HT := hid (meet_any wb tag V p t0 d0 7 W bt hp hl hs)
 have B0 := hid bt
 unfold ptr
 simp only [List.append_toArray, List.cons_append, List.nil_append]
 by_cases h0 : mtE p t0 d0 7 = 0
 rotate_left
 ·have HE := hid (show tkE p t0 d0 = mtE p t0 d0 7 from if_neg h0)
  rw [HE.out]
  rw [eV_n h0] at HT ⊢
  have HN := hid h0
  generalize mtE p t0 d0 7 = x at HT HN ⊢
  clear h0 bt hp hl hs hc HE
  go_enter Tryz.func24, Tryz.ntmps24
  go_wp2_with fail
  refine HT.out.mono ?_
  rintro q w1 ⟨rfl, hb⟩
  have K1 := hid (show Kt tag tag W w1 from .below hb)
  clear hb x1 x2 HT B0
  go_wp2_with fail
  go_ret
  exact ⟨rfl, tag, K1.out, fun h => absurd h HN.out⟩
 have hE0 : tkE p t0 d0 = if p.tasks.getD t0.toNat bl 17 = -1 then 0 else 7 := if_pos h0
 obtain ⟨t, d, ht, hd, rfl, rfl, hk, hkd, hin⟩ := mt_in h0
 rw [Int.toNat_natCast] at hE0
 rw [h0, eV_0] at HT
 have htl : t < p.tasks.length := by rw [hs.lf.tasks]; exact ht
 have hdl : d < p.lines.length := by rw [hs.lf.lines]; exact hd
 obtain ⟨e4, e7, e9⟩ := core_in hs ht hk hin
 have hl3 : (p.tasks.length : Int) ≤ 1000 := by have := hp.tasks; omega
 have ht2 : (t : Int) < (p.tasks.length : Int) := by omega
 obtain ⟨g3, cap3, e3⟩ := bt.o.tasks.form (by omega)
 have E3 := hid e3
 have HTT := hid htl
 have K17 := hid (fun X (h : BoxT X wb tag V p) => h.taskAt e3 htl (show 17 < 20 by omega))
 by_cases h17 : p.tasks.getD t bl 17 = -1
 rotate_left
 ·rw [hE0, if_neg h17]
  generalize p.tasks.getD t bl 17 = y at K17 h17
  have hyb : (y == -1) = false := by simpa using h17
  clear h0 bt hp hl hs hc hE0 hk hkd hin htl hdl e4 e7 e9 e3 ht hd
  go_enter Tryz.func24, Tryz.ntmps24
  go_wp2_with fail
  refine HT.out.mono ?_
  rintro q w1 ⟨rfl, hb⟩
  have B1 := hid (B0.out.below hb)
  have K1 := hid (show Kt tag tag W w1 from .below hb)
  clear hb x1 x2 HT B0
  have z1 := (HC.out.kt K1.out (c1, .int .i64 t) (by simp)).1
  have c3 : w1.cell? ⟨wb, 3, none⟩ = some (.slice (some ⟨g3, 0, none⟩) p.tasks.length cap3) := by rw [range_cell B1.out.r (k := 3) rfl, E3.out]
  have xa := K17.out _ B1.out
  go_upto_region 4 with fail
  go_quiet (fail)
  have K2 := hid (K1.out.trans (.below (below_drewN (Below.refl w1.heap.size w1) nq)))
  generalize World.drewN _ _ = Y at *
  go_wp2_with fail
  go_ret
  exact ⟨rfl, tag, K2.out, fun h => by cases h⟩
 rw [hE0, if_pos h17, eV_0]
 rw [h17] at K17
 have HF := hid (fun X (h : BoxT X wb tag V p) => first_take wb tag V p d (.slice (some ⟨X.heap.size, 0, none⟩) 2 2) (X.alloc (.cells #[.int .i64 2, .int .i64 3] 3)) (h.below (bal (Below.refl X.heap.size X) (.cells #[.int .i64 2, .int .i64 3] 3))) hp hs hd hkd ⟨some ⟨X.heap.size, 0, none⟩, X.heap.size, 0, 2, rfl, fun _ => rfl, fun j hj => by
  have hj2 : j < 2 := by simpa using hj
  rw [cells_new X #[.int .i64 2, .int .i64 3] 3 (0 + j)]
  rcases (show j = 0 ∨ j = 1 by omega) with rfl | rfl <;> rfl⟩)
 rcases fk_cases hs hd hkd with hfs | ⟨u, l, hu, hfs, hz, hku, hat, h23⟩
 ·have HR := hid (show tkP p t d = sdP p t d 4 by rw [tkP_no hfs, stand_eq2 (q := p) htl e4 e7])
  have HSM := hid (fun X (h : BoxT X wb tag V p) => standM_any wb tag V p t d 4 X h hp htl hdl)
  simp only [hfs] at HF
  clear h0 bt hp hl hs hc hE0 hk hkd hin htl hdl e4 e7 e9 e3 ht hd h17 hfs
  go_enter Tryz.func24, Tryz.ntmps24
  go_wp2_with fail
  refine HT.out.mono ?_
  rintro q w1 ⟨rfl, hb⟩
  have B1 := hid (B0.out.below hb)
  have K1 := hid (show Kt tag tag W w1 from .below hb)
  clear hb x1 x2 HT B0
  have z1 := (HC.out.kt K1.out (c1, .int .i64 t) (by simp)).1
  have c3 : w1.cell? ⟨wb, 3, none⟩ = some (.slice (some ⟨g3, 0, none⟩) p.tasks.length cap3) := by rw [range_cell B1.out.r (k := 3) rfl, E3.out]
  have xa := K17.out _ B1.out
  go_upto_region 4 with fail
  go_quiet (fail)
  have B2 := hid (B1.out.below (below_drewN (Below.refl w1.heap.size w1) nq))
  have K2 := hid (K1.out.trans (.below (below_drewN (Below.refl w1.heap.size w1) nq)))
  clear z1 c3 xa B1 K1
  generalize World.drewN _ _ = Y1 at *
  have z2 := (HC.out.kt K2.out (c2, .int .i64 d) (by simp)).1
  go_wp2_with fail
  refine (HF.out _ B2.out).mono ?_
  rintro q Y ⟨rfl, hb⟩
  have BY := hid (B2.out.below (btr (bal (Below.refl Y1.heap.size Y1) (.cells #[.int .i64 2, .int .i64 3] 3)) hb))
  have KY := hid (K2.out.trans (.below (btr (bal (Below.refl Y1.heap.size Y1) (.cells #[.int .i64 2, .int .i64 3] 3)) hb)))
  clear hb HF z2 B2 K2
  have z1 := (HC.out.kt KY.out (c1, .int .i64 t) (by simp)).1
  have z2 := (HC.out.kt KY.out (c2, .int .i64 d) (by simp)).1
  go_wp2_with fail
  refine (HSM.out _ BY.out).mono ?_
  rintro q w5 ⟨rfl, tg5, h5, k5⟩
  have B5 := hid h5
  have K5 := hid (KY.out.trans k5)
  clear h5 k5
  go_wp2_with fail
  go_ret
  exact ⟨rfl, tg5, K5.out, fun _ => ⟨V, by rw [HR.out]; exact B5.out⟩⟩
 ·have htu : u < p.tasks.length := by rw [hs.lf.tasks]; exact hu
  have hne : t ≠ u := by
   rintro rfl
   omega
  simp only [hfs] at HF
  obtain ⟨r1, r2, r3, r4⟩ := rdN_eq hs hu hku
  obtain ⟨hlv, hwk⟩ := tk_leave hs (t := t) hdl hz hu hku hat
  have HR := hid (tkP_yes (t := t) hfs hz)
  have LU := hid (tkU_len p t u)
  have L16 : (tkU p t u).tasks.getD u bl 18 = p.tasks.getD u bl 18 := tkU_at p t u 18 hne htu (by decide) (by decide)
  have L10 : (tkU p t u).tasks.getD u bl 10 = p.tasks.getD u bl 10 := tkU_at p t u 10 hne htu (by decide) (by decide)
  have L9 := hid (tkU_at p t u 9 hne htu (by decide) (by decide))
  have HA := hid (fun X (h : BoxT X wb tag V (tkU p t u)) => ask_any wb tag V (tkU p t u) u t X h (tkU_fits hp t u) (by rw [tkU_len]; exact htu) (by rw [tkU_len]; exact htl))
  rw [hlv] at HA
  have HW := hid (fun X (h : BoxT X wb tag V (tkU p t u)) => wake_any wb tag V (tkU p t u) u (rdN p u) X h (tkU_fits hp t u) (by rw [tkU_len]; exact htu) r1 (by rw [L16]; exact r3) (by rw [L10]; exact r4) (by rw [L16, L10]; exact r2))
  rw [hwk] at HW
  have HU := hid htu
  have hu2 : (u : Int) < (p.tasks.length : Int) := by omega
  obtain ⟨g, hg⟩ : ∃ g, p.tasks.getD u bl 16 = g := ⟨_, rfl⟩
  obtain ⟨v, hv⟩ : ∃ v, p.tasks.getD u bl 15 = v := ⟨_, rfl⟩
  have HG := hid hg
  have HV := hid hv
  have HQ := hid (show ((((p.task t 1 g).task t 2 v).task u 16 0).task u 15 0) = tkU p t u by unfold tkU; rw [hg, hv])
  have H15 := hid (show ((p.task t 1 g).task t 2 v).tasks.getD u bl 15 = v by rw [task_els _ u t 2 _ hne, task_els _ u t 1 _ hne]; exact hv)
  have H16 := hid (show ((p.task t 1 g).task t 2 v).tasks.getD u bl 16 = g by rw [task_els _ u t 2 _ hne, task_els _ u t 1 _ hne]; exact hg)
  have LH := hid (show ((p.task t 1 g).task t 2 v).tasks.length = p.tasks.length by rw [PW.task_len, PW.task_len])
  have HH := hid (fun X (h : BoxT X wb tag V p) => handM_any wb tag V p t g v X h hp htl)
  have KS := hid (fun X q (h : BoxT X wb tag V q) (k : Kt tag tag W X) (hq : q.tasks.length = p.tasks.length) (h15 : q.tasks.getD u bl 15 = v) (h16 : q.tasks.getD u bl 16 = g) => show X.cell? ⟨c1, 0, none⟩ = some (.int .i64 t) ∧ X.cell? ⟨g3, u * 20 + 16, none⟩ = some (.int .i64 g) ∧ X.cell? ⟨g3, u * 20 + 15, none⟩ = some (.int .i64 v) from ⟨(hc.kt k (c1, .int .i64 t) (by simp)).1, by have h1 := h.taskAt (show V 3 = .slice (some ⟨g3, 0, none⟩) q.tasks.length cap3 by rw [hq]; exact e3) (i := u) (by rw [hq]; exact htu) (show 16 < 20 by omega); rw [h16] at h1; exact h1, by have h1 := h.taskAt (show V 3 = .slice (some ⟨g3, 0, none⟩) q.tasks.length cap3 by rw [hq]; exact e3) (i := u) (by rw [hq]; exact htu) (show 15 < 20 by omega); rw [h15] at h1; exact h1⟩)
  have ht0 : ¬ ((u : Int) = -1) := by omega
  have ht1 : ((u : Int) == -1) = false := by simp
  have H23 := hid h23
  clear h0 bt hp hl hs hc hE0 hk hkd hin htl hdl e4 e7 e9 e3 ht hd h17 hfs hz hku hat hu htu hne r1 r2 r3 r4 hlv hwk L16 L10 hg hv h23
  go_enter Tryz.func24, Tryz.ntmps24
  go_wp2_with fail
  refine HT.out.mono ?_
  rintro q w1 ⟨rfl, hb⟩
  have B1 := hid (B0.out.below hb)
  have K1 := hid (show Kt tag tag W w1 from .below hb)
  clear hb x1 x2 HT B0
  have z1 := (HC.out.kt K1.out (c1, .int .i64 t) (by simp)).1
  have c3 : w1.cell? ⟨wb, 3, none⟩ = some (.slice (some ⟨g3, 0, none⟩) p.tasks.length cap3) := by rw [range_cell B1.out.r (k := 3) rfl, E3.out]
  have xa := K17.out _ B1.out
  go_upto_region 4 with fail
  go_quiet (fail)
  have B2 := hid (B1.out.below (below_drewN (Below.refl w1.heap.size w1) nq))
  have K2 := hid (K1.out.trans (.below (below_drewN (Below.refl w1.heap.size w1) nq)))
  clear z1 c3 xa B1 K1
  generalize World.drewN _ _ = Y1 at *
  have z2 := (HC.out.kt K2.out (c2, .int .i64 d) (by simp)).1
  go_wp2_with fail
  refine (HF.out _ B2.out).mono ?_
  rintro q Y ⟨rfl, hb⟩
  have BY := hid (B2.out.below (btr (bal (Below.refl Y1.heap.size Y1) (.cells #[.int .i64 2, .int .i64 3] 3)) hb))
  have KY := hid (K2.out.trans (.below (btr (bal (Below.refl Y1.heap.size Y1) (.cells #[.int .i64 2, .int .i64 3] 3)) hb)))
  clear hb HF z2 B2 K2
  have c3 : Y.cell? ⟨wb, 3, none⟩ = some (.slice (some ⟨g3, 0, none⟩) p.tasks.length cap3) := by rw [range_cell BY.out.r (k := 3) rfl, E3.out]
  go_upto_region 11 with fail
  clear c3
  have BD : Hid (BoxT Y.drew wb tag V p) := hid (BY.out.below (below_drew Y 1))
  have KD : Hid (Kt tag tag W Y.drew) := hid (KY.out.trans (.below (below_drew Y 1)))
  refine wp_region_held_drew (S := fun X => X.cell? ⟨c1, 0, none⟩ = some (.int .i64 t) ∧ X.cell? ⟨g3, u * 20 + 16, none⟩ = some (.int .i64 g) ∧ X.cell? ⟨g3, u * 20 + 15, none⟩ = some (.int .i64 v)) (by kernel_rfl) (KS.out _ _ BD.out KD.out rfl HV.out HG.out) (fun hH0 => ?_)
  have hH := hid hH0
  clear hH0
  refine tk 0 (.pointer (some ⟨wb, 0, none⟩)) rfl hH.out ?_
  simp only [jj]
  refine Mem.tg 1 (.int .i64 t) rfl (Or.inl ⟨by rfl, fun W h => by have h3 := h.1; clear h; go_simp⟩) hH.out ?_
  simp only [jj]
  refine tk 2 (.pointer (some ⟨g3, u * 20, none⟩)) rfl hH.out ?_
  simp only [jj]
  refine tk 3 (.pointer (some ⟨g3, u * 20, none⟩)) rfl hH.out ?_
  simp only [jj]
  refine tk 4 (.pointer (some ⟨g3, u * 20 + 16, none⟩)) rfl hH.out ?_
  simp only [jj]
  refine Mem.tg 5 (.int .i64 g) rfl (Or.inl ⟨by rfl, fun W h => by have h3 := h.2.1; clear h; go_simp⟩) hH.out ?_
  simp only [jj]
  refine tk 6 (.pointer (some ⟨g3, u * 20, none⟩)) rfl hH.out ?_
  simp only [jj]
  refine tk 7 (.pointer (some ⟨g3, u * 20, none⟩)) rfl hH.out ?_
  simp only [jj]
  refine tk 8 (.pointer (some ⟨g3, u * 20 + 15, none⟩)) rfl hH.out ?_
  simp only [jj]
  refine Mem.tg 9 (.int .i64 v) rfl (Or.inl ⟨by rfl, fun W h => by have h3 := h.2.2; clear h; go_simp⟩) hH.out ?_
  simp only [jj]
  refine wpAnyH_ready (rs := [10]) (by kernel_rfl) (by simp) (AllReadyH.cons rfl (fun K hK => ?_) AllReadyH.nil)
  go_simp
  refine (HH.out _ BD.out).mono ?_
  rintro q w2 ⟨rfl, h1, h2⟩
  have B2 := hid h1
  have K2 := hid (KD.out.trans h2)
  clear h1 h2
  go_wp2_with fail
  refine hK.out _ _ (KS.out _ _ B2.out K2.out LH.out H15.out H16.out) (fun hH0 => ?_)
  have hH2 := hid hH0
  clear hK K hH0
  try simp only [Act.put, jD, jE, jF]
  refine wpAnyH_done (by kernel_rfl) ?_ _
  clear hH hH2 KS HH BD KD BY KY HV HG H15 H16
  have e4 := hid (show V 3 = .slice (some ⟨g3, 0, none⟩) ((p.task t 1 g).task t 2 v).tasks.length cap3 by rw [LH.out]; exact E3.out)
  have xa := B2.out.taskAt e4.out (i := u) (by rw [LH.out]; exact HU.out) (show 16 < 20 by omega)
  have fa := B2.out.tasksFr e4.out (u * 20 + 16)
  obtain ⟨b1, q1⟩ := B2.out.task e4.out (i := u) (by rw [LH.out]; exact HU.out) (show 16 < 20 by omega) 0
  have B3 := hid b1
  have K3 := hid (K2.out.trans q1)
  clear b1 q1 e4
  clear B2 K2
  have e4 := hid (show V 3 = .slice (some ⟨g3, 0, none⟩) (((p.task t 1 g).task t 2 v).task u 16 0).tasks.length cap3 by rw [PW.task_len, LH.out]; exact E3.out)
  have xb := B3.out.taskAt e4.out (i := u) (by rw [PW.task_len, LH.out]; exact HU.out) (show 15 < 20 by omega)
  have fb := B3.out.tasksFr e4.out (u * 20 + 15)
  obtain ⟨b1, q1⟩ := B3.out.task e4.out (i := u) (by rw [PW.task_len, LH.out]; exact HU.out) (show 15 < 20 by omega) 0
  have B4 := hid b1
  have K4 := hid (K3.out.trans q1)
  clear b1 q1 e4
  clear B3 K3
  go_upto_region 13 with fail
  generalize World.setCell (World.setCell _ _ _) _ _ = W4 at *
  clear xa fa xb fb
  rw [HQ.out] at B4
  have x9 := B4.out.taskAt (show V 3 = .slice (some ⟨g3, 0, none⟩) (tkU p t u).tasks.length cap3 by rw [LU.out]; exact E3.out) (i := u) (by rw [LU.out]; exact HU.out) (show 9 < 20 by omega)
  rw [L9.out] at x9
  have z1 := (HC.out.kt K4.out (c1, .int .i64 t) (by simp)).1
  rcases H23.out with h2 | h3
  ·rw [if_neg (by rw [h2]; decide)] at HR
   rw [h2] at x9
   clear h2 H23 HA
   go_wp2_with fail
   refine (HW.out _ B4.out).mono ?_
   rintro q w5 ⟨rfl, tg5, h1, k1⟩
   have B5 := hid h1
   have K5 := hid (K4.out.trans k1)
   clear h1 k1 HW
   go_wp2_with fail
   go_ret
   exact ⟨rfl, tg5, K5.out, fun _ => ⟨V, by rw [HR.out]; exact B5.out⟩⟩
  ·rw [if_pos h3] at HR
   rw [h3] at x9
   clear h3 H23 HW
   go_wp2_with fail
   refine (HA.out _ B4.out).mono ?_
   rintro q w5 ⟨rfl, h1, k1⟩
   have B5 := hid h1
   have K5 := hid (K4.out.trans k1)
   clear h1 k1 HA
   go_wp2_with fail
   go_ret
   exact ⟨rfl, tag, K5.out, fun _ => ⟨V, by rw [HR.out]; exact B5.out⟩⟩
set_option maxRecDepth 100000 in
set_option maxHeartbeats 4000000 in
theorem answer_deed (c1 c2 : Nat) (t0 v : Int) (p : PW) (hp : p.Fits) (hl : ∀ l ∈ p.tlbs, l.length ≤ 100) (hs : Snd p) : DeedT 35 #[ptr c1, ptr c2] (CapsT [(c1, .int .i64 t0), (c2, .int .i64 v)]) eV p (anP p t0 v) (anE p t0 v) := by
 intro W wb tag V bt hc
 have x1 := (hc (c1, .int .i64 t0) (by simp)).1
 have HC := hid hc
 have HT := hid (thing_any wb V p t0 6 W (bt.view hp hl))
 have HB := hid (fun X => isWord_any v X)
 have B0 := hid bt
 unfold ptr
 simp only [List.append_toArray, List.cons_append, List.nil_append]
 have hms := mt_self p t0
 by_cases h0 : thE p t0 6 = 0
 rotate_left
 ·rw [if_neg h0] at hms
  have HE := hid (show anE p t0 v = thE p t0 6 by unfold anE; rw [hms]; exact if_neg h0)
  rw [HE.out]
  rw [eV_n h0] at HT ⊢
  have HN := hid h0
  generalize thE p t0 6 = x at HT HN ⊢
  clear h0 bt hp hl hs hc HE hms
  go_enter Tryz.func35, Tryz.ntmps35
  go_wp2_with fail
  refine HT.out.mono ?_
  rintro q w1 ⟨rfl, rfl⟩
  have B1 := hid B0.out
  have K1 := hid (show Kt tag tag W W from Kt.refl _ _)
  clear x1 HT B0
  go_wp2_with fail
  go_ret
  exact ⟨rfl, tag, K1.out, fun h => absurd h HN.out⟩
 rw [if_pos h0] at hms
 rw [h0, eV_0] at HT
 obtain ⟨t, ht, rfl, hk⟩ := thE_in h0
 have htl : t < p.tasks.length := by rw [hs.lf.tasks]; exact ht
 have HO := hid (fun X (h : BoxT X wb tag V p) => onCore_any wb tag V p t X h hp hs ht hk)
 by_cases hin : inB t p.cores = true
 rotate_left
 ·rw [if_neg hin] at hms
  have HE := hid (show anE p t v = 7 by unfold anE; rw [hms]; exact if_neg (by decide))
  rw [HE.out]
  simp only [if_neg hin, eV_n (show ¬ (7 : Int) = 0 by decide)] at HO
  clear h0 bt hp hl hs hc HE hms ht hk htl hin HB
  go_enter Tryz.func35, Tryz.ntmps35
  go_wp2_with fail
  refine HT.out.mono ?_
  rintro q w1 ⟨rfl, rfl⟩
  have B1 := hid B0.out
  have K1 := hid (show Kt tag tag W W from Kt.refl _ _)
  clear x1 HT B0
  have z1 := (HC.out.kt K1.out (c1, .int .i64 t) (by simp)).1
  go_wp2_with fail
  refine (HO.out _ B1.out).mono ?_
  rintro q w2 ⟨rfl, hb⟩
  have B2 := hid (B1.out.below hb)
  have K2 := hid (K1.out.trans (.below hb))
  clear hb z1 HO B1 K1
  go_wp2_with fail
  go_ret
  exact ⟨rfl, tag, K2.out, fun h => by cases h⟩
 rw [if_pos hin] at hms
 simp only [if_pos hin, eV_0] at HO
 have hE0 : anE p t v = if wB v = true then (if p.tasks.getD t bl 17 = -1 then 6 else 0) else 1 := by
  unfold anE
  rw [if_pos hms, Int.toNat_natCast]
 cases hwv : wB v with
 | false =>
  rw [hE0, hwv, if_neg (by decide)]
  simp only [hwv] at HB
  clear h0 bt hp hl hs hc hE0 hms ht hk htl hin hwv
  go_enter Tryz.func35, Tryz.ntmps35
  go_wp2_with fail
  refine HT.out.mono ?_
  rintro q w1 ⟨rfl, rfl⟩
  have B1 := hid B0.out
  have K1 := hid (show Kt tag tag W W from Kt.refl _ _)
  clear x1 HT B0
  have z1 := (HC.out.kt K1.out (c1, .int .i64 t) (by simp)).1
  go_wp2_with fail
  refine (HO.out _ B1.out).mono ?_
  rintro q w2 ⟨rfl, hb⟩
  have B2 := hid (B1.out.below hb)
  have K2 := hid (K1.out.trans (.below hb))
  clear hb z1 HO B1 K1
  have z2 := (HC.out.kt K2.out (c2, .int .i64 v) (by simp)).1
  go_wp2_with fail
  refine (HB.out _).mono ?_
  rintro q u1 ⟨rfl, rfl⟩
  clear z2
  go_wp2_with fail
  go_ret
  exact ⟨rfl, tag, K2.out, fun h => by cases h⟩
 | true =>
 simp only [hwv] at HB
 have hl3 : (p.tasks.length : Int) ≤ 1000 := by have := hp.tasks; omega
 have ht2 : (t : Int) < (p.tasks.length : Int) := by omega
 obtain ⟨g3, cap3, e3⟩ := bt.o.tasks.form (by omega)
 have E3 := hid e3
 have HTT := hid htl
 have K17 := hid (fun X (h : BoxT X wb tag V p) => h.taskAt e3 htl (show 17 < 20 by omega))
 by_cases h17 : p.tasks.getD t bl 17 = -1
 ·rw [hE0, hwv, if_pos rfl, if_pos h17]
  rw [h17] at K17
  clear h0 bt hp hl hs hc hE0 hms ht hk htl hin hwv e3 h17
  go_enter Tryz.func35, Tryz.ntmps35
  go_wp2_with fail
  refine HT.out.mono ?_
  rintro q w1 ⟨rfl, rfl⟩
  have B1 := hid B0.out
  have K1 := hid (show Kt tag tag W W from Kt.refl _ _)
  clear x1 HT B0
  have z1 := (HC.out.kt K1.out (c1, .int .i64 t) (by simp)).1
  go_wp2_with fail
  refine (HO.out _ B1.out).mono ?_
  rintro q w2 ⟨rfl, hb⟩
  have B2 := hid (B1.out.below hb)
  have K2 := hid (K1.out.trans (.below hb))
  clear hb z1 HO B1 K1
  have z2 := (HC.out.kt K2.out (c2, .int .i64 v) (by simp)).1
  go_wp2_with fail
  refine (HB.out _).mono ?_
  rintro q u1 ⟨rfl, rfl⟩
  clear z2
  have z1 := (HC.out.kt K2.out (c1, .int .i64 t) (by simp)).1
  have c3 : w2.cell? ⟨wb, 3, none⟩ = some (.slice (some ⟨g3, 0, none⟩) p.tasks.length cap3) := by rw [range_cell B2.out.r (k := 3) rfl, E3.out]
  have xa := K17.out _ B2.out
  go_upto_region 9 with fail
  go_quiet (fail)
  have B3 := hid (B2.out.below (below_drewN (Below.refl w2.heap.size w2) nq))
  have K3 := hid (K2.out.trans (.below (below_drewN (Below.refl w2.heap.size w2) nq)))
  clear z1 c3 xa B2 K2
  generalize World.drewN _ _ = Y at *
  go_wp2_with fail
  go_ret
  exact ⟨rfl, tag, K3.out, fun h => by cases h⟩
 ·rw [hE0, hwv, if_pos rfl, if_neg h17, eV_0]
  obtain ⟨u, hu, e17, hku, h5, i4, i7, i6⟩ := owed_in hs ht hk h17
  have htu : u < p.tasks.length := by rw [hs.lf.tasks]; exact hu
  have hne : t ≠ u := by
   obtain ⟨_, _, e9⟩ := core_in hs ht hk hin
   rintro rfl
   omega
  rw [e17] at K17
  obtain ⟨r1, r2, r3, r4⟩ := rdN_eq hs hu hku
  have e18 : ((p.task u 1 0).task u 2 v).tasks.getD u bl 18 = p.tasks.getD u bl 18 := by rw [task_at _ u 2 18 _ (by rw [PW.task_len]; exact htu) (by decide), task_at _ u 1 18 _ htu (by decide)]
  have e10 : ((p.task u 1 0).task u 2 v).tasks.getD u bl 10 = p.tasks.getD u bl 10 := by rw [task_at _ u 2 10 _ (by rw [PW.task_len]; exact htu) (by decide), task_at _ u 1 10 _ htu (by decide)]
  have HH := hid (fun X (h : BoxT X wb tag V p) => handM_any wb tag V p u 0 v X h hp htu)
  have HW := hid (fun X (h : BoxT X wb tag V ((p.task u 1 0).task u 2 v)) => wake_any wb tag V ((p.task u 1 0).task u 2 v) u (rdN p u) X h (tsk_fits (tsk_fits hp u 1 0) u 2 v) (by rw [PW.task_len, PW.task_len]; exact htu) r1 (by rw [e18]; exact r3) (by rw [e10]; exact r4) (by rw [e18, e10]; exact r2))
  have HR := hid ((anP_at v e17).trans (an_eq v hne htu i4 i7 i6 (rdN p u)).symm)
  have LW := hid (show (wkP ((p.task u 1 0).task u 2 v) u (rdN p u)).tasks.length = p.tasks.length by
   show (((((p.task u 1 0).task u 2 v).task u 14 (-1)).task u 9 1)).tasks.length = _
   rw [PW.task_len, PW.task_len, PW.task_len, PW.task_len])
  have ht0 : ¬ ((u : Int) = -1) := by omega
  have ht1 : ((u : Int) == -1) = false := by simp
  clear h0 bt hp hl hs hc hE0 hms ht hk htl hin hwv e3 h17 hu hku h5 i4 i7 i6 htu hne r1 r2 r3 r4 e18 e10 e17
  go_enter Tryz.func35, Tryz.ntmps35
  go_wp2_with fail
  refine HT.out.mono ?_
  rintro q w1 ⟨rfl, rfl⟩
  have B1 := hid B0.out
  have K1 := hid (show Kt tag tag W W from Kt.refl _ _)
  clear x1 HT B0
  have z1 := (HC.out.kt K1.out (c1, .int .i64 t) (by simp)).1
  go_wp2_with fail
  refine (HO.out _ B1.out).mono ?_
  rintro q w2 ⟨rfl, hb⟩
  have B2 := hid (B1.out.below hb)
  have K2 := hid (K1.out.trans (.below hb))
  clear hb z1 HO B1 K1
  have z2 := (HC.out.kt K2.out (c2, .int .i64 v) (by simp)).1
  go_wp2_with fail
  refine (HB.out _).mono ?_
  rintro q u1 ⟨rfl, rfl⟩
  clear z2
  have z1 := (HC.out.kt K2.out (c1, .int .i64 t) (by simp)).1
  have c3 : w2.cell? ⟨wb, 3, none⟩ = some (.slice (some ⟨g3, 0, none⟩) p.tasks.length cap3) := by rw [range_cell B2.out.r (k := 3) rfl, E3.out]
  have xa := K17.out _ B2.out
  go_upto_region 9 with fail
  go_quiet (fail)
  have B3 := hid (B2.out.below (below_drewN (Below.refl w2.heap.size w2) nq))
  have K3 := hid (K2.out.trans (.below (below_drewN (Below.refl w2.heap.size w2) nq)))
  clear z1 c3 xa B2 K2
  generalize World.drewN _ _ = Y at *
  have z2 := (HC.out.kt K3.out (c2, .int .i64 v) (by simp)).1
  go_wp2_with fail
  refine (HH.out _ B3.out).mono ?_
  rintro q w4 ⟨rfl, h1, k1⟩
  have B4 := hid h1
  have K4 := hid (K3.out.trans k1)
  clear h1 k1 HH z2 B3 K3
  go_wp2_with fail
  refine (HW.out _ B4.out).mono ?_
  rintro q w5 ⟨rfl, tg5, h1, k1⟩
  have B5 := hid h1
  have K5 := hid (K4.out.trans k1)
  clear h1 k1 HW B4 K4
  go_upto_region 14 with fail
  generalize wkP ((p.task u 1 0).task u 2 v) u (rdN p u) = q at *
  have BD : Hid (BoxT w5.drew wb tg5 V q) := hid (B5.out.below (below_drew w5 1))
  have KD : Hid (Kt tag tg5 W w5.drew) := hid (K5.out.trans (.below (below_drew w5 1)))
  have KS := hid (fun X tg q (h : BoxT X wb tg V q) (k : Kt tag tg W X) => show X.cell? ⟨wb, 3, none⟩ = some (.slice (some ⟨g3, 0, none⟩) p.tasks.length cap3) ∧ X.cell? ⟨c1, 0, none⟩ = some (.int .i64 t) from ⟨by rw [range_cell h.r (k := 3) rfl, E3.out], (HC.out.kt k (c1, .int .i64 t) (by simp)).1⟩)
  have e4 : V 3 = .slice (some ⟨g3, 0, none⟩) q.tasks.length cap3 := by rw [LW.out]; exact E3.out
  have xa := BD.out.taskAt e4 (i := t) (by rw [LW.out]; exact HTT.out) (show 17 < 20 by omega)
  have fa := BD.out.tasksFr e4 (t * 20 + 17)
  obtain ⟨b1, q1⟩ := BD.out.task e4 (i := t) (by rw [LW.out]; exact HTT.out) (show 17 < 20 by omega) (-1)
  have B6 := hid (show BoxT (w5.setCell ⟨g3, t * 20 + 17, none⟩ (.int .i64 (-1))).drew wb tg5 V (q.task t 17 (-1)) from b1)
  have K6 := hid (show Kt tag tg5 W (w5.setCell ⟨g3, t * 20 + 17, none⟩ (.int .i64 (-1))).drew from KD.out.trans q1)
  clear b1 q1 e4
  refine wp_region_held_drew (S := fun X => X.cell? ⟨wb, 3, none⟩ = some (.slice (some ⟨g3, 0, none⟩) p.tasks.length cap3) ∧ X.cell? ⟨c1, 0, none⟩ = some (.int .i64 t)) (by kernel_rfl) (KS.out _ _ _ BD.out KD.out) (fun hH0 => ?_)
  have hH := hid hH0
  clear hH0
  refine tk 0 (.pointer (some ⟨wb, 0, none⟩)) rfl hH.out ?_
  simp only [jj]
  refine tk 1 (.pointer (some ⟨wb, 0, none⟩)) rfl hH.out ?_
  simp only [jj]
  refine tk 2 (.pointer (some ⟨wb, 3, none⟩)) rfl hH.out ?_
  simp only [jj]
  refine Mem.tg 3 (.slice (some ⟨g3, 0, none⟩) p.tasks.length cap3) rfl (Or.inl ⟨by rfl, fun W h => by have h3 := h.1; clear h; go_simp⟩) hH.out ?_
  simp only [jj]
  refine Mem.tg 4 (.int .i64 t) rfl (Or.inl ⟨by rfl, fun W h => by have h3 := h.2; clear h; go_simp⟩) hH.out ?_
  simp only [jj]
  refine tk 5 (.pointer (some ⟨g3, t * 20, none⟩)) rfl hH.out ?_
  simp only [jj]
  refine tk 6 (.pointer (some ⟨g3, t * 20 + 17, none⟩)) rfl hH.out ?_
  simp only [jj]
  refine wpAnyH_ready (rs := [7]) (by kernel_rfl) (by simp) (AllReadyH.cons rfl (fun K hK => ?_) AllReadyH.nil)
  go_simp
  refine hK.out _ _ (KS.out _ _ _ B6.out K6.out) (fun _ => ?_)
  clear hK K hH xa fa
  try simp only [Act.put]
  refine wpAnyH_done (by kernel_rfl) ?_ _
  clear KS BD KD
  generalize World.drew (World.setCell _ _ _) = W6 at *
  go_wp2_with fail
  go_ret
  first | exact ⟨rfl, tg5, K6.out, V, by rw [HR.out]; exact B6.out⟩ | exact ⟨rfl, tg5, K6.out, fun _ => ⟨V, by rw [HR.out]; exact B6.out⟩⟩
theorem cf_r1 (args : Array Value) (W : World) : (callFunc 24 args).run Tryz.prog W = .ok (.enter 24 args) W := by
 go_simp
theorem cf_l1 (args : Array Value) (W : World) : (callFunc 35 args).run Tryz.prog W = .ok (.enter 35 args) W := by
 go_simp
set_option maxRecDepth 100000 in
set_option maxHeartbeats 4000000 in
theorem mailTake_any (V : Nat → Value) (p : PW) (a b : Int) (w : World) (hv : WorldV w V p) (hp : p.Fits) :
  Calls Tryz.prog 9 #[.agg (arr11 V), .int .i64 a, .int .i64 b] w fun x w' => ∃ X, x = .returned (.tuple #[.agg (arr11 X), eV (dE p (tkE p a b))]) ∧ FarV w' w.heap.size X (dP p (tkP p a b) (tkE p a b)) ∧ Below w.heap.size w w' := by
 have RG0 := boxed w V 28
 have RG1 := range_below RG0 (bal (Below.refl _ (w.alloc (.cells (arr11 V) 28))) (.cells #[.int .i64 a] 3))
 have RG2 := range_below RG1 (bal (Below.refl _ ((w.alloc (.cells (arr11 V) 28)).alloc (.cells #[.int .i64 a] 3))) (.cells #[.int .i64 b] 3))
 have RG3 := range_below RG2 (bal (Below.refl _ (((w.alloc (.cells (arr11 V) 28)).alloc (.cells #[.int .i64 a] 3)).alloc (.cells #[.int .i64 b] 3))) (.cells #[.slice none 0 0, .slice none 0 0, .slice none 0 0, .slice none 0 0, .slice none 0 0, .slice none 0 0, .slice none 0 0, .slice none 0 0, .slice none 0 0, .slice none 0 0, .int .i64 0] 28))
 have RG := hid RG3
 have B0 := hid (bal (bal (bal (bal (Below.refl w.heap.size w) (.cells (arr11 V) 28)) (.cells #[.int .i64 a] 3)) (.cells #[.int .i64 b] 3)) (.cells #[.slice none 0 0, .slice none 0 0, .slice none 0 0, .slice none 0 0, .slice none 0 0, .slice none 0 0, .slice none 0 0, .slice none 0 0, .slice none 0 0, .slice none 0 0, .int .i64 0] 28))
 have y1 := (cells_alloc (cells_alloc (cells_at (w.alloc (.cells (arr11 V) 28)) #[.int .i64 a] 3 (w.heap.size + 1) (by simp)) (by simp) (.cells #[.int .i64 b] 3)) (by simp) (.cells #[.slice none 0 0, .slice none 0 0, .slice none 0 0, .slice none 0 0, .slice none 0 0, .slice none 0 0, .slice none 0 0, .slice none 0 0, .slice none 0 0, .slice none 0 0, .int .i64 0] 28)) 0
 have y2 := (cells_alloc (cells_at ((w.alloc (.cells (arr11 V) 28)).alloc (.cells #[.int .i64 a] 3)) #[.int .i64 b] 3 (w.heap.size + 2) (by simp)) (by simp) (.cells #[.slice none 0 0, .slice none 0 0, .slice none 0 0, .slice none 0 0, .slice none 0 0, .slice none 0 0, .slice none 0 0, .slice none 0 0, .slice none 0 0, .slice none 0 0, .int .i64 0] 28)) 0
 have HC := hid (show Caps [((w.heap.size + 1), .int .i64 a), ((w.heap.size + 2), .int .i64 b)] ((((w.alloc (.cells (arr11 V) 28)).alloc (.cells #[.int .i64 a] 3)).alloc (.cells #[.int .i64 b] 3)).alloc (.cells #[.slice none 0 0, .slice none 0 0, .slice none 0 0, .slice none 0 0, .slice none 0 0, .slice none 0 0, .slice none 0 0, .slice none 0 0, .slice none 0 0, .slice none 0 0, .int .i64 0] 28)) from fun x hx => by
  simp only [List.mem_cons, List.not_mem_nil, or_false] at hx
  rcases hx with rfl | rfl
  ·exact y1
  ·exact y2)
 have SZ := hid (show ((((w.alloc (.cells (arr11 V) 28)).alloc (.cells #[.int .i64 a] 3)).alloc (.cells #[.int .i64 b] 3)).alloc (.cells #[.slice none 0 0, .slice none 0 0, .slice none 0 0, .slice none 0 0, .slice none 0 0, .slice none 0 0, .slice none 0 0, .slice none 0 0, .slice none 0 0, .slice none 0 0, .int .i64 0] 28)).heap.size = w.heap.size + 4 by simp)
 have TR := hid (there_new (((w.alloc (.cells (arr11 V) 28)).alloc (.cells #[.int .i64 a] 3)).alloc (.cells #[.int .i64 b] 3)) #[.slice none 0 0, .slice none 0 0, .slice none 0 0, .slice none 0 0, .slice none 0 0, .slice none 0 0, .slice none 0 0, .slice none 0 0, .slice none 0 0, .slice none 0 0, .int .i64 0] 28 (w.heap.size + 3) 11 (by simp) (by decide))
 clear RG0 RG1 RG2 RG3
 have HL := hid (tlbs_le hv.tlbs)
 have HD := hid (do_far 24 #[ptr (w.heap.size + 1), ptr (w.heap.size + 2)] (Caps [((w.heap.size + 1), .int .i64 a), ((w.heap.size + 2), .int .i64 b)]) V p (tkP p a b) (tkE p a b) ((((w.alloc (.cells (arr11 V) 28)).alloc (.cells #[.int .i64 a] 3)).alloc (.cells #[.int .i64 b] 3)).alloc (.cells #[.slice none 0 0, .slice none 0 0, .slice none 0 0, .slice none 0 0, .slice none 0 0, .slice none 0 0, .slice none 0 0, .slice none 0 0, .slice none 0 0, .slice none 0 0, .int .i64 0] 28)) (hv.below B0.out) hp cf_r1 (fun X h => HC.out.below h) (fun h => (take_deed _ _ a b p hp HL.out h).caps (by rw [tk_tlbs]; exact HL.out)))
 unfold ptr at HD
 generalize dE p (tkE p a b) = de at HD ⊢
 generalize dP p (tkP p a b) (tkE p a b) = dp at HD ⊢
 clear hv hp HL y1 y2
 go_enter Tryz.func9, Tryz.ntmps9
 go_wp2_with (first | ((with_reducible (show wpList _ _ _ (⟨_, Op.load 28 _, _, _, _, _⟩ :: _) _ _)); refine wp_ldWg (by rfl) _ rfl _ rfl V RG.out ?_))
 generalize World.alloc _ _ = W0 at *
 refine HD.out.mono ?_
 rintro q w1 ⟨X, rfl, hF, hb⟩
 have T1 := hid (there_belowO TR.out hb)
 have one := hid (world_one hF.v0)
 have RX := hid (World.rangeAt_setCells_same w1 (w.heap.size + 3) 0 (arr11 X).toList T1.out)
 have BX := hid (below_setCells (btr B0.out hb) (show w.heap.size ≤ w.heap.size + 3 by omega) (arr11 X).toList 0)
 have WX := hid ((hF.put (w.heap.size + 3) 0 (arr11 X).toList (by rw [SZ.out]; omega)).mono (show w.heap.size ≤ _ by rw [SZ.out]; omega))
 clear hF hb HD
 go_wp2_with (first | ((with_reducible (show wpList _ _ _ (⟨_, Op.store 28 _ _, _, _, _, _⟩ :: _) _ _)); refine wpList_store_mid rfl 28 _ _ rfl (w.heap.size + 3) 0 (arr11 X) rfl rfl T1.out infoW one.out ?_))
 exact bodyPost_ret (v := .tuple #[.agg (arr11 X), eV de]) (results_d2 rfl rfl (run_loadVar_mid _ (w.heap.size + 3) 0 28 (arr11 X).toList _ RX.out Tryz.underlying28 rfl infoW) rfl) rfl ⟨X, rfl, WX.out, BX.out⟩
set_option maxRecDepth 100000 in
set_option maxHeartbeats 4000000 in
theorem mailAnswer_any (V : Nat → Value) (p : PW) (a c : Int) (w : World) (hv : WorldV w V p) (hp : p.Fits) :
  Calls Tryz.prog 12 #[.agg (arr11 V), .int .i64 a, .int .i64 c] w fun x w' => ∃ X, x = .returned (.tuple #[.agg (arr11 X), eV (dE p (anE p a c))]) ∧ FarV w' w.heap.size X (dP p (anP p a c) (anE p a c)) ∧ Below w.heap.size w w' := by
 have RG0 := boxed w V 28
 have RG1 := range_below RG0 (bal (Below.refl _ (w.alloc (.cells (arr11 V) 28))) (.cells #[.int .i64 a] 3))
 have RG2 := range_below RG1 (bal (Below.refl _ ((w.alloc (.cells (arr11 V) 28)).alloc (.cells #[.int .i64 a] 3))) (.cells #[.int .i64 c] 3))
 have RG3 := range_below RG2 (bal (Below.refl _ (((w.alloc (.cells (arr11 V) 28)).alloc (.cells #[.int .i64 a] 3)).alloc (.cells #[.int .i64 c] 3))) (.cells #[.slice none 0 0, .slice none 0 0, .slice none 0 0, .slice none 0 0, .slice none 0 0, .slice none 0 0, .slice none 0 0, .slice none 0 0, .slice none 0 0, .slice none 0 0, .int .i64 0] 28))
 have RG := hid RG3
 have B0 := hid (bal (bal (bal (bal (Below.refl w.heap.size w) (.cells (arr11 V) 28)) (.cells #[.int .i64 a] 3)) (.cells #[.int .i64 c] 3)) (.cells #[.slice none 0 0, .slice none 0 0, .slice none 0 0, .slice none 0 0, .slice none 0 0, .slice none 0 0, .slice none 0 0, .slice none 0 0, .slice none 0 0, .slice none 0 0, .int .i64 0] 28))
 have y1 := (cells_alloc (cells_alloc (cells_at (w.alloc (.cells (arr11 V) 28)) #[.int .i64 a] 3 (w.heap.size + 1) (by simp)) (by simp) (.cells #[.int .i64 c] 3)) (by simp) (.cells #[.slice none 0 0, .slice none 0 0, .slice none 0 0, .slice none 0 0, .slice none 0 0, .slice none 0 0, .slice none 0 0, .slice none 0 0, .slice none 0 0, .slice none 0 0, .int .i64 0] 28)) 0
 have y2 := (cells_alloc (cells_at ((w.alloc (.cells (arr11 V) 28)).alloc (.cells #[.int .i64 a] 3)) #[.int .i64 c] 3 (w.heap.size + 2) (by simp)) (by simp) (.cells #[.slice none 0 0, .slice none 0 0, .slice none 0 0, .slice none 0 0, .slice none 0 0, .slice none 0 0, .slice none 0 0, .slice none 0 0, .slice none 0 0, .slice none 0 0, .int .i64 0] 28)) 0
 have HC := hid (show Caps [((w.heap.size + 1), .int .i64 a), ((w.heap.size + 2), .int .i64 c)] ((((w.alloc (.cells (arr11 V) 28)).alloc (.cells #[.int .i64 a] 3)).alloc (.cells #[.int .i64 c] 3)).alloc (.cells #[.slice none 0 0, .slice none 0 0, .slice none 0 0, .slice none 0 0, .slice none 0 0, .slice none 0 0, .slice none 0 0, .slice none 0 0, .slice none 0 0, .slice none 0 0, .int .i64 0] 28)) from fun x hx => by
  simp only [List.mem_cons, List.not_mem_nil, or_false] at hx
  rcases hx with rfl | rfl
  ·exact y1
  ·exact y2)
 have SZ := hid (show ((((w.alloc (.cells (arr11 V) 28)).alloc (.cells #[.int .i64 a] 3)).alloc (.cells #[.int .i64 c] 3)).alloc (.cells #[.slice none 0 0, .slice none 0 0, .slice none 0 0, .slice none 0 0, .slice none 0 0, .slice none 0 0, .slice none 0 0, .slice none 0 0, .slice none 0 0, .slice none 0 0, .int .i64 0] 28)).heap.size = w.heap.size + 4 by simp)
 have TR := hid (there_new (((w.alloc (.cells (arr11 V) 28)).alloc (.cells #[.int .i64 a] 3)).alloc (.cells #[.int .i64 c] 3)) #[.slice none 0 0, .slice none 0 0, .slice none 0 0, .slice none 0 0, .slice none 0 0, .slice none 0 0, .slice none 0 0, .slice none 0 0, .slice none 0 0, .slice none 0 0, .int .i64 0] 28 (w.heap.size + 3) 11 (by simp) (by decide))
 clear RG0 RG1 RG2 RG3
 have HL := hid (tlbs_le hv.tlbs)
 have HD := hid (do_far 35 #[ptr (w.heap.size + 1), ptr (w.heap.size + 2)] (Caps [((w.heap.size + 1), .int .i64 a), ((w.heap.size + 2), .int .i64 c)]) V p (anP p a c) (anE p a c) ((((w.alloc (.cells (arr11 V) 28)).alloc (.cells #[.int .i64 a] 3)).alloc (.cells #[.int .i64 c] 3)).alloc (.cells #[.slice none 0 0, .slice none 0 0, .slice none 0 0, .slice none 0 0, .slice none 0 0, .slice none 0 0, .slice none 0 0, .slice none 0 0, .slice none 0 0, .slice none 0 0, .int .i64 0] 28)) (hv.below B0.out) hp cf_l1 (fun X h => HC.out.below h) (fun h => (answer_deed _ _ a c p hp HL.out h).caps (by rw [an_tlbs]; exact HL.out)))
 unfold ptr at HD
 generalize dE p (anE p a c) = de at HD ⊢
 generalize dP p (anP p a c) (anE p a c) = dp at HD ⊢
 clear hv hp HL y1 y2
 go_enter Tryz.func12, Tryz.ntmps12
 go_wp2_with (first | ((with_reducible (show wpList _ _ _ (⟨_, Op.load 28 _, _, _, _, _⟩ :: _) _ _)); refine wp_ldWg (by rfl) _ rfl _ rfl V RG.out ?_))
 generalize World.alloc _ _ = W0 at *
 refine HD.out.mono ?_
 rintro q w1 ⟨X, rfl, hF, hb⟩
 have T1 := hid (there_belowO TR.out hb)
 have one := hid (world_one hF.v0)
 have RX := hid (World.rangeAt_setCells_same w1 (w.heap.size + 3) 0 (arr11 X).toList T1.out)
 have BX := hid (below_setCells (btr B0.out hb) (show w.heap.size ≤ w.heap.size + 3 by omega) (arr11 X).toList 0)
 have WX := hid ((hF.put (w.heap.size + 3) 0 (arr11 X).toList (by rw [SZ.out]; omega)).mono (show w.heap.size ≤ _ by rw [SZ.out]; omega))
 clear hF hb HD
 go_wp2_with (first | ((with_reducible (show wpList _ _ _ (⟨_, Op.store 28 _ _, _, _, _, _⟩ :: _) _ _)); refine wpList_store_mid rfl 28 _ _ rfl (w.heap.size + 3) 0 (arr11 X) rfl rfl T1.out infoW one.out ?_))
 exact bodyPost_ret (v := .tuple #[.agg (arr11 X), eV de]) (results_d2 rfl rfl (run_loadVar_mid _ (w.heap.size + 3) 0 28 (arr11 X).toList _ RX.out Tryz.underlying28 rfl infoW) rfl) rfl ⟨X, rfl, WX.out, BX.out⟩
end Go.Proofs.YtakmaeohhclngaaGreatDoor.Wd
