/- Taking a word at a door, and answering: plain; what mail.Take and mail.Answer do, and what the document asks of them; keyholdlaw.MailTakes; walked. (Written by mk_take.py, mk_tklaw.py.) -/
import Derived.Test.YtjjhodfekmpelaaGreatDoorGLvMore
import Derived.Test.YtjjhodfekmpelaaGreatDoorGRfM2
import Derived.Test.YtjjhodfekmpelaaGreatDoorMlSn0
import Derived.Deep.RegionHeld3
import Derived.BigQuiet
import Derived.Test.YtjjhodfekmpelaaGreatDoorDdDid
namespace Go.Proofs.YtjjhodfekmpelaaGreatDoor.Wd
open Go.RowKit Go.Proofs.YtjjhodfekmpelaaGreatDoor.Mem Go.Proofs.YtjjhodfekmpelaaGreatDoor.Bw Go.Proofs.YtjjhodfekmpelaaGreatDoor.Nums Go.Proofs.YtjjhodfekmpelaaGreatDoor.Mmu
theorem task_els2 (p : PW) (t u i j : Nat) (x y : Int) (h : t ≠ u) : (p.task t i x).task u j y = (p.task u j y).task t i x := by
 have e1 := task_els p u t i x h
 have e2 := task_els p t u j y (Ne.symm h)
 show ({ p with tasks := (p.task t i x).tasks.set u (upd ((p.task t i x).tasks.getD u bl) j y) } : PW) = { p with tasks := (p.task u j y).tasks.set t (upd ((p.task u j y).tasks.getD t bl) i x) }
 rw [e1, e2]
 unfold PW.task
 simp only
 rw [List.set_comm _ _ h]
theorem pl_door {s : Int} (h : pl s = 7) : s = 2 ∨ s = 3 ∨ s = 4 := by
 unfold pl at h
 by_cases h1 : s = 2 ∨ s = 3 ∨ s = 4
 ·exact h1
 ·rw [if_neg h1] at h
  by_cases h2 : s = 6
  ·rw [if_pos h2] at h; omega
  ·rw [if_neg h2] at h; omega
theorem in_two (x : Int) : inB x [2, 3] = (decide (x = 2) || decide (x = 3)) := by
 unfold inB cn sumOf one
 by_cases h : x = 2
 ·simp [h]
 ·by_cases h3 : x = 3
  ·simp [h3]
  ·simp [h, h3, Ne.symm h, Ne.symm h3]
/-- Who stands first at a door with a word. -/
def fkV (p : PW) (d : Nat) : Int := match p.lines.getD d [] with
 | [] => -1
 | z :: _ => if p.tasks.getD z.toNat bl 9 = 4 then -1 else z
theorem fk_at {p : PW} {d u : Nat} {l : List Int} (hz : p.lines.getD d [] = (u : Int) :: l) : fkV p d = if p.tasks.getD u bl 9 = 4 then -1 else (u : Int) := by
 unfold fkV
 rw [hz]
 rfl
theorem door_state {p : PW} (h : Snd p) {d u : Nat} (hd : d < p.kinds.length) (hkd : p.kinds[d] = 7) (hu : u < p.kinds.length) (hk : p.kinds[u] = 6) (hat : p.tasks.getD u bl 14 = d) : p.tasks.getD u bl 9 = 2 ∨ p.tasks.getD u bl 9 = 3 ∨ p.tasks.getD u bl 9 = 4 := by
 obtain ⟨h1, _⟩ := stands_at h hu hk hat
 have h2 := isB_at hd h1
 exact pl_door (by rw [← h2]; exact hkd)
theorem fk_cases {p : PW} (h : Snd p) {d : Nat} (hd : d < p.kinds.length) (hkd : p.kinds[d] = 7) : (fkV p d = -1) ∨ (∃ (u : Nat) (l : List Int) (hu : u < p.kinds.length), fkV p d = u ∧ p.lines.getD d [] = (u : Int) :: l ∧ p.kinds[u] = 6 ∧ p.tasks.getD u bl 14 = d ∧ (p.tasks.getD u bl 9 = 2 ∨ p.tasks.getD u bl 9 = 3)) := by
 cases hz : p.lines.getD d [] with
 | nil => left; unfold fkV; rw [hz]
 | cons z l =>
  obtain ⟨u, hu, rfl, hk, hat⟩ := line_first h (by rw [h.lf.lines]; exact hd) hz
  have e := fk_at hz
  by_cases h4 : p.tasks.getD u bl 9 = 4
  ·left; rw [e, if_pos h4]
  ·right
   rw [if_neg h4] at e
   rcases door_state h hd hkd hu hk hat with h5 | h5 | h5
   ·exact ⟨u, l, hu, e, rfl, hk, hat, .inl h5⟩
   ·exact ⟨u, l, hu, e, rfl, hk, hat, .inr h5⟩
   ·exact absurd h5 h4
/-- A word is taken from u, who stood first at d: what both ways have then. -/
def tkQ (p : PW) (d t u : Nat) (l : List Int) : PW := ((((({ p with lines := p.lines.set d l } : PW).task t 1 (p.tasks.getD u bl 16)).task t 2 (p.tasks.getD u bl 15)).task u 16 0).task u 15 0).task u 14 (-1)
theorem tkQ_ref (p : PW) (d t u : Nat) (l : List Int) (hne : t ≠ u) (hu : u < p.tasks.length) : ((((frP p d u l).task t 1 (p.tasks.getD u bl 16)).task t 2 (p.tasks.getD u bl 15)).task u 16 0).task u 15 0 = tkQ p d t u l := by
 unfold tkQ frP
 have hu2 : u < (({ p with lines := p.lines.set d l } : PW)).tasks.length := hu
 rw [task_els2 _ u t 14 1 _ _ (Ne.symm hne), task_els2 _ u t 14 2 _ _ (Ne.symm hne), task_comm _ u 14 16 _ _ (by rw [PW.task_len, PW.task_len]; exact hu2) (by decide), task_comm _ u 14 15 _ _ (by rw [PW.task_len, PW.task_len, PW.task_len]; exact hu2) (by decide)]
/-- The same, before the program's one leaves where it stood. -/
def tkU (p : PW) (t u : Nat) : PW := (((p.task t 1 (p.tasks.getD u bl 16)).task t 2 (p.tasks.getD u bl 15)).task u 16 0).task u 15 0
theorem tkU_len (p : PW) (t u : Nat) : (tkU p t u).tasks.length = p.tasks.length := by
 unfold tkU
 rw [PW.task_len, PW.task_len, PW.task_len, PW.task_len]
theorem tkQ_len (p : PW) (d t u : Nat) (l : List Int) : (tkQ p d t u l).tasks.length = p.tasks.length := by
 unfold tkQ
 rw [PW.task_len, PW.task_len, PW.task_len, PW.task_len, PW.task_len]
theorem tkU_at (p : PW) (t u k : Nat) (hne : t ≠ u) (hu : u < p.tasks.length) (h1 : k ≠ 15) (h2 : k ≠ 16) : (tkU p t u).tasks.getD u bl k = p.tasks.getD u bl k := by
 unfold tkU
 rw [task_at _ u 15 k _ (by rw [PW.task_len, PW.task_len, PW.task_len]; exact hu) h1, task_at _ u 16 k _ (by rw [PW.task_len, PW.task_len]; exact hu) h2, task_els _ u t 2 _ hne, task_els _ u t 1 _ hne]
theorem tkQ_at (p : PW) (d t u k : Nat) (l : List Int) (hne : t ≠ u) (hu : u < p.tasks.length) (h1 : k ≠ 15) (h2 : k ≠ 16) (h3 : k ≠ 14) : (tkQ p d t u l).tasks.getD u bl k = p.tasks.getD u bl k := by
 have h := task_at (tkU p t u) u 14 k (-1) (by rw [tkU_len]; exact hu) h3
 rw [tkU_at p t u k hne hu h1 h2] at h
 exact h
theorem tk_leave {p : PW} (h : Snd p) {d t u : Nat} {l : List Int} (hd : d < p.lines.length) (hz : p.lines.getD d [] = (u : Int) :: l) (hu : u < p.kinds.length) (hk : p.kinds[u] = 6) (hat : p.tasks.getD u bl 14 = d) : lvP (tkU p t u) u = tkQ p d t u l ∧ (∀ n, wkP (tkU p t u) u n = wnP (tkQ p d t u l) u n) := by
 have hl : u < p.tasks.length := by rw [h.lf.tasks]; exact hu
 obtain ⟨_, h1, h2, h3, _⟩ := stands_at h hu hk hat
 have e : p.lines[d]? = some ((u : Int) :: l) := by
  rw [List.getD_eq_getElem?_getD, List.getElem?_eq_getElem hd, Option.getD_some] at hz
  rw [List.getElem?_eq_getElem hd, hz]
 have h4 := lvs_first h1 e
 refine ⟨?_, fun n => ?_⟩
 ·show ({ (tkU p t u).task u 14 (-1) with lines := lvs u p.lines, ready := lvs u p.ready, cores := p.cores.map (noT u) } : PW) = _
  rw [h2, h3, h4]
  rfl
 ·rw [wk_all _ u n (by rw [tkU_len]; exact hl)]
  show wnP { tkU p t u with lines := lvs u p.lines, ready := lvs u p.ready, cores := p.cores.map (noT u) } u n = _
  rw [h2, h3, h4]
  exact (wn14 ({ tkU p t u with lines := p.lines.set d l } : PW) u n (-1) (by rw [show ({ tkU p t u with lines := p.lines.set d l } : PW).tasks.length = (tkU p t u).tasks.length from rfl, tkU_len]; exact hl)).symm
/-- Taking. -/
def tkP (p : PW) (t0 d0 : Int) : PW := if fkV p d0.toNat = -1 then ssP p t0.toNat d0.toNat 4
 else (if p.tasks.getD (fkV p d0.toNat).toNat bl 9 = 3 then ((tkQ p d0.toNat t0.toNat (fkV p d0.toNat).toNat (p.lines.getD d0.toNat []).tail).task (fkV p d0.toNat).toNat 9 5).task t0.toNat 17 (fkV p d0.toNat) else wnP (tkQ p d0.toNat t0.toNat (fkV p d0.toNat).toNat (p.lines.getD d0.toNat []).tail) (fkV p d0.toNat).toNat (rdN p (fkV p d0.toNat).toNat))
def tkE (p : PW) (t0 d0 : Int) : Int := if mtE p t0 d0 7 = 0 then (if p.tasks.getD t0.toNat bl 17 = -1 then 0 else 7) else mtE p t0 d0 7
theorem tkP_no {p : PW} {t d : Nat} (h : fkV p d = -1) : tkP p t d = ssP p t d 4 := by
 unfold tkP
 rw [Int.toNat_natCast, Int.toNat_natCast, if_pos h]
theorem tkP_yes {p : PW} {t d u : Nat} {l : List Int} (h : fkV p d = u) (hz : p.lines.getD d [] = (u : Int) :: l) : tkP p t d = if p.tasks.getD u bl 9 = 3 then ((tkQ p d t u l).task u 9 5).task t 17 u else wnP (tkQ p d t u l) u (rdN p u) := by
 unfold tkP
 rw [Int.toNat_natCast, Int.toNat_natCast, h, if_neg (by omega), Int.toNat_natCast, hz]
 rfl
theorem tkQ_fits {p : PW} (h : p.Fits) (d t u : Nat) (l : List Int) (hl : l.length ≤ 1000) : (tkQ p d t u l).Fits := by
 unfold tkQ
 exact tsk_fits (tsk_fits (tsk_fits (tsk_fits (tsk_fits (show ({ p with lines := p.lines.set d l } : PW).Fits from ⟨h.ram, h.kinds, h.slots, h.tasks, (fr_fits h d u l hl).lines, (fr_fits h d u l hl).line, h.bits, h.cores, h.ready, h.next, h.tlbs, h.doms⟩) t 1 _) t 2 _) u 16 0) u 15 0) u 14 (-1)
theorem tkU_fits {p : PW} (h : p.Fits) (t u : Nat) : (tkU p t u).Fits := tsk_fits (tsk_fits (tsk_fits (tsk_fits h t 1 _) t 2 _) u 16 0) u 15 0
theorem tk_fits {p : PW} (h : p.Fits) (hs : ∀ l ∈ p.ready, l.length ≤ 50) (hl : ∀ l ∈ p.lines, l.length ≤ 50) (t0 d0 : Int) : (tkP p t0 d0).Fits := by
 have h1 : (tkQ p d0.toNat t0.toNat (fkV p d0.toNat).toNat (p.lines.getD d0.toNat []).tail).Fits := tkQ_fits h _ _ _ _ (by
  rw [List.length_tail, List.getD_eq_getElem?_getD]
  cases e : p.lines[d0.toNat]? with
  | none => simp
  | some y =>
   have := hl y (List.mem_of_getElem? e)
   rw [Option.getD_some]
   omega)
 unfold tkP
 split
 ·exact ss_fits h hl _ _ _
 ·split
  ·exact tsk_fits (tsk_fits h1 _ 9 5) _ 17 _
  ·exact wn_fits h1 hs _ _
theorem tk_tlbs (p : PW) (t0 d0 : Int) : (tkP p t0 d0).tlbs = p.tlbs := by
 unfold tkP
 split
 ·rfl
 ·split <;> rfl
/-- Answering. -/
def anP (p : PW) (t0 v : Int) : PW := wnP (((p.task t0.toNat 17 (-1)).task (p.tasks.getD t0.toNat bl 17).toNat 1 0).task (p.tasks.getD t0.toNat bl 17).toNat 2 v) (p.tasks.getD t0.toNat bl 17).toNat (rdN p (p.tasks.getD t0.toNat bl 17).toNat)
def anE (p : PW) (t0 v : Int) : Int := if mtE p t0 t0 6 = 0 then (if wB v = true then (if p.tasks.getD t0.toNat bl 17 = -1 then 6 else 0) else 1) else mtE p t0 t0 6
theorem mt_self (p : PW) (t : Int) : mtE p t t 6 = if thE p t 6 = 0 then (if inB t p.cores = true then 0 else 7) else thE p t 6 := by
 unfold mtE thE
 cases frB p t <;> cases isB p t 6 <;> simp
theorem anP_at {p : PW} {t u : Nat} (v : Int) (h : p.tasks.getD t bl 17 = u) : anP p t v = wnP (((p.task t 17 (-1)).task u 1 0).task u 2 v) u (rdN p u) := by
 unfold anP
 rw [Int.toNat_natCast, h, Int.toNat_natCast]
theorem an_fits {p : PW} (h : p.Fits) (hs : ∀ l ∈ p.ready, l.length ≤ 50) (t0 v : Int) : (anP p t0 v).Fits := wn_fits (tsk_fits (tsk_fits (tsk_fits h _ 17 (-1)) _ 1 0) _ 2 v) hs _ _
theorem an_tlbs (p : PW) (t0 v : Int) : (anP p t0 v).tlbs = p.tlbs := rfl
/-- Who owes, owes a task that asks: it stands nowhere. -/
theorem owed_in {p : PW} (h : Snd p) {t : Nat} (ht : t < p.kinds.length) (hk : p.kinds[t] = 6) (h0 : p.tasks.getD t bl 17 ≠ -1) : ∃ (u : Nat) (hu : u < p.kinds.length), p.tasks.getD t bl 17 = u ∧ p.kinds[u] = 6 ∧ p.tasks.getD u bl 9 = 5 ∧ lvs u p.lines = p.lines ∧ lvs u p.ready = p.ready ∧ p.cores.map (noT u) = p.cores := by
 obtain ⟨_, hf, hd, _, _⟩ := snd_task h ht hk
 unfold ffB at hf
 rw [Bool.and_eq_true] at hf
 have h1 := hf.2
 unfold isOrB at h1
 have h2 : (p.tasks.getD t bl 17 == -1) = false := by simpa using h0
 rw [h2, Bool.false_or] at h1
 generalize e : p.tasks.getD t bl 17 = z at *
 obtain ⟨u, hu, rfl, hku⟩ : ∃ (u : Nat) (hu : u < p.kinds.length), z = u ∧ p.kinds[u] = 6 := by
  unfold isB kindAt at h1
  by_cases hz : 0 ≤ z
  ·rw [if_pos hz] at h1
   obtain ⟨u, rfl⟩ : ∃ u : Nat, z = u := ⟨z.toNat, by omega⟩
   rw [Int.toNat_natCast] at h1
   obtain ⟨hu, h6⟩ := List.getElem?_eq_some_iff.1 (eq_of_beq h1)
   exact ⟨u, hu, rfl, h6⟩
  ·rw [if_neg hz] at h1
   cases h1
 unfold dbB at hd
 rw [Bool.and_eq_true] at hd
 have h3 := hd.1
 unfold owB at h3
 rw [e, h2, Bool.false_or, Bool.and_eq_true] at h3
 have hul : u < p.tasks.length := by rw [h.lf.tasks]; exact hu
 have h4 := eq_of_beq h3.1
 rw [stV_at hul] at h4
 have h5 : p.tasks.getD u bl 9 = 5 := by rw [List.getD_eq_getElem?_getD, List.getElem?_eq_getElem hul]; exact h4
 obtain ⟨_, _, _, hs, hr⟩ := snd_task h hu hku
 unfold srB at hs
 rw [h5, if_pos (by decide), Bool.and_eq_true] at hs
 unfold rrB at hr
 rw [h5, if_neg (by decide)] at hr
 have h6 := eq_of_beq hs.2
 have h7 := eq_of_beq hr
 exact ⟨u, hu, rfl, hku, h5, lvs_self (by omega), lvs_self (by omega), noT_self (by omega)⟩
theorem an_eq {p : PW} {t u : Nat} (v : Int) (hne : t ≠ u) (hu : u < p.tasks.length) (h4 : lvs u p.lines = p.lines) (h7 : lvs u p.ready = p.ready) (h6 : p.cores.map (noT u) = p.cores) (n : Nat) :
  (wkP ((p.task u 1 0).task u 2 v) u n).task t 17 (-1) = wnP (((p.task t 17 (-1)).task u 1 0).task u 2 v) u n := by
 rw [wk_all _ u n (by rw [PW.task_len, PW.task_len]; exact hu)]
 show (wnP { (p.task u 1 0).task u 2 v with lines := lvs u p.lines, ready := lvs u p.ready, cores := p.cores.map (noT u) } u n).task t 17 (-1) = _
 rw [h4, h7, h6]
 show (wnP ((p.task u 1 0).task u 2 v) u n).task t 17 (-1) = _
 have e := task_els2 ((((p.task u 1 0).task u 2 v).task u 9 1)) u t 14 17 (-1) (-1) (Ne.symm hne)
 have e2 := task_els2 (((p.task u 1 0).task u 2 v)) u t 9 17 1 (-1) (Ne.symm hne)
 have e3 := task_els2 ((p.task u 1 0)) u t 2 17 v (-1) (Ne.symm hne)
 have e4 := task_els2 p u t 1 17 0 (-1) (Ne.symm hne)
 rw [e2, e3, e4] at e
 unfold wnP
 show ({ ((((p.task u 1 0).task u 2 v).task u 9 1).task u 14 (-1)).task t 17 (-1) with ready := _ } : PW) = _
 rw [e]
 rfl
theorem first_take (wb : Nat) (tag : Nat → Nat) (V : Nat → Value) (p : PW) (d : Nat) (sv : Value) (W : World) (bt : BoxT W wb tag V p) (hp : p.Fits) (hs : Snd p) (hd : d < p.kinds.length) (hkd : p.kinds[d] = 7) (hsv : IntsIn W sv [2, 3]) :
  Calls Tryz.prog 83 #[.pointer (some ⟨wb, 0, none⟩), .int .i64 d, sv] W fun r W' => r = .returned (.int .i64 (fkV p d)) ∧ Below W.heap.size W W' := by
 have hdl : d < p.lines.length := by rw [hs.lf.lines]; exact hd
 cases hz : p.lines.getD d [] with
 | nil =>
  have e : fkV p d = -1 := by unfold fkV; rw [hz]
  rw [e]
  exact first_nil wb tag V p d sv W bt hp hdl hz
 | cons z l =>
  obtain ⟨u, hu, rfl, hk, hat⟩ := line_first hs hdl hz
  have e : fkV p d = if inB (p.tasks.getD u bl 9) [2, 3] = true then (u : Int) else -1 := by
   rw [fk_at hz, in_two]
   rcases door_state hs hd hkd hu hk hat with h5 | h5 | h5 <;> rw [h5] <;> rfl
  rw [e]
  exact first_list wb tag V p d u l sv [2, 3] W bt hp hdl hz (by rw [hs.lf.tasks]; exact hu) hsv (by simp)
set_option maxRecDepth 100000 in
set_option maxHeartbeats 4000000 in
theorem take_deed (c1 c2 : Nat) (t0 d0 : Int) (p : PW) (hp : p.Fits) (hl : ∀ l ∈ p.tlbs, l.length ≤ 100) (hs : Snd p) : DeedT 92 #[ptr c1, ptr c2] (CapsT [(c1, .int .i64 t0), (c2, .int .i64 d0)]) eV p (tkP p t0 d0) (tkE p t0 d0) := by
 intro W wb tag V bt hc
 have x1 := (hc (c1, .int .i64 t0) (by simp)).1
 have x2 := (hc (c2, .int .i64 d0) (by simp)).1
 have HC := hid hc
 have HT := hid (meet_any wb tag V p t0 d0 7 W bt hp hl hs)
 have B0 := hid bt
 unfold ptr
 simp only [List.append_toArray, List.cons_append, List.nil_append]
 by_cases h0 : mtE p t0 d0 7 = 0
 rotate_left
 ·have HE := hid (show tkE p t0 d0 = mtE p t0 d0 7 from if_neg h0)
  rw [HE.out]
  rw [eV_n h0] at HT ⊢
  have HN := hid h0
  generalize mtE p t0 d0 7 = x at HT HN ⊢
  clear h0 bt hp hl hs hc HE
  go_enter Tryz.func92, Tryz.ntmps92
  go_wp2_with fail
  refine HT.out.mono ?_
  rintro q w1 ⟨rfl, hb⟩
  have K1 := hid (show Kt tag tag W w1 from .below hb)
  clear hb x1 x2 HT B0
  go_wp2_with fail
  go_ret
  exact ⟨rfl, tag, K1.out, fun h => absurd h HN.out⟩
 have hE0 : tkE p t0 d0 = if p.tasks.getD t0.toNat bl 17 = -1 then 0 else 7 := if_pos h0
 obtain ⟨t, d, ht, hd, rfl, rfl, hk, hkd, hin⟩ := mt_in h0
 rw [Int.toNat_natCast] at hE0
 rw [h0, eV_0] at HT
 have htl : t < p.tasks.length := by rw [hs.lf.tasks]; exact ht
 have hdl : d < p.lines.length := by rw [hs.lf.lines]; exact hd
 obtain ⟨e4, e7, e9⟩ := core_in hs ht hk hin
 have hl3 : (p.tasks.length : Int) ≤ 1000 := by have := hp.tasks; omega
 have ht2 : (t : Int) < (p.tasks.length : Int) := by omega
 obtain ⟨g3, cap3, e3⟩ := bt.o.tasks.form (by omega)
 have E3 := hid e3
 have HTT := hid htl
 have K17 := hid (fun X (h : BoxT X wb tag V p) => h.taskAt e3 htl (show 17 < 20 by omega))
 by_cases h17 : p.tasks.getD t bl 17 = -1
 rotate_left
 ·rw [hE0, if_neg h17]
  generalize p.tasks.getD t bl 17 = y at K17 h17
  have hyb : (y == -1) = false := by simpa using h17
  clear h0 bt hp hl hs hc hE0 hk hkd hin htl hdl e4 e7 e9 e3 ht hd
  go_enter Tryz.func92, Tryz.ntmps92
  go_wp2_with fail
  refine HT.out.mono ?_
  rintro q w1 ⟨rfl, hb⟩
  have B1 := hid (B0.out.below hb)
  have K1 := hid (show Kt tag tag W w1 from .below hb)
  clear hb x1 x2 HT B0
  have z1 := (HC.out.kt K1.out (c1, .int .i64 t) (by simp)).1
  have c3 : w1.cell? ⟨wb, 3, none⟩ = some (.slice (some ⟨g3, 0, none⟩) p.tasks.length cap3) := by rw [range_cell B1.out.r (k := 3) rfl, E3.out]
  have xa := K17.out _ B1.out
  go_upto_region 4 with fail
  go_quiet (fail)
  have K2 := hid (K1.out.trans (.below (below_drewN (Below.refl w1.heap.size w1) nq)))
  generalize World.drewN _ _ = Y at *
  go_wp2_with fail
  go_ret
  exact ⟨rfl, tag, K2.out, fun h => by cases h⟩
 rw [hE0, if_pos h17, eV_0]
 rw [h17] at K17
 have HF := hid (fun X (h : BoxT X wb tag V p) => first_take wb tag V p d (.slice (some ⟨X.heap.size, 0, none⟩) 2 2) (X.alloc (.cells #[.int .i64 2, .int .i64 3] 3)) (h.below (bal (Below.refl X.heap.size X) (.cells #[.int .i64 2, .int .i64 3] 3))) hp hs hd hkd ⟨some ⟨X.heap.size, 0, none⟩, X.heap.size, 0, 2, rfl, fun _ => rfl, fun j hj => by
  have hj2 : j < 2 := by simpa using hj
  rw [cells_new X #[.int .i64 2, .int .i64 3] 3 (0 + j)]
  rcases (show j = 0 ∨ j = 1 by omega) with rfl | rfl <;> rfl⟩)
 rcases fk_cases hs hd hkd with hfs | ⟨u, l, hu, hfs, hz, hku, hat, h23⟩
 ·have HR := hid (show tkP p t d = sdP p t d 4 by rw [tkP_no hfs, stand_eq2 (q := p) htl e4 e7])
  have HSM := hid (fun X (h : BoxT X wb tag V p) => standM_any wb tag V p t d 4 X h hp htl hdl)
  simp only [hfs] at HF
  clear h0 bt hp hl hs hc hE0 hk hkd hin htl hdl e4 e7 e9 e3 ht hd h17 hfs
  go_enter Tryz.func92, Tryz.ntmps92
  go_wp2_with fail
  refine HT.out.mono ?_
  rintro q w1 ⟨rfl, hb⟩
  have B1 := hid (B0.out.below hb)
  have K1 := hid (show Kt tag tag W w1 from .below hb)
  clear hb x1 x2 HT B0
  have z1 := (HC.out.kt K1.out (c1, .int .i64 t) (by simp)).1
  have c3 : w1.cell? ⟨wb, 3, none⟩ = some (.slice (some ⟨g3, 0, none⟩) p.tasks.length cap3) := by rw [range_cell B1.out.r (k := 3) rfl, E3.out]
  have xa := K17.out _ B1.out
  go_upto_region 4 with fail
  go_quiet (fail)
  have B2 := hid (B1.out.below (below_drewN (Below.refl w1.heap.size w1) nq))
  have K2 := hid (K1.out.trans (.below (below_drewN (Below.refl w1.heap.size w1) nq)))
  clear z1 c3 xa B1 K1
  generalize World.drewN _ _ = Y1 at *
  have z2 := (HC.out.kt K2.out (c2, .int .i64 d) (by simp)).1
  go_wp2_with fail
  refine (HF.out _ B2.out).mono ?_
  rintro q Y ⟨rfl, hb⟩
  have BY := hid (B2.out.below (btr (bal (Below.refl Y1.heap.size Y1) (.cells #[.int .i64 2, .int .i64 3] 3)) hb))
  have KY := hid (K2.out.trans (.below (btr (bal (Below.refl Y1.heap.size Y1) (.cells #[.int .i64 2, .int .i64 3] 3)) hb)))
  clear hb HF z2 B2 K2
  have z1 := (HC.out.kt KY.out (c1, .int .i64 t) (by simp)).1
  have z2 := (HC.out.kt KY.out (c2, .int .i64 d) (by simp)).1
  go_wp2_with fail
  refine (HSM.out _ BY.out).mono ?_
  rintro q w5 ⟨rfl, tg5, h5, k5⟩
  have B5 := hid h5
  have K5 := hid (KY.out.trans k5)
  clear h5 k5
  go_wp2_with fail
  go_ret
  exact ⟨rfl, tg5, K5.out, fun _ => ⟨V, by rw [HR.out]; exact B5.out⟩⟩
 ·have htu : u < p.tasks.length := by rw [hs.lf.tasks]; exact hu
  have hne : t ≠ u := by
   rintro rfl
   omega
  simp only [hfs] at HF
  obtain ⟨r1, r2, r3, r4⟩ := rdN_eq hs hu hku
  obtain ⟨hlv, hwk⟩ := tk_leave hs (t := t) hdl hz hu hku hat
  have HR := hid (tkP_yes (t := t) hfs hz)
  have LU := hid (tkU_len p t u)
  have L16 : (tkU p t u).tasks.getD u bl 18 = p.tasks.getD u bl 18 := tkU_at p t u 18 hne htu (by decide) (by decide)
  have L10 : (tkU p t u).tasks.getD u bl 10 = p.tasks.getD u bl 10 := tkU_at p t u 10 hne htu (by decide) (by decide)
  have L9 := hid (tkU_at p t u 9 hne htu (by decide) (by decide))
  have HA := hid (fun X (h : BoxT X wb tag V (tkU p t u)) => ask_any wb tag V (tkU p t u) u t X h (tkU_fits hp t u) (by rw [tkU_len]; exact htu) (by rw [tkU_len]; exact htl))
  rw [hlv] at HA
  have HW := hid (fun X (h : BoxT X wb tag V (tkU p t u)) => wake_any wb tag V (tkU p t u) u (rdN p u) X h (tkU_fits hp t u) (by rw [tkU_len]; exact htu) r1 (by rw [L16]; exact r3) (by rw [L10]; exact r4) (by rw [L16, L10]; exact r2))
  rw [hwk] at HW
  have HU := hid htu
  have hu2 : (u : Int) < (p.tasks.length : Int) := by omega
  obtain ⟨g, hg⟩ : ∃ g, p.tasks.getD u bl 16 = g := ⟨_, rfl⟩
  obtain ⟨v, hv⟩ : ∃ v, p.tasks.getD u bl 15 = v := ⟨_, rfl⟩
  have HG := hid hg
  have HV := hid hv
  have HQ := hid (show ((((p.task t 1 g).task t 2 v).task u 16 0).task u 15 0) = tkU p t u by unfold tkU; rw [hg, hv])
  have H15 := hid (show ((p.task t 1 g).task t 2 v).tasks.getD u bl 15 = v by rw [task_els _ u t 2 _ hne, task_els _ u t 1 _ hne]; exact hv)
  have H16 := hid (show ((p.task t 1 g).task t 2 v).tasks.getD u bl 16 = g by rw [task_els _ u t 2 _ hne, task_els _ u t 1 _ hne]; exact hg)
  have LH := hid (show ((p.task t 1 g).task t 2 v).tasks.length = p.tasks.length by rw [PW.task_len, PW.task_len])
  have HH := hid (fun X (h : BoxT X wb tag V p) => handM_any wb tag V p t g v X h hp htl)
  have KS := hid (fun X q (h : BoxT X wb tag V q) (k : Kt tag tag W X) (hq : q.tasks.length = p.tasks.length) (h15 : q.tasks.getD u bl 15 = v) (h16 : q.tasks.getD u bl 16 = g) => show X.cell? ⟨c1, 0, none⟩ = some (.int .i64 t) ∧ X.cell? ⟨g3, u * 20 + 16, none⟩ = some (.int .i64 g) ∧ X.cell? ⟨g3, u * 20 + 15, none⟩ = some (.int .i64 v) from ⟨(hc.kt k (c1, .int .i64 t) (by simp)).1, by have h1 := h.taskAt (show V 3 = .slice (some ⟨g3, 0, none⟩) q.tasks.length cap3 by rw [hq]; exact e3) (i := u) (by rw [hq]; exact htu) (show 16 < 20 by omega); rw [h16] at h1; exact h1, by have h1 := h.taskAt (show V 3 = .slice (some ⟨g3, 0, none⟩) q.tasks.length cap3 by rw [hq]; exact e3) (i := u) (by rw [hq]; exact htu) (show 15 < 20 by omega); rw [h15] at h1; exact h1⟩)
  have ht0 : ¬ ((u : Int) = -1) := by omega
  have ht1 : ((u : Int) == -1) = false := by simp
  have H23 := hid h23
  clear h0 bt hp hl hs hc hE0 hk hkd hin htl hdl e4 e7 e9 e3 ht hd h17 hfs hz hku hat hu htu hne r1 r2 r3 r4 hlv hwk L16 L10 hg hv h23
  go_enter Tryz.func92, Tryz.ntmps92
  go_wp2_with fail
  refine HT.out.mono ?_
  rintro q w1 ⟨rfl, hb⟩
  have B1 := hid (B0.out.below hb)
  have K1 := hid (show Kt tag tag W w1 from .below hb)
  clear hb x1 x2 HT B0
  have z1 := (HC.out.kt K1.out (c1, .int .i64 t) (by simp)).1
  have c3 : w1.cell? ⟨wb, 3, none⟩ = some (.slice (some ⟨g3, 0, none⟩) p.tasks.length cap3) := by rw [range_cell B1.out.r (k := 3) rfl, E3.out]
  have xa := K17.out _ B1.out
  go_upto_region 4 with fail
  go_quiet (fail)
  have B2 := hid (B1.out.below (below_drewN (Below.refl w1.heap.size w1) nq))
  have K2 := hid (K1.out.trans (.below (below_drewN (Below.refl w1.heap.size w1) nq)))
  clear z1 c3 xa B1 K1
  generalize World.drewN _ _ = Y1 at *
  have z2 := (HC.out.kt K2.out (c2, .int .i64 d) (by simp)).1
  go_wp2_with fail
  refine (HF.out _ B2.out).mono ?_
  rintro q Y ⟨rfl, hb⟩
  have BY := hid (B2.out.below (btr (bal (Below.refl Y1.heap.size Y1) (.cells #[.int .i64 2, .int .i64 3] 3)) hb))
  have KY := hid (K2.out.trans (.below (btr (bal (Below.refl Y1.heap.size Y1) (.cells #[.int .i64 2, .int .i64 3] 3)) hb)))
  clear hb HF z2 B2 K2
  have c3 : Y.cell? ⟨wb, 3, none⟩ = some (.slice (some ⟨g3, 0, none⟩) p.tasks.length cap3) := by rw [range_cell BY.out.r (k := 3) rfl, E3.out]
  go_upto_region 11 with fail
  clear c3
  have BD : Hid (BoxT Y.drew wb tag V p) := hid (BY.out.below (below_drew Y 1))
  have KD : Hid (Kt tag tag W Y.drew) := hid (KY.out.trans (.below (below_drew Y 1)))
  refine wp_region_held_drew (S := fun X => X.cell? ⟨c1, 0, none⟩ = some (.int .i64 t) ∧ X.cell? ⟨g3, u * 20 + 16, none⟩ = some (.int .i64 g) ∧ X.cell? ⟨g3, u * 20 + 15, none⟩ = some (.int .i64 v)) (by kernel_rfl) (KS.out _ _ BD.out KD.out rfl HV.out HG.out) (fun hH0 => ?_)
  have hH := hid hH0
  clear hH0
  refine tk 0 (.pointer (some ⟨wb, 0, none⟩)) rfl hH.out ?_
  simp only [jj]
  refine Mem.tg 1 (.int .i64 t) rfl (Or.inl ⟨by rfl, fun W h => by have h3 := h.1; clear h; go_simp⟩) hH.out ?_
  simp only [jj]
  refine tk 2 (.pointer (some ⟨g3, u * 20, none⟩)) rfl hH.out ?_
  simp only [jj]
  refine tk 3 (.pointer (some ⟨g3, u * 20, none⟩)) rfl hH.out ?_
  simp only [jj]
  refine tk 4 (.pointer (some ⟨g3, u * 20 + 16, none⟩)) rfl hH.out ?_
  simp only [jj]
  refine Mem.tg 5 (.int .i64 g) rfl (Or.inl ⟨by rfl, fun W h => by have h3 := h.2.1; clear h; go_simp⟩) hH.out ?_
  simp only [jj]
  refine tk 6 (.pointer (some ⟨g3, u * 20, none⟩)) rfl hH.out ?_
  simp only [jj]
  refine tk 7 (.pointer (some ⟨g3, u * 20, none⟩)) rfl hH.out ?_
  simp only [jj]
  refine tk 8 (.pointer (some ⟨g3, u * 20 + 15, none⟩)) rfl hH.out ?_
  simp only [jj]
  refine Mem.tg 9 (.int .i64 v) rfl (Or.inl ⟨by rfl, fun W h => by have h3 := h.2.2; clear h; go_simp⟩) hH.out ?_
  simp only [jj]
  refine wpAnyH_ready (rs := [10]) (by kernel_rfl) (by simp) (AllReadyH.cons rfl (fun K hK => ?_) AllReadyH.nil)
  go_simp
  refine (HH.out _ BD.out).mono ?_
  rintro q w2 ⟨rfl, h1, h2⟩
  have B2 := hid h1
  have K2 := hid (KD.out.trans h2)
  clear h1 h2
  go_wp2_with fail
  refine hK.out _ _ (KS.out _ _ B2.out K2.out LH.out H15.out H16.out) (fun hH0 => ?_)
  have hH2 := hid hH0
  clear hK K hH0
  try simp only [Act.put, jD, jE, jF]
  refine wpAnyH_done (by kernel_rfl) ?_ _
  clear hH hH2 KS HH BD KD BY KY HV HG H15 H16
  have e4 := hid (show V 3 = .slice (some ⟨g3, 0, none⟩) ((p.task t 1 g).task t 2 v).tasks.length cap3 by rw [LH.out]; exact E3.out)
  have xa := B2.out.taskAt e4.out (i := u) (by rw [LH.out]; exact HU.out) (show 16 < 20 by omega)
  have fa := B2.out.tasksFr e4.out (u * 20 + 16)
  obtain ⟨b1, q1⟩ := B2.out.task e4.out (i := u) (by rw [LH.out]; exact HU.out) (show 16 < 20 by omega) 0
  have B3 := hid b1
  have K3 := hid (K2.out.trans q1)
  clear b1 q1 e4
  clear B2 K2
  have e4 := hid (show V 3 = .slice (some ⟨g3, 0, none⟩) (((p.task t 1 g).task t 2 v).task u 16 0).tasks.length cap3 by rw [PW.task_len, LH.out]; exact E3.out)
  have xb := B3.out.taskAt e4.out (i := u) (by rw [PW.task_len, LH.out]; exact HU.out) (show 15 < 20 by omega)
  have fb := B3.out.tasksFr e4.out (u * 20 + 15)
  obtain ⟨b1, q1⟩ := B3.out.task e4.out (i := u) (by rw [PW.task_len, LH.out]; exact HU.out) (show 15 < 20 by omega) 0
  have B4 := hid b1
  have K4 := hid (K3.out.trans q1)
  clear b1 q1 e4
  clear B3 K3
  go_upto_region 13 with fail
  generalize World.setCell (World.setCell _ _ _) _ _ = W4 at *
  clear xa fa xb fb
  rw [HQ.out] at B4
  have x9 := B4.out.taskAt (show V 3 = .slice (some ⟨g3, 0, none⟩) (tkU p t u).tasks.length cap3 by rw [LU.out]; exact E3.out) (i := u) (by rw [LU.out]; exact HU.out) (show 9 < 20 by omega)
  rw [L9.out] at x9
  have z1 := (HC.out.kt K4.out (c1, .int .i64 t) (by simp)).1
  rcases H23.out with h2 | h3
  ·rw [if_neg (by rw [h2]; decide)] at HR
   rw [h2] at x9
   clear h2 H23 HA
   go_wp2_with fail
   refine (HW.out _ B4.out).mono ?_
   rintro q w5 ⟨rfl, tg5, h1, k1⟩
   have B5 := hid h1
   have K5 := hid (K4.out.trans k1)
   clear h1 k1 HW
   go_wp2_with fail
   go_ret
   exact ⟨rfl, tg5, K5.out, fun _ => ⟨V, by rw [HR.out]; exact B5.out⟩⟩
  ·rw [if_pos h3] at HR
   rw [h3] at x9
   clear h3 H23 HW
   go_wp2_with fail
   refine (HA.out _ B4.out).mono ?_
   rintro q w5 ⟨rfl, h1, k1⟩
   have B5 := hid h1
   have K5 := hid (K4.out.trans k1)
   clear h1 k1 HA
   go_wp2_with fail
   go_ret
   exact ⟨rfl, tag, K5.out, fun _ => ⟨V, by rw [HR.out]; exact B5.out⟩⟩
set_option maxRecDepth 100000 in
set_option maxHeartbeats 4000000 in
theorem takeBusy_ref (wb : Nat) (tag : Nat → Nat) (V : Nat → Value) (p : PW) (t : Nat) (d : Int) (W : World) (bt : BoxT W wb tag V p) (hp : p.Fits) (ht : t < p.tasks.length) (h17 : ¬ p.tasks.getD t bl 17 = -1) :
  Calls Tryz.prog 39 #[.pointer (some ⟨wb, 0, none⟩), .int .i64 t, .int .i64 d] W fun r W' => r = .returned (.int .i64 7) ∧ W = W' := by
 have hl3 : (p.tasks.length : Int) ≤ 1000 := by have := hp.tasks; omega
 have ht2 : (t : Int) < (p.tasks.length : Int) := by omega
 obtain ⟨g3, cap3, e3⟩ := bt.o.tasks.form (by omega)
 have c3 : W.cell? ⟨wb, 3, none⟩ = some (.slice (some ⟨g3, 0, none⟩) p.tasks.length cap3) := by rw [range_cell bt.r (k := 3) rfl, e3]
 have x17 := bt.taskAt e3 ht (show 17 < 20 by omega)
 generalize p.tasks.getD t bl 17 = y at x17 h17
 have hyb : (y == -1) = false := by simpa using h17
 clear bt hp ht e3
 go_enter Tryz.func39, Tryz.ntmps39
 go_wp2_with fail
 go_ret
 exact ⟨rfl, rfl⟩
set_option maxRecDepth 100000 in
set_option maxHeartbeats 4000000 in
theorem takeNone_ref (wb : Nat) (tag : Nat → Nat) (V : Nat → Value) (p : PW) (t d : Nat) (W : World) (bt : BoxT W wb tag V p) (hp : p.Fits) (ht : t < p.tasks.length) (hd : d < p.lines.length) (h17 : p.tasks.getD t bl 17 = -1)
  (hf : Calls Tryz.prog 88 #[.pointer (some ⟨wb, 0, none⟩), .int .i64 d, .bool false] W fun r W' => r = .returned (.int .i64 (-1)) ∧ W = W') :
  Calls Tryz.prog 39 #[.pointer (some ⟨wb, 0, none⟩), .int .i64 t, .int .i64 d] W fun r W' => r = .returned (.int .i64 0) ∧ ∃ tag', BoxT W' wb tag' V (ssP p t d 4) ∧ Kt tag tag' W W' := by
 have hl3 : (p.tasks.length : Int) ≤ 1000 := by have := hp.tasks; omega
 have ht2 : (t : Int) < (p.tasks.length : Int) := by omega
 obtain ⟨g3, cap3, e3⟩ := bt.o.tasks.form (by omega)
 have c3 : W.cell? ⟨wb, 3, none⟩ = some (.slice (some ⟨g3, 0, none⟩) p.tasks.length cap3) := by rw [range_cell bt.r (k := 3) rfl, e3]
 have x17 := bt.taskAt e3 ht (show 17 < 20 by omega)
 have HF := hid hf
 have HSS := hid (stands_ref wb tag V p t d 4 W bt hp ht hd)
 rw [h17] at x17
 clear bt hp ht e3 h17 hd hf
 go_enter Tryz.func39, Tryz.ntmps39
 go_wp2_with fail
 refine HF.out.mono ?_
 rintro r w1 ⟨rfl, rfl⟩
 clear HF
 go_wp2_with fail
 refine HSS.out.mono ?_
 rintro r w2 ⟨rfl, tg2, h2, k2⟩
 have B2 := hid h2
 have K2 := hid k2
 clear h2 k2 HSS
 go_wp2_with fail
 go_ret
 exact ⟨rfl, tg2, B2.out, K2.out⟩
set_option maxRecDepth 100000 in
set_option maxHeartbeats 4000000 in
theorem takeYes_ref (wb : Nat) (tag : Nat → Nat) (V : Nat → Value) (p : PW) (t d u : Nat) (l : List Int) (W : World) (bt : BoxT W wb tag V p) (hp : p.Fits) (hs : Snd p) (ht : t < p.tasks.length) (hd : d < p.lines.length) (h17 : p.tasks.getD t bl 17 = -1) (hz : p.lines.getD d [] = (u : Int) :: l) (hu : u < p.kinds.length) (hul : u < p.tasks.length) (hk : p.kinds[u] = 6) (hne : t ≠ u) (h23 : p.tasks.getD u bl 9 = 2 ∨ p.tasks.getD u bl 9 = 3) :
  Calls Tryz.prog 39 #[.pointer (some ⟨wb, 0, none⟩), .int .i64 t, .int .i64 d] W fun r W' => r = .returned (.int .i64 0) ∧ ∃ tag', BoxT W' wb tag' V (if p.tasks.getD u bl 9 = 3 then ((tkQ p d t u l).task u 9 5).task t 17 u else wnP (tkQ p d t u l) u (rdN p u)) ∧ Kt tag tag' W W' := by
 have hl3 : (p.tasks.length : Int) ≤ 1000 := by have := hp.tasks; omega
 have ht2 : (t : Int) < (p.tasks.length : Int) := by omega
 obtain ⟨g3, cap3, e3⟩ := bt.o.tasks.form (by omega)
 have c3 : W.cell? ⟨wb, 3, none⟩ = some (.slice (some ⟨g3, 0, none⟩) p.tasks.length cap3) := by rw [range_cell bt.r (k := 3) rfl, e3]
 have x17 := bt.taskAt e3 ht (show 17 < 20 by omega)
 obtain ⟨r1, r2, r3, r4⟩ := rdN_eq hs hu hk
 have hll := tl_le hp hz
 have HF := hid (front_yes wb tag V p d false W bt hp hd u l hz hul (decide_eq_false (by omega)))
 have hpf := fr_fits hp d u l (by omega)
 have hqf := tkQ_fits hp d t u l (by omega)
 obtain ⟨g, hg⟩ : ∃ g, p.tasks.getD u bl 16 = g := ⟨_, rfl⟩
 obtain ⟨v, hv⟩ : ∃ v, p.tasks.getD u bl 15 = v := ⟨_, rfl⟩
 have HG := hid ((fr_task p d u l 16 hul (by decide)).trans hg)
 have HV := hid ((fr_task p d u l 15 hul (by decide)).trans hv)
 have LF0 := hid (fr_len p d u l)
 have HH := hid (fun X tg (h : BoxT X wb tg V (frP p d u l)) => handed_ref wb tg V (frP p d u l) t g v X h hpf (by rw [fr_len]; exact ht))
 have HQ := hid (show (((((frP p d u l).task t 1 g).task t 2 v).task u 16 0).task u 15 0) = tkQ p d t u l by rw [← hg, ← hv]; exact tkQ_ref p d t u l hne hul)
 have H15 := hid (show (((frP p d u l).task t 1 g).task t 2 v).tasks.getD u bl 15 = v by rw [task_els _ u t 2 _ hne, task_els _ u t 1 _ hne]; exact HV.out)
 have H16 := hid (show (((frP p d u l).task t 1 g).task t 2 v).tasks.getD u bl 16 = g by rw [task_els _ u t 2 _ hne, task_els _ u t 1 _ hne]; exact HG.out)
 have LH := hid (show (((frP p d u l).task t 1 g).task t 2 v).tasks.length = p.tasks.length by rw [PW.task_len, PW.task_len, fr_len])
 have LQ := hid (tkQ_len p d t u l)
 have L9 := hid (tkQ_at p d t u 9 l hne hul (by decide) (by decide) (by decide))
 have L18 := tkQ_at p d t u 18 l hne hul (by decide) (by decide) (by decide)
 have L10 := tkQ_at p d t u 10 l hne hul (by decide) (by decide) (by decide)
 have HW := hid (fun X tg (h : BoxT X wb tg V (tkQ p d t u l)) => woken_ref wb tg V (tkQ p d t u l) u (rdN p u) X h hqf (by rw [tkQ_len]; exact hul) r1 (by rw [L18]; exact r3) (by rw [L10]; exact r4) (by rw [L18, L10]; exact r2))
 have KS := hid (fun X tg q (h : BoxT X wb tg V q) (hq : q.tasks.length = p.tasks.length) (h15 : q.tasks.getD u bl 15 = v) (h16 : q.tasks.getD u bl 16 = g) => show X.cell? ⟨wb, 3, none⟩ = some (.slice (some ⟨g3, 0, none⟩) p.tasks.length cap3) ∧ X.cell? ⟨g3, u * 20 + 16, none⟩ = some (.int .i64 g) ∧ X.cell? ⟨g3, u * 20 + 15, none⟩ = some (.int .i64 v) from ⟨by rw [range_cell h.r (k := 3) rfl, e3], by have h1 := h.taskAt (show V 3 = .slice (some ⟨g3, 0, none⟩) q.tasks.length cap3 by rw [hq]; exact e3) (i := u) (by rw [hq]; exact hul) (show 16 < 20 by omega); rw [h16] at h1; exact h1, by have h1 := h.taskAt (show V 3 = .slice (some ⟨g3, 0, none⟩) q.tasks.length cap3 by rw [hq]; exact e3) (i := u) (by rw [hq]; exact hul) (show 15 < 20 by omega); rw [h15] at h1; exact h1⟩)
 have hu0 : ¬ ((u : Int) < 0) := by omega
 have hu2 : (u : Int) < (p.tasks.length : Int) := by omega
 have E3 := hid e3
 have HTT := hid ht
 have HU := hid hul
 have H23 := hid h23
 rw [h17] at x17
 generalize hR : (if p.tasks.getD u bl 9 = 3 then ((tkQ p d t u l).task u 9 5).task t 17 u else wnP (tkQ p d t u l) u (rdN p u)) = R
 have HR := hid hR
 clear hR
 clear bt hp hs hd h17 hz hu hk hne h23 r1 r2 r3 r4 hll hpf hqf hg hv L18 L10 e3 ht hul
 go_enter Tryz.func39, Tryz.ntmps39
 go_wp2_with fail
 refine HF.out.mono ?_
 rintro r w1 ⟨rfl, tg1, h1, k1⟩
 have B1 := hid h1
 have K1 := hid k1
 clear h1 k1 HF c3 x17
 go_upto_region 7 with fail
 have BD : Hid (BoxT w1.drew wb tg1 V (frP p d u l)) := hid (B1.out.below (below_drew w1 1))
 have KD : Hid (Kt tag tg1 W w1.drew) := hid (K1.out.trans (.below (below_drew w1 1)))
 refine wp_region_held_drew (S := fun X => X.cell? ⟨wb, 3, none⟩ = some (.slice (some ⟨g3, 0, none⟩) p.tasks.length cap3) ∧ X.cell? ⟨g3, u * 20 + 16, none⟩ = some (.int .i64 g) ∧ X.cell? ⟨g3, u * 20 + 15, none⟩ = some (.int .i64 v)) (by kernel_rfl) (KS.out _ _ _ BD.out LF0.out HV.out HG.out) (fun hH0 => ?_)
 have hH := hid hH0
 clear hH0
 refine tk 0 (.pointer (some ⟨wb, 0, none⟩)) rfl hH.out ?_
 simp only [jj]
 refine tk 1 (.int .i64 t) rfl hH.out ?_
 simp only [jj]
 refine tk 2 (.pointer (some ⟨wb, 0, none⟩)) rfl hH.out ?_
 simp only [jj]
 refine tk 3 (.pointer (some ⟨wb, 0, none⟩)) rfl hH.out ?_
 simp only [jj]
 refine tk 4 (.pointer (some ⟨wb, 3, none⟩)) rfl hH.out ?_
 simp only [jj]
 refine Mem.tg 5 (.slice (some ⟨g3, 0, none⟩) p.tasks.length cap3) rfl (Or.inl ⟨by rfl, fun W h => by have h3 := h.1; clear h; go_simp⟩) hH.out ?_
 simp only [jj]
 refine tk 6 (.int .i64 u) rfl hH.out ?_
 simp only [jj]
 refine tk 7 (.pointer (some ⟨g3, u * 20, none⟩)) rfl hH.out ?_
 simp only [jj]
 refine tk 8 (.pointer (some ⟨g3, u * 20 + 16, none⟩)) rfl hH.out ?_
 simp only [jj]
 refine Mem.tg 9 (.int .i64 g) rfl (Or.inl ⟨by rfl, fun W h => by have h3 := h.2.1; clear h; go_simp⟩) hH.out ?_
 simp only [jj]
 refine tk 10 (.pointer (some ⟨wb, 0, none⟩)) rfl hH.out ?_
 simp only [jj]
 refine tk 11 (.pointer (some ⟨wb, 0, none⟩)) rfl hH.out ?_
 simp only [jj]
 refine tk 12 (.pointer (some ⟨wb, 3, none⟩)) rfl hH.out ?_
 simp only [jj]
 refine Mem.tg 13 (.slice (some ⟨g3, 0, none⟩) p.tasks.length cap3) rfl (Or.inl ⟨by rfl, fun W h => by have h3 := h.1; clear h; go_simp⟩) hH.out ?_
 simp only [jj]
 refine tk 14 (.int .i64 u) rfl hH.out ?_
 simp only [jj]
 refine tk 15 (.pointer (some ⟨g3, u * 20, none⟩)) rfl hH.out ?_
 simp only [jj]
 refine tk 16 (.pointer (some ⟨g3, u * 20 + 15, none⟩)) rfl hH.out ?_
 simp only [jj]
 refine Mem.tg 17 (.int .i64 v) rfl (Or.inl ⟨by rfl, fun W h => by have h3 := h.2.2; clear h; go_simp⟩) hH.out ?_
 simp only [jj]
 refine wpAnyH_ready (rs := [18]) (by kernel_rfl) (by simp) (AllReadyH.cons rfl (fun K hK => ?_) AllReadyH.nil)
 go_simp
 refine (HH.out _ _ BD.out).mono ?_
 rintro q w2 ⟨rfl, h1, h2⟩
 have B2 := hid h1
 have K2 := hid (KD.out.trans h2)
 clear h1 h2
 go_wp2_with fail
 refine hK.out _ _ (KS.out _ _ _ B2.out LH.out H15.out H16.out) (fun hH0 => ?_)
 have hH2 := hid hH0
 clear hK K hH0
 try simp only [Act.put, jD, jE, jF]
 refine wpAnyH_done (by kernel_rfl) ?_ _
 clear hH hH2 KS HH BD KD B1 K1 HV HG H15 H16
 have e4 := hid (show V 3 = .slice (some ⟨g3, 0, none⟩) (((frP p d u l).task t 1 g).task t 2 v).tasks.length cap3 by rw [LH.out]; exact E3.out)
 have c3 : w2.cell? ⟨wb, 3, none⟩ = some (.slice (some ⟨g3, 0, none⟩) p.tasks.length cap3) := by rw [range_cell B2.out.r (k := 3) rfl, E3.out]
 have xa := B2.out.taskAt e4.out (i := u) (by rw [LH.out]; exact HU.out) (show 16 < 20 by omega)
 have fa := B2.out.tasksFr e4.out (u * 20 + 16)
 obtain ⟨b1, q1⟩ := B2.out.task e4.out (i := u) (by rw [LH.out]; exact HU.out) (show 16 < 20 by omega) 0
 have B3 := hid b1
 have K3 := hid (K2.out.trans q1)
 clear b1 q1 e4
 clear B2 K2
 go_upto_region 9 with fail
 generalize World.setCell _ _ _ = W3 at *
 clear c3 xa fa
 have e4 := hid (show V 3 = .slice (some ⟨g3, 0, none⟩) ((((frP p d u l).task t 1 g).task t 2 v).task u 16 0).tasks.length cap3 by rw [PW.task_len, LH.out]; exact E3.out)
 have c3 : W3.cell? ⟨wb, 3, none⟩ = some (.slice (some ⟨g3, 0, none⟩) p.tasks.length cap3) := by rw [range_cell B3.out.r (k := 3) rfl, E3.out]
 have xa := B3.out.taskAt e4.out (i := u) (by rw [PW.task_len, LH.out]; exact HU.out) (show 15 < 20 by omega)
 have fa := B3.out.tasksFr e4.out (u * 20 + 15)
 obtain ⟨b1, q1⟩ := B3.out.task e4.out (i := u) (by rw [PW.task_len, LH.out]; exact HU.out) (show 15 < 20 by omega) 0
 have B4 := hid b1
 have K4 := hid (K3.out.trans q1)
 clear b1 q1 e4
 clear B3 K3
 go_upto_region 10 with fail
 generalize World.setCell _ _ _ = W4 at *
 clear c3 xa fa
 rw [HQ.out] at B4
 have c3 : W4.cell? ⟨wb, 3, none⟩ = some (.slice (some ⟨g3, 0, none⟩) p.tasks.length cap3) := by rw [range_cell B4.out.r (k := 3) rfl, E3.out]
 have x9 := B4.out.taskAt (show V 3 = .slice (some ⟨g3, 0, none⟩) (tkQ p d t u l).tasks.length cap3 by rw [LQ.out]; exact E3.out) (i := u) (by rw [LQ.out]; exact HU.out) (show 9 < 20 by omega)
 rw [L9.out] at x9
 rcases H23.out with h2 | h3
 ·rw [if_neg (by rw [h2]; decide)] at HR
  rw [h2] at x9
  clear h2 H23
  go_wp2_with fail
  refine (HW.out _ _ B4.out).mono ?_
  rintro q w5 ⟨rfl, tg5, h1, k1⟩
  have B5 := hid h1
  have K5 := hid (K4.out.trans k1)
  clear h1 k1 HW
  go_wp2_with fail
  go_ret
  exact ⟨rfl, tg5, by rw [← HR.out]; exact B5.out, K5.out⟩
 ·rw [if_pos h3] at HR
  rw [h3] at x9
  clear h3 H23 HW
  go_upto_region 11 with fail
  clear c3 x9
  have e4 := hid (show V 3 = .slice (some ⟨g3, 0, none⟩) (tkQ p d t u l).tasks.length cap3 by rw [LQ.out]; exact E3.out)
  have c3 : W4.cell? ⟨wb, 3, none⟩ = some (.slice (some ⟨g3, 0, none⟩) p.tasks.length cap3) := by rw [range_cell B4.out.r (k := 3) rfl, E3.out]
  have xa := B4.out.taskAt e4.out (i := u) (by rw [LQ.out]; exact HU.out) (show 9 < 20 by omega)
  have fa := B4.out.tasksFr e4.out (u * 20 + 9)
  obtain ⟨b1, q1⟩ := B4.out.task e4.out (i := u) (by rw [LQ.out]; exact HU.out) (show 9 < 20 by omega) 5
  have B5 := hid b1
  have K5 := hid (K4.out.trans q1)
  clear b1 q1 e4
  clear B4 K4
  go_upto_region 12 with fail
  generalize World.setCell _ _ _ = W5 at *
  clear c3 xa fa
  have e4 := hid (show V 3 = .slice (some ⟨g3, 0, none⟩) ((tkQ p d t u l).task u 9 5).tasks.length cap3 by rw [PW.task_len, LQ.out]; exact E3.out)
  have c3 : W5.cell? ⟨wb, 3, none⟩ = some (.slice (some ⟨g3, 0, none⟩) p.tasks.length cap3) := by rw [range_cell B5.out.r (k := 3) rfl, E3.out]
  have xa := B5.out.taskAt e4.out (i := t) (by rw [PW.task_len, LQ.out]; exact HTT.out) (show 17 < 20 by omega)
  have fa := B5.out.tasksFr e4.out (t * 20 + 17)
  obtain ⟨b1, q1⟩ := B5.out.task e4.out (i := t) (by rw [PW.task_len, LQ.out]; exact HTT.out) (show 17 < 20 by omega) u
  have B6 := hid b1
  have K6 := hid (K5.out.trans q1)
  clear b1 q1 e4
  clear B5 K5
  go_wp2_with fail
  go_ret
  exact ⟨rfl, tg1, by rw [← HR.out]; exact B6.out, K6.out⟩
set_option maxRecDepth 100000 in
set_option maxHeartbeats 4000000 in
theorem takeRef_deed (c1 c2 : Nat) (t0 d0 : Int) (p : PW) (hp : p.Fits) (hs : Snd p) : DeedT 38 #[ptr c1, ptr c2] (CapsT [(c1, .int .i64 t0), (c2, .int .i64 d0)]) (fun e => .int .i64 e) p (tkP p t0 d0) (tkE p t0 d0) := by
 intro W wb tag V bt hc
 have x1 := (hc (c1, .int .i64 t0) (by simp)).1
 have x2 := (hc (c2, .int .i64 d0) (by simp)).1
 have HM := hid (actMay_ref wb tag V p t0 d0 7 W bt hp)
 unfold ptr
 simp only [List.append_toArray, List.cons_append, List.nil_append]
 by_cases h0 : mtE p t0 d0 7 = 0
 rotate_left
 ·have HE := hid (show tkE p t0 d0 = mtE p t0 d0 7 from if_neg h0)
  rw [HE.out]
  have HN := hid h0
  generalize mtE p t0 d0 7 = e at HM HN h0 ⊢
  have hb : (e == 0) = false := by simpa using h0
  clear bt hc hp hs h0 HE
  go_enter Tryz.func38, Tryz.ntmps38
  go_wp2_with fail
  refine HM.out.mono ?_
  rintro q w1 ⟨rfl, rfl⟩
  go_wp2_with fail
  go_ret
  exact ⟨rfl, tag, Kt.refl _ _, fun h => absurd h HN.out⟩
 have hE0 : tkE p t0 d0 = if p.tasks.getD t0.toNat bl 17 = -1 then 0 else 7 := if_pos h0
 rw [h0] at HM
 obtain ⟨t, d, ht, hd, rfl, rfl, hk, hkd, hin⟩ := mt_in h0
 rw [Int.toNat_natCast] at hE0
 have htl : t < p.tasks.length := by rw [hs.lf.tasks]; exact ht
 have hdl : d < p.lines.length := by rw [hs.lf.lines]; exact hd
 by_cases h17 : p.tasks.getD t bl 17 = -1
 rotate_left
 ·have HTB := hid (takeBusy_ref wb tag V p t d W bt hp htl h17)
  rw [hE0, if_neg h17]
  clear bt hc hp hs h0 hE0 ht hd hk hkd hin htl hdl h17
  go_enter Tryz.func38, Tryz.ntmps38
  go_wp2_with fail
  refine HM.out.mono ?_
  rintro q w1 ⟨rfl, rfl⟩
  go_wp2_with fail
  refine HTB.out.mono ?_
  rintro q w1 ⟨rfl, rfl⟩
  go_wp2_with fail
  go_ret
  exact ⟨rfl, tag, Kt.refl _ _, fun h => by cases h⟩
 rw [hE0, if_pos h17]
 have HSW := hid (show Calls Tryz.prog 39 #[.pointer (some ⟨wb, 0, none⟩), .int .i64 t, .int .i64 d] W fun r W' => r = .returned (.int .i64 0) ∧ ∃ tag', BoxT W' wb tag' V (tkP p t d) ∧ Kt tag tag' W W' by
  rcases fk_cases hs hd hkd with hfs | ⟨u, l, hu, hfs, hz, hku, hat, h23⟩
  ·rw [tkP_no hfs]
   refine takeNone_ref wb tag V p t d W bt hp htl hdl h17 ?_
   cases hz : p.lines.getD d [] with
   | nil => exact front_nil wb tag V p d false W bt hp hdl hz
   | cons z l =>
    obtain ⟨u, hu, rfl, hk, hat⟩ := line_first hs hdl hz
    have h4 : p.tasks.getD u bl 9 = 4 := by
     rw [fk_at hz] at hfs
     by_cases h : p.tasks.getD u bl 9 = 4
     ·exact h
     ·rw [if_neg h] at hfs
      omega
    exact front_no wb tag V p d false W bt hp hdl u l hz (by rw [hs.lf.tasks]; exact hu) (by rw [h4]; decide)
  ·rw [tkP_yes hfs hz]
   obtain ⟨_, _, e9⟩ := core_in hs ht hk hin
   exact takeYes_ref wb tag V p t d u l W bt hp hs htl hdl h17 hz hu (by rw [hs.lf.tasks]; exact hu) hku (by rintro rfl; omega) h23)
 clear bt hc hp hs h0 hE0 ht hd hk hkd hin htl hdl h17
 go_enter Tryz.func38, Tryz.ntmps38
 go_wp2_with fail
 refine HM.out.mono ?_
 rintro q w1 ⟨rfl, rfl⟩
 go_wp2_with fail
 refine HSW.out.mono ?_
 rintro q w2 ⟨rfl, tg2, h2, k2⟩
 have B2 := hid h2
 have K2 := hid k2
 clear h2 k2
 go_wp2_with fail
 go_ret
 exact ⟨rfl, tg2, K2.out, fun _ => ⟨V, B2.out⟩⟩
set_option maxRecDepth 100000 in
set_option maxHeartbeats 4000000 in
theorem answer_deed (c1 c2 : Nat) (t0 v : Int) (p : PW) (hp : p.Fits) (hl : ∀ l ∈ p.tlbs, l.length ≤ 100) (hs : Snd p) : DeedT 93 #[ptr c1, ptr c2] (CapsT [(c1, .int .i64 t0), (c2, .int .i64 v)]) eV p (anP p t0 v) (anE p t0 v) := by
 intro W wb tag V bt hc
 have x1 := (hc (c1, .int .i64 t0) (by simp)).1
 have HC := hid hc
 have HT := hid (thing_any wb V p t0 6 W (bt.view hp hl))
 have HB := hid (fun X => isWord_any v X)
 have B0 := hid bt
 unfold ptr
 simp only [List.append_toArray, List.cons_append, List.nil_append]
 have hms := mt_self p t0
 by_cases h0 : thE p t0 6 = 0
 rotate_left
 ·rw [if_neg h0] at hms
  have HE := hid (show anE p t0 v = thE p t0 6 by unfold anE; rw [hms]; exact if_neg h0)
  rw [HE.out]
  rw [eV_n h0] at HT ⊢
  have HN := hid h0
  generalize thE p t0 6 = x at HT HN ⊢
  clear h0 bt hp hl hs hc HE hms
  go_enter Tryz.func93, Tryz.ntmps93
  go_wp2_with fail
  refine HT.out.mono ?_
  rintro q w1 ⟨rfl, rfl⟩
  have B1 := hid B0.out
  have K1 := hid (show Kt tag tag W W from Kt.refl _ _)
  clear x1 HT B0
  go_wp2_with fail
  go_ret
  exact ⟨rfl, tag, K1.out, fun h => absurd h HN.out⟩
 rw [if_pos h0] at hms
 rw [h0, eV_0] at HT
 obtain ⟨t, ht, rfl, hk⟩ := thE_in h0
 have htl : t < p.tasks.length := by rw [hs.lf.tasks]; exact ht
 have HO := hid (fun X (h : BoxT X wb tag V p) => onCore_any wb tag V p t X h hp hs ht hk)
 by_cases hin : inB t p.cores = true
 rotate_left
 ·rw [if_neg hin] at hms
  have HE := hid (show anE p t v = 7 by unfold anE; rw [hms]; exact if_neg (by decide))
  rw [HE.out]
  simp only [if_neg hin, eV_n (show ¬ (7 : Int) = 0 by decide)] at HO
  clear h0 bt hp hl hs hc HE hms ht hk htl hin HB
  go_enter Tryz.func93, Tryz.ntmps93
  go_wp2_with fail
  refine HT.out.mono ?_
  rintro q w1 ⟨rfl, rfl⟩
  have B1 := hid B0.out
  have K1 := hid (show Kt tag tag W W from Kt.refl _ _)
  clear x1 HT B0
  have z1 := (HC.out.kt K1.out (c1, .int .i64 t) (by simp)).1
  go_wp2_with fail
  refine (HO.out _ B1.out).mono ?_
  rintro q w2 ⟨rfl, hb⟩
  have B2 := hid (B1.out.below hb)
  have K2 := hid (K1.out.trans (.below hb))
  clear hb z1 HO B1 K1
  go_wp2_with fail
  go_ret
  exact ⟨rfl, tag, K2.out, fun h => by cases h⟩
 rw [if_pos hin] at hms
 simp only [if_pos hin, eV_0] at HO
 have hE0 : anE p t v = if wB v = true then (if p.tasks.getD t bl 17 = -1 then 6 else 0) else 1 := by
  unfold anE
  rw [if_pos hms, Int.toNat_natCast]
 cases hwv : wB v with
 | false =>
  rw [hE0, hwv, if_neg (by decide)]
  simp only [hwv] at HB
  clear h0 bt hp hl hs hc hE0 hms ht hk htl hin hwv
  go_enter Tryz.func93, Tryz.ntmps93
  go_wp2_with fail
  refine HT.out.mono ?_
  rintro q w1 ⟨rfl, rfl⟩
  have B1 := hid B0.out
  have K1 := hid (show Kt tag tag W W from Kt.refl _ _)
  clear x1 HT B0
  have z1 := (HC.out.kt K1.out (c1, .int .i64 t) (by simp)).1
  go_wp2_with fail
  refine (HO.out _ B1.out).mono ?_
  rintro q w2 ⟨rfl, hb⟩
  have B2 := hid (B1.out.below hb)
  have K2 := hid (K1.out.trans (.below hb))
  clear hb z1 HO B1 K1
  have z2 := (HC.out.kt K2.out (c2, .int .i64 v) (by simp)).1
  go_wp2_with fail
  refine (HB.out _).mono ?_
  rintro q u1 ⟨rfl, rfl⟩
  clear z2
  go_wp2_with fail
  go_ret
  exact ⟨rfl, tag, K2.out, fun h => by cases h⟩
 | true =>
 simp only [hwv] at HB
 have hl3 : (p.tasks.length : Int) ≤ 1000 := by have := hp.tasks; omega
 have ht2 : (t : Int) < (p.tasks.length : Int) := by omega
 obtain ⟨g3, cap3, e3⟩ := bt.o.tasks.form (by omega)
 have E3 := hid e3
 have HTT := hid htl
 have K17 := hid (fun X (h : BoxT X wb tag V p) => h.taskAt e3 htl (show 17 < 20 by omega))
 by_cases h17 : p.tasks.getD t bl 17 = -1
 ·rw [hE0, hwv, if_pos rfl, if_pos h17]
  rw [h17] at K17
  clear h0 bt hp hl hs hc hE0 hms ht hk htl hin hwv e3 h17
  go_enter Tryz.func93, Tryz.ntmps93
  go_wp2_with fail
  refine HT.out.mono ?_
  rintro q w1 ⟨rfl, rfl⟩
  have B1 := hid B0.out
  have K1 := hid (show Kt tag tag W W from Kt.refl _ _)
  clear x1 HT B0
  have z1 := (HC.out.kt K1.out (c1, .int .i64 t) (by simp)).1
  go_wp2_with fail
  refine (HO.out _ B1.out).mono ?_
  rintro q w2 ⟨rfl, hb⟩
  have B2 := hid (B1.out.below hb)
  have K2 := hid (K1.out.trans (.below hb))
  clear hb z1 HO B1 K1
  have z2 := (HC.out.kt K2.out (c2, .int .i64 v) (by simp)).1
  go_wp2_with fail
  refine (HB.out _).mono ?_
  rintro q u1 ⟨rfl, rfl⟩
  clear z2
  have z1 := (HC.out.kt K2.out (c1, .int .i64 t) (by simp)).1
  have c3 : w2.cell? ⟨wb, 3, none⟩ = some (.slice (some ⟨g3, 0, none⟩) p.tasks.length cap3) := by rw [range_cell B2.out.r (k := 3) rfl, E3.out]
  have xa := K17.out _ B2.out
  go_upto_region 9 with fail
  go_quiet (fail)
  have B3 := hid (B2.out.below (below_drewN (Below.refl w2.heap.size w2) nq))
  have K3 := hid (K2.out.trans (.below (below_drewN (Below.refl w2.heap.size w2) nq)))
  clear z1 c3 xa B2 K2
  generalize World.drewN _ _ = Y at *
  go_wp2_with fail
  go_ret
  exact ⟨rfl, tag, K3.out, fun h => by cases h⟩
 ·rw [hE0, hwv, if_pos rfl, if_neg h17, eV_0]
  obtain ⟨u, hu, e17, hku, h5, i4, i7, i6⟩ := owed_in hs ht hk h17
  have htu : u < p.tasks.length := by rw [hs.lf.tasks]; exact hu
  have hne : t ≠ u := by
   obtain ⟨_, _, e9⟩ := core_in hs ht hk hin
   rintro rfl
   omega
  rw [e17] at K17
  obtain ⟨r1, r2, r3, r4⟩ := rdN_eq hs hu hku
  have e18 : ((p.task u 1 0).task u 2 v).tasks.getD u bl 18 = p.tasks.getD u bl 18 := by rw [task_at _ u 2 18 _ (by rw [PW.task_len]; exact htu) (by decide), task_at _ u 1 18 _ htu (by decide)]
  have e10 : ((p.task u 1 0).task u 2 v).tasks.getD u bl 10 = p.tasks.getD u bl 10 := by rw [task_at _ u 2 10 _ (by rw [PW.task_len]; exact htu) (by decide), task_at _ u 1 10 _ htu (by decide)]
  have HH := hid (fun X (h : BoxT X wb tag V p) => handM_any wb tag V p u 0 v X h hp htu)
  have HW := hid (fun X (h : BoxT X wb tag V ((p.task u 1 0).task u 2 v)) => wake_any wb tag V ((p.task u 1 0).task u 2 v) u (rdN p u) X h (tsk_fits (tsk_fits hp u 1 0) u 2 v) (by rw [PW.task_len, PW.task_len]; exact htu) r1 (by rw [e18]; exact r3) (by rw [e10]; exact r4) (by rw [e18, e10]; exact r2))
  have HR := hid ((anP_at v e17).trans (an_eq v hne htu i4 i7 i6 (rdN p u)).symm)
  have LW := hid (show (wkP ((p.task u 1 0).task u 2 v) u (rdN p u)).tasks.length = p.tasks.length by
   show (((((p.task u 1 0).task u 2 v).task u 14 (-1)).task u 9 1)).tasks.length = _
   rw [PW.task_len, PW.task_len, PW.task_len, PW.task_len])
  have ht0 : ¬ ((u : Int) = -1) := by omega
  have ht1 : ((u : Int) == -1) = false := by simp
  clear h0 bt hp hl hs hc hE0 hms ht hk htl hin hwv e3 h17 hu hku h5 i4 i7 i6 htu hne r1 r2 r3 r4 e18 e10 e17
  go_enter Tryz.func93, Tryz.ntmps93
  go_wp2_with fail
  refine HT.out.mono ?_
  rintro q w1 ⟨rfl, rfl⟩
  have B1 := hid B0.out
  have K1 := hid (show Kt tag tag W W from Kt.refl _ _)
  clear x1 HT B0
  have z1 := (HC.out.kt K1.out (c1, .int .i64 t) (by simp)).1
  go_wp2_with fail
  refine (HO.out _ B1.out).mono ?_
  rintro q w2 ⟨rfl, hb⟩
  have B2 := hid (B1.out.below hb)
  have K2 := hid (K1.out.trans (.below hb))
  clear hb z1 HO B1 K1
  have z2 := (HC.out.kt K2.out (c2, .int .i64 v) (by simp)).1
  go_wp2_with fail
  refine (HB.out _).mono ?_
  rintro q u1 ⟨rfl, rfl⟩
  clear z2
  have z1 := (HC.out.kt K2.out (c1, .int .i64 t) (by simp)).1
  have c3 : w2.cell? ⟨wb, 3, none⟩ = some (.slice (some ⟨g3, 0, none⟩) p.tasks.length cap3) := by rw [range_cell B2.out.r (k := 3) rfl, E3.out]
  have xa := K17.out _ B2.out
  go_upto_region 9 with fail
  go_quiet (fail)
  have B3 := hid (B2.out.below (below_drewN (Below.refl w2.heap.size w2) nq))
  have K3 := hid (K2.out.trans (.below (below_drewN (Below.refl w2.heap.size w2) nq)))
  clear z1 c3 xa B2 K2
  generalize World.drewN _ _ = Y at *
  have z2 := (HC.out.kt K3.out (c2, .int .i64 v) (by simp)).1
  go_wp2_with fail
  refine (HH.out _ B3.out).mono ?_
  rintro q w4 ⟨rfl, h1, k1⟩
  have B4 := hid h1
  have K4 := hid (K3.out.trans k1)
  clear h1 k1 HH z2 B3 K3
  go_wp2_with fail
  refine (HW.out _ B4.out).mono ?_
  rintro q w5 ⟨rfl, tg5, h1, k1⟩
  have B5 := hid h1
  have K5 := hid (K4.out.trans k1)
  clear h1 k1 HW B4 K4
  go_upto_region 14 with fail
  generalize wkP ((p.task u 1 0).task u 2 v) u (rdN p u) = q at *
  have BD : Hid (BoxT w5.drew wb tg5 V q) := hid (B5.out.below (below_drew w5 1))
  have KD : Hid (Kt tag tg5 W w5.drew) := hid (K5.out.trans (.below (below_drew w5 1)))
  have KS := hid (fun X tg q (h : BoxT X wb tg V q) (k : Kt tag tg W X) => show X.cell? ⟨wb, 3, none⟩ = some (.slice (some ⟨g3, 0, none⟩) p.tasks.length cap3) ∧ X.cell? ⟨c1, 0, none⟩ = some (.int .i64 t) from ⟨by rw [range_cell h.r (k := 3) rfl, E3.out], (HC.out.kt k (c1, .int .i64 t) (by simp)).1⟩)
  have e4 : V 3 = .slice (some ⟨g3, 0, none⟩) q.tasks.length cap3 := by rw [LW.out]; exact E3.out
  have xa := BD.out.taskAt e4 (i := t) (by rw [LW.out]; exact HTT.out) (show 17 < 20 by omega)
  have fa := BD.out.tasksFr e4 (t * 20 + 17)
  obtain ⟨b1, q1⟩ := BD.out.task e4 (i := t) (by rw [LW.out]; exact HTT.out) (show 17 < 20 by omega) (-1)
  have B6 := hid (show BoxT (w5.setCell ⟨g3, t * 20 + 17, none⟩ (.int .i64 (-1))).drew wb tg5 V (q.task t 17 (-1)) from b1)
  have K6 := hid (show Kt tag tg5 W (w5.setCell ⟨g3, t * 20 + 17, none⟩ (.int .i64 (-1))).drew from KD.out.trans q1)
  clear b1 q1 e4
  refine wp_region_held_drew (S := fun X => X.cell? ⟨wb, 3, none⟩ = some (.slice (some ⟨g3, 0, none⟩) p.tasks.length cap3) ∧ X.cell? ⟨c1, 0, none⟩ = some (.int .i64 t)) (by kernel_rfl) (KS.out _ _ _ BD.out KD.out) (fun hH0 => ?_)
  have hH := hid hH0
  clear hH0
  refine tk 0 (.pointer (some ⟨wb, 0, none⟩)) rfl hH.out ?_
  simp only [jj]
  refine tk 1 (.pointer (some ⟨wb, 0, none⟩)) rfl hH.out ?_
  simp only [jj]
  refine tk 2 (.pointer (some ⟨wb, 3, none⟩)) rfl hH.out ?_
  simp only [jj]
  refine Mem.tg 3 (.slice (some ⟨g3, 0, none⟩) p.tasks.length cap3) rfl (Or.inl ⟨by rfl, fun W h => by have h3 := h.1; clear h; go_simp⟩) hH.out ?_
  simp only [jj]
  refine Mem.tg 4 (.int .i64 t) rfl (Or.inl ⟨by rfl, fun W h => by have h3 := h.2; clear h; go_simp⟩) hH.out ?_
  simp only [jj]
  refine tk 5 (.pointer (some ⟨g3, t * 20, none⟩)) rfl hH.out ?_
  simp only [jj]
  refine tk 6 (.pointer (some ⟨g3, t * 20 + 17, none⟩)) rfl hH.out ?_
  simp only [jj]
  refine wpAnyH_ready (rs := [7]) (by kernel_rfl) (by simp) (AllReadyH.cons rfl (fun K hK => ?_) AllReadyH.nil)
  go_simp
  refine hK.out _ _ (KS.out _ _ _ B6.out K6.out) (fun _ => ?_)
  clear hK K hH xa fa
  try simp only [Act.put]
  refine wpAnyH_done (by kernel_rfl) ?_ _
  clear KS BD KD
  generalize World.drew (World.setCell _ _ _) = W6 at *
  go_wp2_with fail
  go_ret
  first | exact ⟨rfl, tg5, K6.out, V, by rw [HR.out]; exact B6.out⟩ | exact ⟨rfl, tg5, K6.out, fun _ => ⟨V, by rw [HR.out]; exact B6.out⟩⟩
set_option maxRecDepth 100000 in
set_option maxHeartbeats 4000000 in
theorem answerNone_ref (wb : Nat) (tag : Nat → Nat) (V : Nat → Value) (p : PW) (t : Nat) (v : Int) (W : World) (bt : BoxT W wb tag V p) (hp : p.Fits) (ht : t < p.tasks.length) (h17 : p.tasks.getD t bl 17 = -1) :
  Calls Tryz.prog 41 #[.pointer (some ⟨wb, 0, none⟩), .int .i64 t, .int .i64 v] W fun r W' => r = .returned (.int .i64 6) ∧ W = W' := by
 have hl3 : (p.tasks.length : Int) ≤ 1000 := by have := hp.tasks; omega
 have ht2 : (t : Int) < (p.tasks.length : Int) := by omega
 obtain ⟨g3, cap3, e3⟩ := bt.o.tasks.form (by omega)
 have c3 : W.cell? ⟨wb, 3, none⟩ = some (.slice (some ⟨g3, 0, none⟩) p.tasks.length cap3) := by rw [range_cell bt.r (k := 3) rfl, e3]
 have x17 := bt.taskAt e3 ht (show 17 < 20 by omega)
 rw [h17] at x17
 clear bt hp ht e3 h17
 go_enter Tryz.func41, Tryz.ntmps41
 go_wp2_with fail
 go_ret
 exact ⟨rfl, rfl⟩
set_option maxRecDepth 100000 in
set_option maxHeartbeats 4000000 in
theorem answerYes_ref (wb : Nat) (tag : Nat → Nat) (V : Nat → Value) (p : PW) (t u : Nat) (v : Int) (W : World) (bt : BoxT W wb tag V p) (hp : p.Fits) (hs : Snd p) (ht : t < p.tasks.length) (h17 : p.tasks.getD t bl 17 = u) (hu : u < p.kinds.length) (hul : u < p.tasks.length) (hk : p.kinds[u] = 6) (hne : t ≠ u) :
  Calls Tryz.prog 41 #[.pointer (some ⟨wb, 0, none⟩), .int .i64 t, .int .i64 v] W fun r W' => r = .returned (.int .i64 0) ∧ ∃ tag', BoxT W' wb tag' V (wnP (((p.task t 17 (-1)).task u 1 0).task u 2 v) u (rdN p u)) ∧ Kt tag tag' W W' := by
 have hl3 : (p.tasks.length : Int) ≤ 1000 := by have := hp.tasks; omega
 have ht2 : (t : Int) < (p.tasks.length : Int) := by omega
 obtain ⟨g3, cap3, e3⟩ := bt.o.tasks.form (by omega)
 have c3 : W.cell? ⟨wb, 3, none⟩ = some (.slice (some ⟨g3, 0, none⟩) p.tasks.length cap3) := by rw [range_cell bt.r (k := 3) rfl, e3]
 have x17 := bt.taskAt e3 ht (show 17 < 20 by omega)
 obtain ⟨r1, r2, r3, r4⟩ := rdN_eq hs hu hk
 have hql : u < (p.task t 17 (-1)).tasks.length := by rw [PW.task_len]; exact hul
 have hqf := tsk_fits hp t 17 (-1)
 have HH := hid (fun X tg (h : BoxT X wb tg V (p.task t 17 (-1))) => handed_ref wb tg V (p.task t 17 (-1)) u 0 v X h hqf hql)
 have e18 : (((p.task t 17 (-1)).task u 1 0).task u 2 v).tasks.getD u bl 18 = p.tasks.getD u bl 18 := by rw [task_at _ u 2 18 _ (by rw [PW.task_len]; exact hql) (by decide), task_at _ u 1 18 _ hql (by decide), task_els _ u t 17 _ hne]
 have e10 : (((p.task t 17 (-1)).task u 1 0).task u 2 v).tasks.getD u bl 10 = p.tasks.getD u bl 10 := by rw [task_at _ u 2 10 _ (by rw [PW.task_len]; exact hql) (by decide), task_at _ u 1 10 _ hql (by decide), task_els _ u t 17 _ hne]
 have HW := hid (fun X tg (h : BoxT X wb tg V (((p.task t 17 (-1)).task u 1 0).task u 2 v)) => woken_ref wb tg V (((p.task t 17 (-1)).task u 1 0).task u 2 v) u (rdN p u) X h (tsk_fits (tsk_fits hqf u 1 0) u 2 v) (by rw [PW.task_len, PW.task_len]; exact hql) r1 (by rw [e18]; exact r3) (by rw [e10]; exact r4) (by rw [e18, e10]; exact r2))
 have hu0 : ¬ ((u : Int) = -1) := by omega
 have hu1 : ((u : Int) == -1) = false := by simp
 have fa := bt.tasksFr e3 (t * 20 + 17)
 obtain ⟨b1, q1⟩ := bt.task e3 ht (show 17 < 20 by omega) (-1)
 have B1 := hid b1
 have K1 := hid q1
 rw [h17] at x17
 clear bt hp hs h17 hu hul hk hne r1 r2 r3 r4 hql hqf e18 e10 e3 ht b1 q1
 go_enter Tryz.func41, Tryz.ntmps41
 go_upto_region 5 with fail
 generalize World.setCell _ _ _ = W1 at *
 clear c3 x17 fa
 go_wp2_with fail
 refine (HH.out _ _ B1.out).mono ?_
 rintro r w2 ⟨rfl, h2, k2⟩
 have B2 := hid h2
 have K2 := hid (K1.out.trans k2)
 clear h2 k2 HH B1 K1
 go_wp2_with fail
 refine (HW.out _ _ B2.out).mono ?_
 rintro r w3 ⟨rfl, tg3, h3, k3⟩
 have B3 := hid h3
 have K3 := hid (K2.out.trans k3)
 clear h3 k3 HW B2 K2
 go_wp2_with fail
 go_ret
 exact ⟨rfl, tg3, B3.out, K3.out⟩
set_option maxRecDepth 100000 in
set_option maxHeartbeats 4000000 in
theorem answerRef_deed (c1 c2 : Nat) (t0 v : Int) (p : PW) (hp : p.Fits) (hs : Snd p) : DeedT 40 #[ptr c1, ptr c2] (CapsT [(c1, .int .i64 t0), (c2, .int .i64 v)]) (fun e => .int .i64 e) p (anP p t0 v) (anE p t0 v) := by
 intro W wb tag V bt hc
 have x1 := (hc (c1, .int .i64 t0) (by simp)).1
 have x2 := (hc (c2, .int .i64 v) (by simp)).1
 have HM := hid (actMay_ref wb tag V p t0 t0 6 W bt hp)
 have HB := hid (fun X => far_any v 65535 X)
 unfold ptr
 simp only [List.append_toArray, List.cons_append, List.nil_append]
 by_cases h0 : mtE p t0 t0 6 = 0
 rotate_left
 ·have HE := hid (show anE p t0 v = mtE p t0 t0 6 from if_neg h0)
  rw [HE.out]
  have HN := hid h0
  generalize mtE p t0 t0 6 = e at HM HN h0 ⊢
  have hb : (e == 0) = false := by simpa using h0
  clear bt hc hp hs h0 HE HB
  go_enter Tryz.func40, Tryz.ntmps40
  go_wp2_with fail
  refine HM.out.mono ?_
  rintro q w1 ⟨rfl, rfl⟩
  go_wp2_with fail
  go_ret
  exact ⟨rfl, tag, Kt.refl _ _, fun h => absurd h HN.out⟩
 have hE0 : anE p t0 v = if wB v = true then (if p.tasks.getD t0.toNat bl 17 = -1 then 6 else 0) else 1 := if_pos h0
 rw [h0] at HM
 obtain ⟨t, d, ht, hd, rfl, -, hk, -, hin⟩ := mt_in h0
 rw [Int.toNat_natCast] at hE0
 have htl : t < p.tasks.length := by rw [hs.lf.tasks]; exact ht
 by_cases hfv : v < 0 ∨ 65535 < v
 ·rw [hE0, show wB v = false from decide_eq_false (by omega), if_neg (by decide)]
  simp only [decide_eq_true hfv] at HB
  clear bt hc hp hs h0 hE0 hfv ht hd hk hin htl
  go_enter Tryz.func40, Tryz.ntmps40
  go_wp2_with fail
  refine HM.out.mono ?_
  rintro q w1 ⟨rfl, rfl⟩
  go_wp2_with fail
  refine (HB.out _).mono ?_
  rintro q u1 ⟨rfl, rfl⟩
  go_wp2_with fail
  go_ret
  exact ⟨rfl, tag, Kt.refl _ _, fun h => by cases h⟩
 simp only [decide_eq_false hfv] at HB
 by_cases h17 : p.tasks.getD t bl 17 = -1
 ·rw [hE0, show wB v = true from decide_eq_true (by omega), if_pos rfl, if_pos h17]
  have HAN := hid (answerNone_ref wb tag V p t v W bt hp htl h17)
  clear bt hc hp hs h0 hE0 hfv ht hd hk hin htl h17
  go_enter Tryz.func40, Tryz.ntmps40
  go_wp2_with fail
  refine HM.out.mono ?_
  rintro q w1 ⟨rfl, rfl⟩
  go_wp2_with fail
  refine (HB.out _).mono ?_
  rintro q u1 ⟨rfl, rfl⟩
  go_wp2_with fail
  refine HAN.out.mono ?_
  rintro q w1 ⟨rfl, rfl⟩
  go_wp2_with fail
  go_ret
  exact ⟨rfl, tag, Kt.refl _ _, fun h => by cases h⟩
 ·rw [hE0, show wB v = true from decide_eq_true (by omega), if_pos rfl, if_neg h17]
  obtain ⟨u, hu, e17, hku, h5, -, -, -⟩ := owed_in hs ht hk h17
  have HAY := hid (show Calls Tryz.prog 41 #[.pointer (some ⟨wb, 0, none⟩), .int .i64 t, .int .i64 v] W fun r W' => r = .returned (.int .i64 0) ∧ ∃ tag', BoxT W' wb tag' V (anP p t v) ∧ Kt tag tag' W W' by
   rw [anP_at v e17]
   obtain ⟨_, _, e9⟩ := core_in hs ht hk hin
   exact answerYes_ref wb tag V p t u v W bt hp hs htl e17 hu (by rw [hs.lf.tasks]; exact hu) hku (by rintro rfl; omega))
  clear bt hc hp hs h0 hE0 hfv ht hd hk hin htl h17 hu e17 hku h5
  go_enter Tryz.func40, Tryz.ntmps40
  go_wp2_with fail
  refine HM.out.mono ?_
  rintro q w1 ⟨rfl, rfl⟩
  go_wp2_with fail
  refine (HB.out _).mono ?_
  rintro q u1 ⟨rfl, rfl⟩
  go_wp2_with fail
  refine HAY.out.mono ?_
  rintro q w2 ⟨rfl, tg2, h2, k2⟩
  have B2 := hid h2
  have K2 := hid k2
  clear h2 k2
  go_wp2_with fail
  go_ret
  exact ⟨rfl, tg2, K2.out, fun _ => ⟨V, B2.out⟩⟩
theorem cf_r1 (args : Array Value) (W : World) : (callFunc 92 args).run Tryz.prog W = .ok (.enter 92 args) W := by
 go_simp
theorem cf_l1 (args : Array Value) (W : World) : (callFunc 93 args).run Tryz.prog W = .ok (.enter 93 args) W := by
 go_simp
theorem cf_g1 (args : Array Value) (W : World) : (callFunc 38 args).run Tryz.prog W = .ok (.enter 38 args) W := by
 go_simp
theorem cf_g2 (args : Array Value) (W : World) : (callFunc 40 args).run Tryz.prog W = .ok (.enter 40 args) W := by
 go_simp
set_option maxRecDepth 100000 in
set_option maxHeartbeats 4000000 in
theorem mailTake_any (V : Nat → Value) (p : PW) (a b : Int) (w : World) (hv : WorldV w V p) (hp : p.Fits) :
  Calls Tryz.prog 36 #[.agg (arr11 V), .int .i64 a, .int .i64 b] w fun x w' => ∃ X, x = .returned (.tuple #[.agg (arr11 X), eV (dE p (tkE p a b))]) ∧ FarV w' w.heap.size X (dP p (tkP p a b) (tkE p a b)) ∧ Below w.heap.size w w' := by
 have RG0 := boxed w V 28
 have RG1 := range_below RG0 (bal (Below.refl _ (w.alloc (.cells (arr11 V) 28))) (.cells #[.int .i64 a] 3))
 have RG2 := range_below RG1 (bal (Below.refl _ ((w.alloc (.cells (arr11 V) 28)).alloc (.cells #[.int .i64 a] 3))) (.cells #[.int .i64 b] 3))
 have RG3 := range_below RG2 (bal (Below.refl _ (((w.alloc (.cells (arr11 V) 28)).alloc (.cells #[.int .i64 a] 3)).alloc (.cells #[.int .i64 b] 3))) (.cells #[.slice none 0 0, .slice none 0 0, .slice none 0 0, .slice none 0 0, .slice none 0 0, .slice none 0 0, .slice none 0 0, .slice none 0 0, .slice none 0 0, .slice none 0 0, .int .i64 0] 28))
 have RG := hid RG3
 have B0 := hid (bal (bal (bal (bal (Below.refl w.heap.size w) (.cells (arr11 V) 28)) (.cells #[.int .i64 a] 3)) (.cells #[.int .i64 b] 3)) (.cells #[.slice none 0 0, .slice none 0 0, .slice none 0 0, .slice none 0 0, .slice none 0 0, .slice none 0 0, .slice none 0 0, .slice none 0 0, .slice none 0 0, .slice none 0 0, .int .i64 0] 28))
 have y1 := (cells_alloc (cells_alloc (cells_at (w.alloc (.cells (arr11 V) 28)) #[.int .i64 a] 3 (w.heap.size + 1) (by simp)) (by simp) (.cells #[.int .i64 b] 3)) (by simp) (.cells #[.slice none 0 0, .slice none 0 0, .slice none 0 0, .slice none 0 0, .slice none 0 0, .slice none 0 0, .slice none 0 0, .slice none 0 0, .slice none 0 0, .slice none 0 0, .int .i64 0] 28)) 0
 have y2 := (cells_alloc (cells_at ((w.alloc (.cells (arr11 V) 28)).alloc (.cells #[.int .i64 a] 3)) #[.int .i64 b] 3 (w.heap.size + 2) (by simp)) (by simp) (.cells #[.slice none 0 0, .slice none 0 0, .slice none 0 0, .slice none 0 0, .slice none 0 0, .slice none 0 0, .slice none 0 0, .slice none 0 0, .slice none 0 0, .slice none 0 0, .int .i64 0] 28)) 0
 have HC := hid (show Caps [((w.heap.size + 1), .int .i64 a), ((w.heap.size + 2), .int .i64 b)] ((((w.alloc (.cells (arr11 V) 28)).alloc (.cells #[.int .i64 a] 3)).alloc (.cells #[.int .i64 b] 3)).alloc (.cells #[.slice none 0 0, .slice none 0 0, .slice none 0 0, .slice none 0 0, .slice none 0 0, .slice none 0 0, .slice none 0 0, .slice none 0 0, .slice none 0 0, .slice none 0 0, .int .i64 0] 28)) from fun x hx => by
  simp only [List.mem_cons, List.not_mem_nil, or_false] at hx
  rcases hx with rfl | rfl
  ·exact y1
  ·exact y2)
 have SZ := hid (show ((((w.alloc (.cells (arr11 V) 28)).alloc (.cells #[.int .i64 a] 3)).alloc (.cells #[.int .i64 b] 3)).alloc (.cells #[.slice none 0 0, .slice none 0 0, .slice none 0 0, .slice none 0 0, .slice none 0 0, .slice none 0 0, .slice none 0 0, .slice none 0 0, .slice none 0 0, .slice none 0 0, .int .i64 0] 28)).heap.size = w.heap.size + 4 by simp)
 have TR := hid (there_new (((w.alloc (.cells (arr11 V) 28)).alloc (.cells #[.int .i64 a] 3)).alloc (.cells #[.int .i64 b] 3)) #[.slice none 0 0, .slice none 0 0, .slice none 0 0, .slice none 0 0, .slice none 0 0, .slice none 0 0, .slice none 0 0, .slice none 0 0, .slice none 0 0, .slice none 0 0, .int .i64 0] 28 (w.heap.size + 3) 11 (by simp) (by decide))
 clear RG0 RG1 RG2 RG3
 have HL := hid (tlbs_le hv.tlbs)
 have HD := hid (do_far 92 #[ptr (w.heap.size + 1), ptr (w.heap.size + 2)] (Caps [((w.heap.size + 1), .int .i64 a), ((w.heap.size + 2), .int .i64 b)]) V p (tkP p a b) (tkE p a b) ((((w.alloc (.cells (arr11 V) 28)).alloc (.cells #[.int .i64 a] 3)).alloc (.cells #[.int .i64 b] 3)).alloc (.cells #[.slice none 0 0, .slice none 0 0, .slice none 0 0, .slice none 0 0, .slice none 0 0, .slice none 0 0, .slice none 0 0, .slice none 0 0, .slice none 0 0, .slice none 0 0, .int .i64 0] 28)) (hv.below B0.out) hp cf_r1 (fun X h => HC.out.below h) (fun h => (take_deed _ _ a b p hp HL.out h).caps (by rw [tk_tlbs]; exact HL.out)))
 unfold ptr at HD
 generalize dE p (tkE p a b) = de at HD ⊢
 generalize dP p (tkP p a b) (tkE p a b) = dp at HD ⊢
 clear hv hp HL y1 y2
 go_enter Tryz.func36, Tryz.ntmps36
 go_wp2_with (first | ((with_reducible (show wpList _ _ _ (⟨_, Op.load 28 _, _, _, _, _⟩ :: _) _ _)); refine wp_ldWg (by rfl) _ rfl _ rfl V RG.out ?_))
 generalize World.alloc _ _ = W0 at *
 refine HD.out.mono ?_
 rintro q w1 ⟨X, rfl, hF, hb⟩
 have T1 := hid (there_belowO TR.out hb)
 have one := hid (world_one hF.v0)
 have RX := hid (World.rangeAt_setCells_same w1 (w.heap.size + 3) 0 (arr11 X).toList T1.out)
 have BX := hid (below_setCells (btr B0.out hb) (show w.heap.size ≤ w.heap.size + 3 by omega) (arr11 X).toList 0)
 have WX := hid ((hF.put (w.heap.size + 3) 0 (arr11 X).toList (by rw [SZ.out]; omega)).mono (show w.heap.size ≤ _ by rw [SZ.out]; omega))
 clear hF hb HD
 go_wp2_with (first | ((with_reducible (show wpList _ _ _ (⟨_, Op.store 28 _ _, _, _, _, _⟩ :: _) _ _)); refine wpList_store_mid rfl 28 _ _ rfl (w.heap.size + 3) 0 (arr11 X) rfl rfl T1.out infoW one.out ?_))
 exact bodyPost_ret (v := .tuple #[.agg (arr11 X), eV de]) (results_d2 rfl rfl (run_loadVar_mid _ (w.heap.size + 3) 0 28 (arr11 X).toList _ RX.out Tryz.underlying28 rfl infoW) rfl) rfl ⟨X, rfl, WX.out, BX.out⟩
set_option maxRecDepth 100000 in
set_option maxHeartbeats 4000000 in
theorem mailAnswer_any (V : Nat → Value) (p : PW) (a c : Int) (w : World) (hv : WorldV w V p) (hp : p.Fits) :
  Calls Tryz.prog 37 #[.agg (arr11 V), .int .i64 a, .int .i64 c] w fun x w' => ∃ X, x = .returned (.tuple #[.agg (arr11 X), eV (dE p (anE p a c))]) ∧ FarV w' w.heap.size X (dP p (anP p a c) (anE p a c)) ∧ Below w.heap.size w w' := by
 have RG0 := boxed w V 28
 have RG1 := range_below RG0 (bal (Below.refl _ (w.alloc (.cells (arr11 V) 28))) (.cells #[.int .i64 a] 3))
 have RG2 := range_below RG1 (bal (Below.refl _ ((w.alloc (.cells (arr11 V) 28)).alloc (.cells #[.int .i64 a] 3))) (.cells #[.int .i64 c] 3))
 have RG3 := range_below RG2 (bal (Below.refl _ (((w.alloc (.cells (arr11 V) 28)).alloc (.cells #[.int .i64 a] 3)).alloc (.cells #[.int .i64 c] 3))) (.cells #[.slice none 0 0, .slice none 0 0, .slice none 0 0, .slice none 0 0, .slice none 0 0, .slice none 0 0, .slice none 0 0, .slice none 0 0, .slice none 0 0, .slice none 0 0, .int .i64 0] 28))
 have RG := hid RG3
 have B0 := hid (bal (bal (bal (bal (Below.refl w.heap.size w) (.cells (arr11 V) 28)) (.cells #[.int .i64 a] 3)) (.cells #[.int .i64 c] 3)) (.cells #[.slice none 0 0, .slice none 0 0, .slice none 0 0, .slice none 0 0, .slice none 0 0, .slice none 0 0, .slice none 0 0, .slice none 0 0, .slice none 0 0, .slice none 0 0, .int .i64 0] 28))
 have y1 := (cells_alloc (cells_alloc (cells_at (w.alloc (.cells (arr11 V) 28)) #[.int .i64 a] 3 (w.heap.size + 1) (by simp)) (by simp) (.cells #[.int .i64 c] 3)) (by simp) (.cells #[.slice none 0 0, .slice none 0 0, .slice none 0 0, .slice none 0 0, .slice none 0 0, .slice none 0 0, .slice none 0 0, .slice none 0 0, .slice none 0 0, .slice none 0 0, .int .i64 0] 28)) 0
 have y2 := (cells_alloc (cells_at ((w.alloc (.cells (arr11 V) 28)).alloc (.cells #[.int .i64 a] 3)) #[.int .i64 c] 3 (w.heap.size + 2) (by simp)) (by simp) (.cells #[.slice none 0 0, .slice none 0 0, .slice none 0 0, .slice none 0 0, .slice none 0 0, .slice none 0 0, .slice none 0 0, .slice none 0 0, .slice none 0 0, .slice none 0 0, .int .i64 0] 28)) 0
 have HC := hid (show Caps [((w.heap.size + 1), .int .i64 a), ((w.heap.size + 2), .int .i64 c)] ((((w.alloc (.cells (arr11 V) 28)).alloc (.cells #[.int .i64 a] 3)).alloc (.cells #[.int .i64 c] 3)).alloc (.cells #[.slice none 0 0, .slice none 0 0, .slice none 0 0, .slice none 0 0, .slice none 0 0, .slice none 0 0, .slice none 0 0, .slice none 0 0, .slice none 0 0, .slice none 0 0, .int .i64 0] 28)) from fun x hx => by
  simp only [List.mem_cons, List.not_mem_nil, or_false] at hx
  rcases hx with rfl | rfl
  ·exact y1
  ·exact y2)
 have SZ := hid (show ((((w.alloc (.cells (arr11 V) 28)).alloc (.cells #[.int .i64 a] 3)).alloc (.cells #[.int .i64 c] 3)).alloc (.cells #[.slice none 0 0, .slice none 0 0, .slice none 0 0, .slice none 0 0, .slice none 0 0, .slice none 0 0, .slice none 0 0, .slice none 0 0, .slice none 0 0, .slice none 0 0, .int .i64 0] 28)).heap.size = w.heap.size + 4 by simp)
 have TR := hid (there_new (((w.alloc (.cells (arr11 V) 28)).alloc (.cells #[.int .i64 a] 3)).alloc (.cells #[.int .i64 c] 3)) #[.slice none 0 0, .slice none 0 0, .slice none 0 0, .slice none 0 0, .slice none 0 0, .slice none 0 0, .slice none 0 0, .slice none 0 0, .slice none 0 0, .slice none 0 0, .int .i64 0] 28 (w.heap.size + 3) 11 (by simp) (by decide))
 clear RG0 RG1 RG2 RG3
 have HL := hid (tlbs_le hv.tlbs)
 have HD := hid (do_far 93 #[ptr (w.heap.size + 1), ptr (w.heap.size + 2)] (Caps [((w.heap.size + 1), .int .i64 a), ((w.heap.size + 2), .int .i64 c)]) V p (anP p a c) (anE p a c) ((((w.alloc (.cells (arr11 V) 28)).alloc (.cells #[.int .i64 a] 3)).alloc (.cells #[.int .i64 c] 3)).alloc (.cells #[.slice none 0 0, .slice none 0 0, .slice none 0 0, .slice none 0 0, .slice none 0 0, .slice none 0 0, .slice none 0 0, .slice none 0 0, .slice none 0 0, .slice none 0 0, .int .i64 0] 28)) (hv.below B0.out) hp cf_l1 (fun X h => HC.out.below h) (fun h => (answer_deed _ _ a c p hp HL.out h).caps (by rw [an_tlbs]; exact HL.out)))
 unfold ptr at HD
 generalize dE p (anE p a c) = de at HD ⊢
 generalize dP p (anP p a c) (anE p a c) = dp at HD ⊢
 clear hv hp HL y1 y2
 go_enter Tryz.func37, Tryz.ntmps37
 go_wp2_with (first | ((with_reducible (show wpList _ _ _ (⟨_, Op.load 28 _, _, _, _, _⟩ :: _) _ _)); refine wp_ldWg (by rfl) _ rfl _ rfl V RG.out ?_))
 generalize World.alloc _ _ = W0 at *
 refine HD.out.mono ?_
 rintro q w1 ⟨X, rfl, hF, hb⟩
 have T1 := hid (there_belowO TR.out hb)
 have one := hid (world_one hF.v0)
 have RX := hid (World.rangeAt_setCells_same w1 (w.heap.size + 3) 0 (arr11 X).toList T1.out)
 have BX := hid (below_setCells (btr B0.out hb) (show w.heap.size ≤ w.heap.size + 3 by omega) (arr11 X).toList 0)
 have WX := hid ((hF.put (w.heap.size + 3) 0 (arr11 X).toList (by rw [SZ.out]; omega)).mono (show w.heap.size ≤ _ by rw [SZ.out]; omega))
 clear hF hb HD
 go_wp2_with (first | ((with_reducible (show wpList _ _ _ (⟨_, Op.store 28 _ _, _, _, _, _⟩ :: _) _ _)); refine wpList_store_mid rfl 28 _ _ rfl (w.heap.size + 3) 0 (arr11 X) rfl rfl T1.out infoW one.out ?_))
 exact bodyPost_ret (v := .tuple #[.agg (arr11 X), eV de]) (results_d2 rfl rfl (run_loadVar_mid _ (w.heap.size + 3) 0 28 (arr11 X).toList _ RX.out Tryz.underlying28 rfl infoW) rfl) rfl ⟨X, rfl, WX.out, BX.out⟩
set_option maxRecDepth 100000 in
set_option maxHeartbeats 8000000 in
theorem mailTakes_any (V : Nat → Value) (p : PW) (a b c : Int) (w : World) (hv : WorldR w V p) (hg : ETok w) :
  Calls Tryz.prog 7 #[.agg (arr11 V), .int .i64 a, .int .i64 b, .int .i64 c] w fun x w' => x = .returned (.bool true) ∧ Below w.heap.size w w' := by
 have RG0 := boxed w V 28
 have RG1 := range_below RG0 (bal (Below.refl _ (w.alloc (.cells (arr11 V) 28))) (.cells #[.int .i64 a] 3))
 have RG2 := range_below RG1 (bal (Below.refl _ ((w.alloc (.cells (arr11 V) 28)).alloc (.cells #[.int .i64 a] 3))) (.cells #[.int .i64 b] 3))
 have RG3 := range_below RG2 (bal (Below.refl _ (((w.alloc (.cells (arr11 V) 28)).alloc (.cells #[.int .i64 a] 3)).alloc (.cells #[.int .i64 b] 3))) (.cells #[.int .i64 c] 3))
 have RG := hid RG3
 have B0 := hid (bal (bal (bal (bal (Below.refl w.heap.size w) (.cells (arr11 V) 28)) (.cells #[.int .i64 a] 3)) (.cells #[.int .i64 b] 3)) (.cells #[.int .i64 c] 3))
 have y1 := (cells_alloc (cells_alloc (cells_at (w.alloc (.cells (arr11 V) 28)) #[.int .i64 a] 3 (w.heap.size + 1) (by simp)) (by simp) (.cells #[.int .i64 b] 3)) (by simp) (.cells #[.int .i64 c] 3)) 0
 have y2 := (cells_alloc (cells_at ((w.alloc (.cells (arr11 V) 28)).alloc (.cells #[.int .i64 a] 3)) #[.int .i64 b] 3 (w.heap.size + 2) (by simp)) (by simp) (.cells #[.int .i64 c] 3)) 0
 have y3 := (cells_at (((w.alloc (.cells (arr11 V) 28)).alloc (.cells #[.int .i64 a] 3)).alloc (.cells #[.int .i64 b] 3)) #[.int .i64 c] 3 (w.heap.size + 3) (by simp)) 0
 have HC := hid (show Caps [((w.heap.size + 1), .int .i64 a), ((w.heap.size + 2), .int .i64 b), ((w.heap.size + 3), .int .i64 c)] ((((w.alloc (.cells (arr11 V) 28)).alloc (.cells #[.int .i64 a] 3)).alloc (.cells #[.int .i64 b] 3)).alloc (.cells #[.int .i64 c] 3)) from fun x hx => by
  simp only [List.mem_cons, List.not_mem_nil, or_false] at hx
  rcases hx with rfl | rfl | rfl
  ·exact y1
  ·exact y2
  ·exact y3)
 have SZ := hid (show ((((w.alloc (.cells (arr11 V) 28)).alloc (.cells #[.int .i64 a] 3)).alloc (.cells #[.int .i64 b] 3)).alloc (.cells #[.int .i64 c] 3)).heap.size = w.heap.size + 4 by simp)
 clear RG0 RG1 RG2 RG3
 have HH := hid (hugeWorld_any V p ((((w.alloc (.cells (arr11 V) 28)).alloc (.cells #[.int .i64 a] 3)).alloc (.cells #[.int .i64 b] 3)).alloc (.cells #[.int .i64 c] 3)) (hv.below B0.out))
 by_cases hs : Small p
 rotate_left
 ·rw [huge_t hs] at HH
  clear hv hg hs
  go_enter Tryz.func7, Tryz.ntmps7
  go_wp2_with (first | ((with_reducible (show wpList _ _ _ (⟨_, Op.load 28 _, _, _, _, _⟩ :: _) _ _)); refine wp_ldWg (by rfl) _ rfl _ rfl V RG.out ?_))
  refine HH.out.mono ?_
  rintro q w1 ⟨rfl, hb⟩
  have BB := hid (btr B0.out hb)
  clear hb
  go_wp2_with fail
  go_ret
  exact ⟨rfl, BB.out⟩
 rw [huge_f hs] at HH
 obtain ⟨hw, hp⟩ := small_world hv hs
 have HP := hid hp
 have HV := hid hw
 have HG := hid hg
 have HL := hid (tlbs_le hw.tlbs)
 have HSM := hid hs
 clear hv hg hs hw hp y1 y2 y3
 go_enter Tryz.func7, Tryz.ntmps7
 go_wp2_with (first | ((with_reducible (show wpList _ _ _ (⟨_, Op.load 28 _, _, _, _, _⟩ :: _) _ _)); refine wp_ldWg (by rfl) _ rfl _ rfl V RG.out ?_))
 generalize World.alloc _ _ = W0 at *
 refine HH.out.mono ?_
 rintro q w1 ⟨rfl, hb⟩
 have BW := hid (btr B0.out hb)
 have RW := hid (range_below RG.out hb)
 have CW := hid (HC.out.below hb)
 clear hb HH RG HC B0 SZ
 have z1 := CW.out ((w.heap.size + 1), .int .i64 a) (by simp)
 have z2 := CW.out ((w.heap.size + 2), .int .i64 b) (by simp)
 have z3 := CW.out ((w.heap.size + 3), .int .i64 c) (by simp)
 go_wp2_with (first | ((with_reducible (show wpList _ _ _ (⟨_, Op.load 28 _, _, _, _, _⟩ :: _) _ _)); refine wp_ldWg (by rfl) _ rfl _ rfl V RW.out ?_))
 refine (mailTake_any V p a b w1 (HV.out.below BW.out) HP.out).mono ?_
 rintro q u1 ⟨X1, rfl, hF, hb⟩
 have hX := hF.v0
 have TN := hid (there_new u1 #[.slice none 0 0, .slice none 0 0, .slice none 0 0, .slice none 0 0, .slice none 0 0, .slice none 0 0, .slice none 0 0, .slice none 0 0, .slice none 0 0, .slice none 0 0, .int .i64 0] 28 u1.heap.size 11 rfl (by decide))
 have one := hid (world_one hX)
 have D3 := hid (show Below u1.heap.size u1 ((u1.alloc (.cells #[.slice none 0 0, .slice none 0 0, .slice none 0 0, .slice none 0 0, .slice none 0 0, .slice none 0 0, .slice none 0 0, .slice none 0 0, .slice none 0 0, .slice none 0 0, .int .i64 0] 28)).setCells u1.heap.size 0 (arr11 X1).toList) from below_setCells (bal (Below.refl _ u1) (.cells #[.slice none 0 0, .slice none 0 0, .slice none 0 0, .slice none 0 0, .slice none 0 0, .slice none 0 0, .slice none 0 0, .slice none 0 0, .slice none 0 0, .slice none 0 0, .int .i64 0] 28)) (Nat.le_refl _) _ 0)
 have D5 := hid (btr hb D3.out)
 have RX1 := hid (World.rangeAt_setCells_same (u1.alloc (.cells #[.slice none 0 0, .slice none 0 0, .slice none 0 0, .slice none 0 0, .slice none 0 0, .slice none 0 0, .slice none 0 0, .slice none 0 0, .slice none 0 0, .slice none 0 0, .int .i64 0] 28)) u1.heap.size 0 (arr11 X1).toList TN.out)
 have WX1 := hid (hX.below D3.out)
 replace RW := hid (range_below RW.out D5.out)
 replace CW := hid (CW.out.below D5.out)
 replace BW := hid (btr BW.out D5.out)
 clear hX hF hb D5 z1 z2 z3
 go_upto_region 4 with (first | ((with_reducible (show wpList _ _ _ (⟨_, Op.store 28 _ _, _, _, _, _⟩ :: _) _ _)); refine wpList_store_mid rfl 28 _ _ rfl u1.heap.size 0 (arr11 X1) rfl rfl TN.out infoW one.out ?_))
 generalize World.setCells _ _ _ _ = W1 at *
 generalize u1.heap.size = xb1 at RX1 ⊢
 clear TN one D3
 have z1 := CW.out ((w.heap.size + 1), .int .i64 a) (by simp)
 have z2 := CW.out ((w.heap.size + 2), .int .i64 b) (by simp)
 have z3 := CW.out ((w.heap.size + 3), .int .i64 c) (by simp)
 go_wp2_with (first | ((with_reducible (show wpList _ _ _ (⟨_, Op.load 28 _, _, _, _, _⟩ :: _) _ _)); refine wp_ldWg (by rfl) _ rfl _ rfl V RW.out ?_))
 refine (mailAnswer_any V p a c W1 (HV.out.below BW.out) HP.out).mono ?_
 rintro q u2 ⟨X2, rfl, hF, hb⟩
 have hX := hF.v0
 have TN := hid (there_new u2 #[.slice none 0 0, .slice none 0 0, .slice none 0 0, .slice none 0 0, .slice none 0 0, .slice none 0 0, .slice none 0 0, .slice none 0 0, .slice none 0 0, .slice none 0 0, .int .i64 0] 28 u2.heap.size 11 rfl (by decide))
 have one := hid (world_one hX)
 have D3 := hid (show Below u2.heap.size u2 ((u2.alloc (.cells #[.slice none 0 0, .slice none 0 0, .slice none 0 0, .slice none 0 0, .slice none 0 0, .slice none 0 0, .slice none 0 0, .slice none 0 0, .slice none 0 0, .slice none 0 0, .int .i64 0] 28)).setCells u2.heap.size 0 (arr11 X2).toList) from below_setCells (bal (Below.refl _ u2) (.cells #[.slice none 0 0, .slice none 0 0, .slice none 0 0, .slice none 0 0, .slice none 0 0, .slice none 0 0, .slice none 0 0, .slice none 0 0, .slice none 0 0, .slice none 0 0, .int .i64 0] 28)) (Nat.le_refl _) _ 0)
 have D5 := hid (btr hb D3.out)
 have RX2 := hid (World.rangeAt_setCells_same (u2.alloc (.cells #[.slice none 0 0, .slice none 0 0, .slice none 0 0, .slice none 0 0, .slice none 0 0, .slice none 0 0, .slice none 0 0, .slice none 0 0, .slice none 0 0, .slice none 0 0, .int .i64 0] 28)) u2.heap.size 0 (arr11 X2).toList TN.out)
 have WX2 := hid (hX.below D3.out)
 replace RX1 := hid (range_below RX1.out D5.out)
 replace WX1 := hid (WX1.out.below D5.out)
 replace RW := hid (range_below RW.out D5.out)
 replace CW := hid (CW.out.below D5.out)
 replace BW := hid (btr BW.out D5.out)
 clear hX hF hb D5 z1 z2 z3
 go_upto_region 5 with (first | ((with_reducible (show wpList _ _ _ (⟨_, Op.store 28 _ _, _, _, _, _⟩ :: _) _ _)); refine wpList_store_mid rfl 28 _ _ rfl u2.heap.size 0 (arr11 X2) rfl rfl TN.out infoW one.out ?_))
 generalize World.setCells _ _ _ _ = W2 at *
 generalize u2.heap.size = xb2 at RX2 ⊢
 clear TN one D3
 have BD : Hid (Below W2.heap.size W2 W2.drew) := hid (below_drew W2 1)
 have KS := hid (show ∀ Y, Below W2.heap.size W2 Y → Y.rangeAt xb1 0 (arr11 X1).toList ∧ Y.rangeAt w.heap.size 0 (arr11 V).toList from fun Y h => ⟨range_below RX1.out h, range_below RW.out h⟩)
 have HSO := hid (fun Y (h : Below W2.heap.size W2 Y) => sound_law V p Y (HV.out.below (btr BW.out h)) HP.out)
 have HDI := hid (fun Y (h : Below W2.heap.size W2 Y) => did_any 38 #[ptr (w.heap.size + 1), ptr (w.heap.size + 2)] (Caps [((w.heap.size + 1), .int .i64 a), ((w.heap.size + 2), .int .i64 b)]) V X1 p (tkP p a b) (tkE p a b) Y (HV.out.below (btr BW.out h)) HP.out (tk_fits HP.out HSM.out.next HSM.out.line _ _) (WX1.out.below h) cf_g1 (fun Z hz x hx => (CW.out.below (btr h hz)) x (by simp only [List.mem_cons, List.not_mem_nil, or_false] at hx ⊢; rcases hx with rfl | rfl <;> simp)) (fun h => (takeRef_deed _ _ a b p HP.out h).caps (by rw [tk_tlbs]; exact HL.out)) (HG.out.below (btr BW.out h)))
 unfold ptr at HDI
 generalize eV (dE p (tkE p a b)) = ev at HDI ⊢
 generalize sndE p = se at HSO HDI
 refine wp_region_held_drew (S := fun Y => Y.rangeAt xb1 0 (arr11 X1).toList ∧ Y.rangeAt w.heap.size 0 (arr11 V).toList) (by kernel_rfl) (KS.out _ BD.out) (fun hH0 => ?_)
 have hH := hid hH0
 clear hH0
 refine Mem.tg 0 (.agg (arr11 X1)) rfl (yieldsIf_load_mid (by rfl) _ _ rfl _ _ rfl ((arr11 X1).toList) _ (fun _ h => h.1) Tryz.underlying28 rfl infoW) hH.out ?_
 simp only [jj]
 refine tk 1 ev rfl hH.out ?_
 simp only [jj]
 refine Mem.tg 2 (.agg (arr11 V)) rfl (yieldsIf_load_mid (by rfl) _ _ rfl _ _ rfl ((arr11 V).toList) _ (fun _ h => h.2) Tryz.underlying28 rfl infoW) hH.out ?_
 simp only [jj]
 refine Mem.tg 3 (.agg (arr11 V)) rfl (yieldsIf_load_mid (by rfl) _ _ rfl _ _ rfl ((arr11 V).toList) _ (fun _ h => h.2) Tryz.underlying28 rfl infoW) hH.out ?_
 simp only [jj]
 refine tk 5 (.func (.func 38) #[] #[.pointer (some ⟨w.heap.size + 1, 0, none⟩), .pointer (some ⟨w.heap.size + 2, 0, none⟩)]) rfl hH.out ?_
 simp only [jj]
 refine wpAnyH_ready (rs := [4]) (by kernel_rfl) (by simp) (AllReadyH.cons rfl (fun K hK => ?_) AllReadyH.nil)
 go_simp
 refine (HSO.out _ BD.out).mono ?_
 rintro q w4 ⟨rfl, hb⟩
 have A4 := hid (btr BD.out hb)
 clear hb
 go_wp2_with fail
 refine hK.out _ _ (KS.out _ A4.out) (fun hH0 => ?_)
 have hH2 := hid hH0
 clear hK K hH0
 try simp only [Act.put, jD, jE, jF]
 refine wpAnyH_ready (rs := [6]) (by kernel_rfl) (by simp) (AllReadyH.cons rfl (fun K hK => ?_) AllReadyH.nil)
 go_simp
 refine (HDI.out _ A4.out).mono ?_
 rintro q v1 ⟨rfl, hb⟩
 have A5 := hid (btr A4.out hb)
 clear hb
 go_wp2_with fail
 refine hK.out _ _ (KS.out _ A5.out) (fun hH0 => ?_)
 have hH3 := hid hH0
 clear hK K hH0
 try simp only [Act.put, jD, jE, jF]
 refine tk 7 (.bool true) rfl hH3.out ?_
 simp only [jj]
 refine wpAnyH_done (by kernel_rfl) ?_ _
 clear hH hH2 hH3 KS HSO HDI BD A4
 replace RX2 := hid (range_below RX2.out A5.out)
 replace WX2 := hid (WX2.out.below A5.out)
 replace RW := hid (range_below RW.out A5.out)
 replace CW := hid (CW.out.below A5.out)
 replace BW := hid (btr BW.out A5.out)
 clear A5
 go_upto_region 6 with fail
 have BD : Hid (Below v1.heap.size v1 v1.drew) := hid (below_drew v1 1)
 have KS := hid (show ∀ Y, Below v1.heap.size v1 Y → Y.rangeAt xb2 0 (arr11 X2).toList ∧ Y.rangeAt w.heap.size 0 (arr11 V).toList from fun Y h => ⟨range_below RX2.out h, range_below RW.out h⟩)
 have HSO := hid (fun Y (h : Below v1.heap.size v1 Y) => sound_law V p Y (HV.out.below (btr BW.out h)) HP.out)
 have HDI := hid (fun Y (h : Below v1.heap.size v1 Y) => did_any 40 #[ptr (w.heap.size + 1), ptr (w.heap.size + 3)] (Caps [((w.heap.size + 1), .int .i64 a), ((w.heap.size + 3), .int .i64 c)]) V X2 p (anP p a c) (anE p a c) Y (HV.out.below (btr BW.out h)) HP.out (an_fits HP.out HSM.out.next _ _) (WX2.out.below h) cf_g2 (fun Z hz x hx => (CW.out.below (btr h hz)) x (by simp only [List.mem_cons, List.not_mem_nil, or_false] at hx ⊢; rcases hx with rfl | rfl <;> simp)) (fun h => (answerRef_deed _ _ a c p HP.out h).caps (by rw [an_tlbs]; exact HL.out)) (HG.out.below (btr BW.out h)))
 unfold ptr at HDI
 generalize eV (dE p (anE p a c)) = ev at HDI ⊢
 generalize sndE p = se at HSO HDI
 refine wp_region_held_drew (S := fun Y => Y.rangeAt xb2 0 (arr11 X2).toList ∧ Y.rangeAt w.heap.size 0 (arr11 V).toList) (by kernel_rfl) (KS.out _ BD.out) (fun hH0 => ?_)
 have hH := hid hH0
 clear hH0
 refine Mem.tg 0 (.agg (arr11 X2)) rfl (yieldsIf_load_mid (by rfl) _ _ rfl _ _ rfl ((arr11 X2).toList) _ (fun _ h => h.1) Tryz.underlying28 rfl infoW) hH.out ?_
 simp only [jj]
 refine tk 1 ev rfl hH.out ?_
 simp only [jj]
 refine Mem.tg 2 (.agg (arr11 V)) rfl (yieldsIf_load_mid (by rfl) _ _ rfl _ _ rfl ((arr11 V).toList) _ (fun _ h => h.2) Tryz.underlying28 rfl infoW) hH.out ?_
 simp only [jj]
 refine Mem.tg 3 (.agg (arr11 V)) rfl (yieldsIf_load_mid (by rfl) _ _ rfl _ _ rfl ((arr11 V).toList) _ (fun _ h => h.2) Tryz.underlying28 rfl infoW) hH.out ?_
 simp only [jj]
 refine tk 5 (.func (.func 40) #[] #[.pointer (some ⟨w.heap.size + 1, 0, none⟩), .pointer (some ⟨w.heap.size + 3, 0, none⟩)]) rfl hH.out ?_
 simp only [jj]
 refine wpAnyH_ready (rs := [4]) (by kernel_rfl) (by simp) (AllReadyH.cons rfl (fun K hK => ?_) AllReadyH.nil)
 go_simp
 refine (HSO.out _ BD.out).mono ?_
 rintro q w4 ⟨rfl, hb⟩
 have A4 := hid (btr BD.out hb)
 clear hb
 go_wp2_with fail
 refine hK.out _ _ (KS.out _ A4.out) (fun hH0 => ?_)
 have hH2 := hid hH0
 clear hK K hH0
 try simp only [Act.put, jD, jE, jF]
 refine wpAnyH_ready (rs := [6]) (by kernel_rfl) (by simp) (AllReadyH.cons rfl (fun K hK => ?_) AllReadyH.nil)
 go_simp
 refine (HDI.out _ A4.out).mono ?_
 rintro q v2 ⟨rfl, hb⟩
 have A5 := hid (btr A4.out hb)
 clear hb
 go_wp2_with fail
 refine hK.out _ _ (KS.out _ A5.out) (fun hH0 => ?_)
 have hH3 := hid hH0
 clear hK K hH0
 try simp only [Act.put, jD, jE, jF]
 refine tk 7 (.bool true) rfl hH3.out ?_
 simp only [jj]
 refine wpAnyH_done (by kernel_rfl) ?_ _
 clear hH hH2 hH3 KS HSO HDI BD A4
 replace RW := hid (range_below RW.out A5.out)
 replace CW := hid (CW.out.below A5.out)
 replace BW := hid (btr BW.out A5.out)
 clear A5
 clear RW CW
 go_wp2_with fail
 go_ret
 exact ⟨rfl, BW.out⟩
end Go.Proofs.YtjjhodfekmpelaaGreatDoor.Wd
