/- Taking a word at a door, and answering, plain: in a sound world the program's way and the document's are the same. -/
import Derived.Test.YtefibbhcikgniaaGreatDoorMlSn0
namespace Go.Proofs.YtefibbhcikgniaaGreatDoor.Wd
open Go.RowKit Go.Proofs.YtefibbhcikgniaaGreatDoor.Mem Go.Proofs.YtefibbhcikgniaaGreatDoor.Bw Go.Proofs.YtefibbhcikgniaaGreatDoor.Nums Go.Proofs.YtefibbhcikgniaaGreatDoor.Mmu

theorem task_els2 (p : PW) (t u i j : Nat) (x y : Int) (h : t ≠ u) : (p.task t i x).task u j y = (p.task u j y).task t i x := by
  have e1 := task_els p u t i x h
  have e2 := task_els p t u j y (Ne.symm h)
  show ({ p with tasks := (p.task t i x).tasks.set u (upd ((p.task t i x).tasks.getD u bl) j y) } : PW) = { p with tasks := (p.task u j y).tasks.set t (upd ((p.task u j y).tasks.getD t bl) i x) }
  rw [e1, e2]
  unfold PW.task
  simp only
  rw [List.set_comm _ _ h]
theorem pl_door {s : Int} (h : pl s = 7) : s = 2 ∨ s = 3 ∨ s = 4 := by
  unfold pl at h
  by_cases h1 : s = 2 ∨ s = 3 ∨ s = 4
  · exact h1
  · rw [if_neg h1] at h
    by_cases h2 : s = 6
    · rw [if_pos h2] at h; omega
    · rw [if_neg h2] at h; omega
theorem in_two (x : Int) : inB x [2, 3] = (decide (x = 2) || decide (x = 3)) := by
  unfold inB cn sumOf one
  by_cases h : x = 2
  · simp [h]
  · by_cases h3 : x = 3
    · simp [h3]
    · simp [h, h3, Ne.symm h, Ne.symm h3]
/-- Who stands first at a door with a word. -/
def fkV (p : PW) (d : Nat) : Int := match p.lines.getD d [] with
  | [] => -1
  | z :: _ => if p.tasks.getD z.toNat bl 9 = 4 then -1 else z
theorem fk_at {p : PW} {d u : Nat} {l : List Int} (hz : p.lines.getD d [] = (u : Int) :: l) : fkV p d = if p.tasks.getD u bl 9 = 4 then -1 else (u : Int) := by
  unfold fkV
  rw [hz]
  rfl
theorem door_state {p : PW} (h : Snd p) {d u : Nat} (hd : d < p.kinds.length) (hkd : p.kinds[d] = 7) (hu : u < p.kinds.length) (hk : p.kinds[u] = 6) (hat : p.tasks.getD u bl 14 = d) : p.tasks.getD u bl 9 = 2 ∨ p.tasks.getD u bl 9 = 3 ∨ p.tasks.getD u bl 9 = 4 := by
  obtain ⟨h1, _⟩ := stands_at h hu hk hat
  have h2 := isB_at hd h1
  exact pl_door (by rw [← h2]; exact hkd)
theorem fk_cases {p : PW} (h : Snd p) {d : Nat} (hd : d < p.kinds.length) (hkd : p.kinds[d] = 7) : (fkV p d = -1) ∨ (∃ (u : Nat) (l : List Int) (hu : u < p.kinds.length), fkV p d = u ∧ p.lines.getD d [] = (u : Int) :: l ∧ p.kinds[u] = 6 ∧ p.tasks.getD u bl 14 = d ∧ (p.tasks.getD u bl 9 = 2 ∨ p.tasks.getD u bl 9 = 3)) := by
  cases hz : p.lines.getD d [] with
  | nil => left; unfold fkV; rw [hz]
  | cons z l =>
    obtain ⟨u, hu, rfl, hk, hat⟩ := line_first h (by rw [h.lf.lines]; exact hd) hz
    have e := fk_at hz
    by_cases h4 : p.tasks.getD u bl 9 = 4
    · left; rw [e, if_pos h4]
    · right
      rw [if_neg h4] at e
      rcases door_state h hd hkd hu hk hat with h5 | h5 | h5
      · exact ⟨u, l, hu, e, rfl, hk, hat, .inl h5⟩
      · exact ⟨u, l, hu, e, rfl, hk, hat, .inr h5⟩
      · exact absurd h5 h4
/-- A word is taken from u, who stood first at d: what both ways have then. -/
def tkQ (p : PW) (d t u : Nat) (l : List Int) : PW := ((((({ p with lines := p.lines.set d l } : PW).task t 1 (p.tasks.getD u bl 16)).task t 2 (p.tasks.getD u bl 15)).task u 16 0).task u 15 0).task u 14 (-1)
theorem tkQ_ref (p : PW) (d t u : Nat) (l : List Int) (hne : t ≠ u) (hu : u < p.tasks.length) : ((((frP p d u l).task t 1 (p.tasks.getD u bl 16)).task t 2 (p.tasks.getD u bl 15)).task u 16 0).task u 15 0 = tkQ p d t u l := by
  unfold tkQ frP
  have hu2 : u < (({ p with lines := p.lines.set d l } : PW)).tasks.length := hu
  rw [task_els2 _ u t 14 1 _ _ (Ne.symm hne), task_els2 _ u t 14 2 _ _ (Ne.symm hne), task_comm _ u 14 16 _ _ (by rw [PW.task_len, PW.task_len]; exact hu2) (by decide), task_comm _ u 14 15 _ _ (by rw [PW.task_len, PW.task_len, PW.task_len]; exact hu2) (by decide)]
/-- The same, before the program's one leaves where it stood. -/
def tkU (p : PW) (t u : Nat) : PW := (((p.task t 1 (p.tasks.getD u bl 16)).task t 2 (p.tasks.getD u bl 15)).task u 16 0).task u 15 0
theorem tkU_len (p : PW) (t u : Nat) : (tkU p t u).tasks.length = p.tasks.length := by
  unfold tkU
  rw [PW.task_len, PW.task_len, PW.task_len, PW.task_len]
theorem tkQ_len (p : PW) (d t u : Nat) (l : List Int) : (tkQ p d t u l).tasks.length = p.tasks.length := by
  unfold tkQ
  rw [PW.task_len, PW.task_len, PW.task_len, PW.task_len, PW.task_len]
theorem tkU_at (p : PW) (t u k : Nat) (hne : t ≠ u) (hu : u < p.tasks.length) (h1 : k ≠ 15) (h2 : k ≠ 16) : (tkU p t u).tasks.getD u bl k = p.tasks.getD u bl k := by
  unfold tkU
  rw [task_at _ u 15 k _ (by rw [PW.task_len, PW.task_len, PW.task_len]; exact hu) h1, task_at _ u 16 k _ (by rw [PW.task_len, PW.task_len]; exact hu) h2, task_els _ u t 2 _ hne, task_els _ u t 1 _ hne]
theorem tkQ_at (p : PW) (d t u k : Nat) (l : List Int) (hne : t ≠ u) (hu : u < p.tasks.length) (h1 : k ≠ 15) (h2 : k ≠ 16) (h3 : k ≠ 14) : (tkQ p d t u l).tasks.getD u bl k = p.tasks.getD u bl k := by
  have h := task_at (tkU p t u) u 14 k (-1) (by rw [tkU_len]; exact hu) h3
  rw [tkU_at p t u k hne hu h1 h2] at h
  exact h
theorem tk_leave {p : PW} (h : Snd p) {d t u : Nat} {l : List Int} (hd : d < p.lines.length) (hz : p.lines.getD d [] = (u : Int) :: l) (hu : u < p.kinds.length) (hk : p.kinds[u] = 6) (hat : p.tasks.getD u bl 14 = d) : lvP (tkU p t u) u = tkQ p d t u l ∧ (∀ n, wkP (tkU p t u) u n = wnP (tkQ p d t u l) u n) := by
  have hl : u < p.tasks.length := by rw [h.lf.tasks]; exact hu
  obtain ⟨_, h1, h2, h3, _⟩ := stands_at h hu hk hat
  have e : p.lines[d]? = some ((u : Int) :: l) := by
    rw [List.getD_eq_getElem?_getD, List.getElem?_eq_getElem hd, Option.getD_some] at hz
    rw [List.getElem?_eq_getElem hd, hz]
  have h4 := lvs_first h1 e
  refine ⟨?_, fun n => ?_⟩
  · show ({ (tkU p t u).task u 14 (-1) with lines := lvs u p.lines, ready := lvs u p.ready, cores := p.cores.map (noT u) } : PW) = _
    rw [h2, h3, h4]
    rfl
  · rw [wk_all _ u n (by rw [tkU_len]; exact hl)]
    show wnP { tkU p t u with lines := lvs u p.lines, ready := lvs u p.ready, cores := p.cores.map (noT u) } u n = _
    rw [h2, h3, h4]
    exact (wn14 ({ tkU p t u with lines := p.lines.set d l } : PW) u n (-1) (by rw [show ({ tkU p t u with lines := p.lines.set d l } : PW).tasks.length = (tkU p t u).tasks.length from rfl, tkU_len]; exact hl)).symm
/-- Taking. -/
def tkP (p : PW) (t0 d0 : Int) : PW := if fkV p d0.toNat = -1 then ssP p t0.toNat d0.toNat 4
  else (if p.tasks.getD (fkV p d0.toNat).toNat bl 9 = 3 then ((tkQ p d0.toNat t0.toNat (fkV p d0.toNat).toNat (p.lines.getD d0.toNat []).tail).task (fkV p d0.toNat).toNat 9 5).task t0.toNat 17 (fkV p d0.toNat) else wnP (tkQ p d0.toNat t0.toNat (fkV p d0.toNat).toNat (p.lines.getD d0.toNat []).tail) (fkV p d0.toNat).toNat (rdN p (fkV p d0.toNat).toNat))
def tkE (p : PW) (t0 d0 : Int) : Int := if mtE p t0 d0 7 = 0 then (if p.tasks.getD t0.toNat bl 17 = -1 then 0 else 7) else mtE p t0 d0 7
theorem tkP_no {p : PW} {t d : Nat} (h : fkV p d = -1) : tkP p t d = ssP p t d 4 := by
  unfold tkP
  rw [Int.toNat_natCast, Int.toNat_natCast, if_pos h]
theorem tkP_yes {p : PW} {t d u : Nat} {l : List Int} (h : fkV p d = u) (hz : p.lines.getD d [] = (u : Int) :: l) : tkP p t d = if p.tasks.getD u bl 9 = 3 then ((tkQ p d t u l).task u 9 5).task t 17 u else wnP (tkQ p d t u l) u (rdN p u) := by
  unfold tkP
  rw [Int.toNat_natCast, Int.toNat_natCast, h, if_neg (by omega), Int.toNat_natCast, hz]
  rfl
theorem tkQ_fits {p : PW} (h : p.Fits) (d t u : Nat) (l : List Int) (hl : l.length ≤ 1000) : (tkQ p d t u l).Fits := by
  unfold tkQ
  exact tsk_fits (tsk_fits (tsk_fits (tsk_fits (tsk_fits (show ({ p with lines := p.lines.set d l } : PW).Fits from ⟨h.ram, h.kinds, h.slots, h.tasks, (fr_fits h d u l hl).lines, (fr_fits h d u l hl).line, h.bits, h.cores, h.ready, h.next, h.tlbs, h.doms⟩) t 1 _) t 2 _) u 16 0) u 15 0) u 14 (-1)
theorem tkU_fits {p : PW} (h : p.Fits) (t u : Nat) : (tkU p t u).Fits := tsk_fits (tsk_fits (tsk_fits (tsk_fits h t 1 _) t 2 _) u 16 0) u 15 0
theorem tk_fits {p : PW} (h : p.Fits) (hs : ∀ l ∈ p.ready, l.length ≤ 50) (hl : ∀ l ∈ p.lines, l.length ≤ 50) (t0 d0 : Int) : (tkP p t0 d0).Fits := by
  have h1 : (tkQ p d0.toNat t0.toNat (fkV p d0.toNat).toNat (p.lines.getD d0.toNat []).tail).Fits := tkQ_fits h _ _ _ _ (by
    rw [List.length_tail, List.getD_eq_getElem?_getD]
    cases e : p.lines[d0.toNat]? with
    | none => simp
    | some y =>
      have := hl y (List.mem_of_getElem? e)
      rw [Option.getD_some]
      omega)
  unfold tkP
  split
  · exact ss_fits h hl _ _ _
  · split
    · exact tsk_fits (tsk_fits h1 _ 9 5) _ 17 _
    · exact wn_fits h1 hs _ _
theorem tk_tlbs (p : PW) (t0 d0 : Int) : (tkP p t0 d0).tlbs = p.tlbs := by
  unfold tkP
  split
  · rfl
  · split <;> rfl
/-- Answering. -/
def anP (p : PW) (t0 v : Int) : PW := wnP (((p.task t0.toNat 17 (-1)).task (p.tasks.getD t0.toNat bl 17).toNat 1 0).task (p.tasks.getD t0.toNat bl 17).toNat 2 v) (p.tasks.getD t0.toNat bl 17).toNat (rdN p (p.tasks.getD t0.toNat bl 17).toNat)
def anE (p : PW) (t0 v : Int) : Int := if mtE p t0 t0 6 = 0 then (if wB v = true then (if p.tasks.getD t0.toNat bl 17 = -1 then 6 else 0) else 1) else mtE p t0 t0 6
theorem mt_self (p : PW) (t : Int) : mtE p t t 6 = if thE p t 6 = 0 then (if inB t p.cores = true then 0 else 7) else thE p t 6 := by
  unfold mtE thE
  cases frB p t <;> cases isB p t 6 <;> simp
theorem anP_at {p : PW} {t u : Nat} (v : Int) (h : p.tasks.getD t bl 17 = u) : anP p t v = wnP (((p.task t 17 (-1)).task u 1 0).task u 2 v) u (rdN p u) := by
  unfold anP
  rw [Int.toNat_natCast, h, Int.toNat_natCast]
theorem an_fits {p : PW} (h : p.Fits) (hs : ∀ l ∈ p.ready, l.length ≤ 50) (t0 v : Int) : (anP p t0 v).Fits := wn_fits (tsk_fits (tsk_fits (tsk_fits h _ 17 (-1)) _ 1 0) _ 2 v) hs _ _
theorem an_tlbs (p : PW) (t0 v : Int) : (anP p t0 v).tlbs = p.tlbs := rfl
/-- Who owes, owes a task that asks: it stands nowhere. -/
theorem owed_in {p : PW} (h : Snd p) {t : Nat} (ht : t < p.kinds.length) (hk : p.kinds[t] = 6) (h0 : p.tasks.getD t bl 17 ≠ -1) : ∃ (u : Nat) (hu : u < p.kinds.length), p.tasks.getD t bl 17 = u ∧ p.kinds[u] = 6 ∧ p.tasks.getD u bl 9 = 5 ∧ lvs u p.lines = p.lines ∧ lvs u p.ready = p.ready ∧ p.cores.map (noT u) = p.cores := by
  obtain ⟨_, hf, hd, _, _⟩ := snd_task h ht hk
  unfold ffB at hf
  rw [Bool.and_eq_true] at hf
  have h1 := hf.2
  unfold isOrB at h1
  have h2 : (p.tasks.getD t bl 17 == -1) = false := by simpa using h0
  rw [h2, Bool.false_or] at h1
  generalize e : p.tasks.getD t bl 17 = z at *
  obtain ⟨u, hu, rfl, hku⟩ : ∃ (u : Nat) (hu : u < p.kinds.length), z = u ∧ p.kinds[u] = 6 := by
    unfold isB kindAt at h1
    by_cases hz : 0 ≤ z
    · rw [if_pos hz] at h1
      obtain ⟨u, rfl⟩ : ∃ u : Nat, z = u := ⟨z.toNat, by omega⟩
      rw [Int.toNat_natCast] at h1
      obtain ⟨hu, h6⟩ := List.getElem?_eq_some_iff.1 (eq_of_beq h1)
      exact ⟨u, hu, rfl, h6⟩
    · rw [if_neg hz] at h1
      cases h1
  unfold dbB at hd
  rw [Bool.and_eq_true] at hd
  have h3 := hd.1
  unfold owB at h3
  rw [e, h2, Bool.false_or, Bool.and_eq_true] at h3
  have hul : u < p.tasks.length := by rw [h.lf.tasks]; exact hu
  have h4 := eq_of_beq h3.1
  rw [stV_at hul] at h4
  have h5 : p.tasks.getD u bl 9 = 5 := by rw [List.getD_eq_getElem?_getD, List.getElem?_eq_getElem hul]; exact h4
  obtain ⟨_, _, _, hs, hr⟩ := snd_task h hu hku
  unfold srB at hs
  rw [h5, if_pos (by decide), Bool.and_eq_true] at hs
  unfold rrB at hr
  rw [h5, if_neg (by decide)] at hr
  have h6 := eq_of_beq hs.2
  have h7 := eq_of_beq hr
  exact ⟨u, hu, rfl, hku, h5, lvs_self (by omega), lvs_self (by omega), noT_self (by omega)⟩
theorem an_eq {p : PW} {t u : Nat} (v : Int) (hne : t ≠ u) (hu : u < p.tasks.length) (h4 : lvs u p.lines = p.lines) (h7 : lvs u p.ready = p.ready) (h6 : p.cores.map (noT u) = p.cores) (n : Nat) :
    (wkP ((p.task u 1 0).task u 2 v) u n).task t 17 (-1) = wnP (((p.task t 17 (-1)).task u 1 0).task u 2 v) u n := by
  rw [wk_all _ u n (by rw [PW.task_len, PW.task_len]; exact hu)]
  show (wnP { (p.task u 1 0).task u 2 v with lines := lvs u p.lines, ready := lvs u p.ready, cores := p.cores.map (noT u) } u n).task t 17 (-1) = _
  rw [h4, h7, h6]
  show (wnP ((p.task u 1 0).task u 2 v) u n).task t 17 (-1) = _
  have e := task_els2 ((((p.task u 1 0).task u 2 v).task u 9 1)) u t 14 17 (-1) (-1) (Ne.symm hne)
  have e2 := task_els2 (((p.task u 1 0).task u 2 v)) u t 9 17 1 (-1) (Ne.symm hne)
  have e3 := task_els2 ((p.task u 1 0)) u t 2 17 v (-1) (Ne.symm hne)
  have e4 := task_els2 p u t 1 17 0 (-1) (Ne.symm hne)
  rw [e2, e3, e4] at e
  unfold wnP
  show ({ ((((p.task u 1 0).task u 2 v).task u 9 1).task u 14 (-1)).task t 17 (-1) with ready := _ } : PW) = _
  rw [e]
  rfl
end Go.Proofs.YtefibbhcikgniaaGreatDoor.Wd
