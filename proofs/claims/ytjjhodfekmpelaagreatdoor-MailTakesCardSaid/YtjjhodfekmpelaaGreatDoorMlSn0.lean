/- What sending and taking a word have in common, plain; mail.ask, walked. (Cut out of MlSn.) -/
import Derived.Test.YtjjhodfekmpelaaGreatDoorGRfM2
import Derived.Test.YtjjhodfekmpelaaGreatDoorMlB
namespace Go.Proofs.YtjjhodfekmpelaaGreatDoor.Wd
open Go.RowKit Go.Proofs.YtjjhodfekmpelaaGreatDoor.Mem Go.Proofs.YtjjhodfekmpelaaGreatDoor.Bw Go.Proofs.YtjjhodfekmpelaaGreatDoor.Nums Go.Proofs.YtjjhodfekmpelaaGreatDoor.Mmu
theorem no_in {t : Int} : ∀ {ls : List (List Int)}, lvs t ls = ls → ∀ l ∈ ls, ∀ z ∈ l, z ≠ t
 | [], _, _, h => by cases h
 | a :: r, h, l, hl => by
  unfold lvs at h
  rw [List.map_cons] at h
  injection h with h1 h2
  rcases List.mem_cons.1 hl with rfl | hl
  ·intro z hz e
   unfold goneP at h1
   rw [← h1] at hz
   have := (List.mem_filter.1 hz).2
   simp [e] at this
  ·exact no_in (ls := r) h2 l hl
theorem of_no {t : Int} {ls : List (List Int)} (h : ∀ l ∈ ls, ∀ z ∈ l, z ≠ t) : lvs t ls = ls := by
 unfold lvs
 conv => rhs; rw [← List.map_id ls]
 exact List.map_congr_left fun l hl => by
  unfold goneP
  exact List.filter_eq_self.2 fun z hz => by simpa using h l hl z hz
theorem upd_self (f : Nat → Int) (k : Nat) : upd f k (f k) = f := by
 funext j
 unfold upd
 by_cases h : j = k
 ·rw [if_pos h, h]
 ·rw [if_neg h]
theorem task_self (p : PW) (t k : Nat) (ht : t < p.tasks.length) : p.task t k (p.tasks.getD t bl k) = p := by
 unfold PW.task
 rw [upd_self]
 have e : p.tasks.set t (p.tasks.getD t bl) = p.tasks := by
  rw [List.getD_eq_getElem?_getD, List.getElem?_eq_getElem ht, Option.getD_some, List.set_getElem_self]
 rw [e]
theorem task_els (p : PW) (t u k : Nat) (x : Int) (h : u ≠ t) : (p.task u k x).tasks.getD t bl = p.tasks.getD t bl := by
 unfold PW.task
 rw [List.getD_eq_getElem?_getD]
 show ((p.tasks.set u _)[t]?).getD bl = _
 rw [List.getElem?_set_ne h, List.getD_eq_getElem?_getD]
theorem ask_eq {q : PW} {t : Nat} (ht : t < q.tasks.length) (h4 : lvs t q.lines = q.lines) (h7 : lvs t q.ready = q.ready) (h14 : q.tasks.getD t bl 14 = -1) : lvP q t = { q with cores := q.cores.map (noT t) } := by
 have e := task_self q t 14 ht
 rw [h14] at e
 unfold lvP
 rw [h4, h7, e]
theorem stand_eq2 {q : PW} {t a : Nat} (hl : t < q.tasks.length) (h4 : lvs t q.lines = q.lines) (h7 : lvs t q.ready = q.ready) (s : Int) : sdP q t a s = ssP q t a s := by
 unfold sdP ssP
 rw [h4]
 have e : ((lvP q t).task t 9 s).task t 14 a = (({ q with cores := q.cores.map (noT t) } : PW).task t 9 s).task t 14 a := by
  unfold lvP
  rw [h4, h7]
  show ((({ q with cores := q.cores.map (noT t) } : PW).task t 14 (-1)).task t 9 s).task t 14 a = _
  have hl2 : t < (({ q with cores := q.cores.map (noT t) } : PW)).tasks.length := hl
  rw [task_comm _ t 14 9 _ _ hl2 (by decide), task_same _ t 14 _ _ (by rw [PW.task_len]; exact hl2)]
 rw [e]
theorem core_at {p : PW} (h : Snd p) {t : Nat} (ht : t < p.kinds.length) (hk : p.kinds[t] = 6) (hc : inB t p.cores = true) : p.tasks.getD t bl 14 = -1 := by
 obtain ⟨_, _, h9⟩ := core_in h ht hk hc
 obtain ⟨_, _, _, hs, _⟩ := snd_task h ht hk
 unfold srB at hs
 rw [h9, if_pos (by decide), Bool.and_eq_true] at hs
 exact eq_of_beq hs.1
theorem pushl_le {ls : List (List Int)} {k : Nat} {x : Int} {n : Nat} (h : ∀ l ∈ ls, l.length ≤ n) : ∀ l ∈ ls.set k (ls.getD k [] ++ [x]), l.length ≤ n + 1 := fun l hl => by
 rcases List.mem_or_eq_of_mem_set hl with h1 | h1
 ·exact Nat.le_trans (h l h1) (Nat.le_succ _)
 ·rw [h1, List.length_append, List.getD_eq_getElem?_getD]
  cases e : ls[k]? with
  | none => simp
  | some l0 => exact Nat.succ_le_succ (h l0 (List.mem_of_getElem? e))
theorem wn_fits {p : PW} (h : p.Fits) (hs : ∀ l ∈ p.ready, l.length ≤ 50) (t n : Nat) : (wnP p t n).Fits :=
 ⟨h.ram, h.kinds, h.slots, (tsk_fits (tsk_fits h t 9 1) t 14 (-1)).tasks, h.lines, h.line, h.bits, h.cores, by show (p.ready.set n _).length ≤ 1000; rw [List.length_set]; exact h.ready, fun l hl => Nat.le_trans (pushl_le hs l hl) (by omega), h.tlbs, h.doms⟩
theorem tl_le {p : PW} (h : p.Fits) {d : Nat} {z : Int} {l : List Int} (hz : p.lines.getD d [] = z :: l) : l.length + 1 ≤ 1000 := by
 rw [List.getD_eq_getElem?_getD] at hz
 cases e : p.lines[d]? with
 | none => rw [e] at hz; cases hz
 | some y =>
  rw [e, Option.getD_some] at hz
  have h1 := h.line y (List.mem_of_getElem? e)
  rw [hz, List.length_cons] at h1
  exact h1
theorem no_fits {p : PW} (h : p.Fits) (t : Nat) : ({ p with cores := p.cores.map (noT t) } : PW).Fits := ⟨h.ram, h.kinds, h.slots, h.tasks, h.lines, h.line, h.bits, by show (p.cores.map (noT t)).length ≤ 1000; rw [List.length_map]; exact h.cores, h.ready, h.next, h.tlbs, h.doms⟩
theorem ss_fits {p : PW} (h : p.Fits) (hs : ∀ l ∈ p.lines, l.length ≤ 50) (t a : Nat) (s : Int) : (ssP p t a s).Fits := by
 have h2 := no_fits h t
 have h3 := tsk_fits (tsk_fits h2 t 9 s) t 14 a
 exact ⟨h.ram, h.kinds, h.slots, h3.tasks, by show (p.lines.set a _).length ≤ 1000; rw [List.length_set]; exact h.lines, fun l hl => Nat.le_trans (pushl_le hs l hl) (by omega), h.bits, h2.cores, h.ready, h.next, h.tlbs, h.doms⟩
set_option maxRecDepth 100000 in
set_option maxHeartbeats 4000000 in
theorem ask_any (wb : Nat) (tag : Nat → Nat) (V : Nat → Value) (p : PW) (t u : Nat) (W : World) (bt : BoxT W wb tag V p) (hp : p.Fits) (ht : t < p.tasks.length) (hu : u < p.tasks.length) :
  Calls Tryz.prog 87 #[.pointer (some ⟨wb, 0, none⟩), .int .i64 t, .int .i64 u] W fun r W' => r = .returned (.tuple #[]) ∧ BoxT W' wb tag V (((lvP p t).task t 9 5).task u 17 t) ∧ Kt tag tag W W' := by
 have HLV := hid (leaveW_any wb tag V p t W bt hp ht)
 have LT := hid (show (lvP p t).tasks.length = p.tasks.length from PW.task_len p t 14 (-1))
 have hl3 : (p.tasks.length : Int) ≤ 1000 := by have := hp.tasks; omega
 have ht2 : (t : Int) < (p.tasks.length : Int) := by omega
 obtain ⟨g3, cap3, e3⟩ := bt.o.tasks.form (by omega)
 have E3 := hid e3
 have HTT := hid ht
 have hu2 : (u : Int) < (p.tasks.length : Int) := by omega
 have HUU := hid hu
 clear bt hp e3 ht hu
 go_enter Tryz.func87, Tryz.ntmps87
 go_wp2_with fail
 refine HLV.out.mono ?_
 rintro r w0 ⟨rfl, h1, h2⟩
 have B0 := hid h1
 have K0 := hid h2
 clear h1 h2 HLV
 have e4 := hid (show V 3 = .slice (some ⟨g3, 0, none⟩) (lvP p t).tasks.length cap3 by rw [LT.out]; exact E3.out)
 have c3 : w0.cell? ⟨wb, 3, none⟩ = some (.slice (some ⟨g3, 0, none⟩) p.tasks.length cap3) := by rw [range_cell B0.out.r (k := 3) rfl, E3.out]
 have xa := B0.out.taskAt e4.out (i := t) (by rw [LT.out]; exact HTT.out) (show 9 < 20 by omega)
 have fa := B0.out.tasksFr e4.out (t * 20 + 9)
 obtain ⟨b1, q1⟩ := B0.out.task e4.out (i := t) (by rw [LT.out]; exact HTT.out) (show 9 < 20 by omega) 5
 have B1 := hid b1
 have K1 := hid (K0.out.trans q1)
 clear b1 q1 e4
 clear B0 K0
 go_upto_region 2 with fail
 generalize World.setCell _ _ _ = W1 at *
 clear c3 xa fa
 have e4 := hid (show V 3 = .slice (some ⟨g3, 0, none⟩) ((lvP p t).task t 9 5).tasks.length cap3 by rw [PW.task_len, LT.out]; exact E3.out)
 have c3 : W1.cell? ⟨wb, 3, none⟩ = some (.slice (some ⟨g3, 0, none⟩) p.tasks.length cap3) := by rw [range_cell B1.out.r (k := 3) rfl, E3.out]
 have xa := B1.out.taskAt e4.out (i := u) (by rw [PW.task_len, LT.out]; exact HUU.out) (show 17 < 20 by omega)
 have fa := B1.out.tasksFr e4.out (u * 20 + 17)
 obtain ⟨b1, q1⟩ := B1.out.task e4.out (i := u) (by rw [PW.task_len, LT.out]; exact HUU.out) (show 17 < 20 by omega) t
 have B2 := hid b1
 have K2 := hid (K1.out.trans q1)
 clear b1 q1 e4
 clear B1 K1
 go_wp2_with fail
 exact bodyPost_end (results_none rfl _ _ _) rfl ⟨rfl, B2.out, K2.out⟩
theorem frB_in {p : PW} {f : Int} (h : frB p f = true) : ∃ t : Nat, t < p.kinds.length ∧ f = t := by
 unfold frB at h
 have h3 := of_decide_eq_true h
 exact ⟨f.toNat, by omega, by omega⟩
theorem mt_in {p : PW} {t a k : Int} (h : mtE p t a k = 0) : ∃ (t' a' : Nat) (ht : t' < p.kinds.length) (ha : a' < p.kinds.length), t = t' ∧ a = a' ∧ p.kinds[t'] = 6 ∧ p.kinds[a'] = k ∧ inB t p.cores = true := by
 unfold mtE at h
 by_cases h1 : (frB p t && frB p a) = true
 ·rw [if_pos h1] at h
  by_cases h2 : (isB p t 6 && isB p a k) = true
  ·rw [if_pos h2] at h
   by_cases h3 : inB t p.cores = true
   ·rw [Bool.and_eq_true] at h1 h2
    obtain ⟨t', ht, rfl⟩ := frB_in h1.1
    obtain ⟨a', ha, rfl⟩ := frB_in h1.2
    exact ⟨t', a', ht, ha, rfl, rfl, isB_at ht h2.1, isB_at ha h2.2, h3⟩
   ·rw [if_neg h3] at h; cases h
  ·rw [if_neg h2] at h; cases h
 ·rw [if_neg h1] at h; cases h
end Go.Proofs.YtjjhodfekmpelaaGreatDoor.Wd
