/- Sending a word, plain; keyholdref.SendWord, mail.sending; what mail.Send does, and what the document asks of it; walked. (Written by mk_send.py, mk_send2.py.) -/
import Derived.Test.YtakmaeohhclngaaGreatDoorRbg
import Derived.Test.YtakmaeohhclngaaGreatDoorRbh
import Derived.Test.YtakmaeohhclngaaGreatDoorRbm
namespace Go.Proofs.YtakmaeohhclngaaGreatDoor.Wd
open Go.RowKit Go.Proofs.YtakmaeohhclngaaGreatDoor.Mem Go.Proofs.YtakmaeohhclngaaGreatDoor.Bw Go.Proofs.YtakmaeohhclngaaGreatDoor.Nums Go.Proofs.YtakmaeohhclngaaGreatDoor.Mmu
/-- Who asks. -/
def akP (q : PW) (t u : Nat) : PW := (({ q with cores := q.cores.map (noT t) } : PW).task t 9 5).task u 17 t
/-- Who waits first at a door. -/
def fsV (p : PW) (d : Nat) : Int := match p.lines.getD d [] with
 | [] => -1
 | z :: _ => if p.tasks.getD z.toNat bl 9 = 4 then z else -1
/-- A word to who waits. -/
def wdP (p : PW) (d u : Nat) (l : List Int) (b v : Int) : PW := wnP (((frP p d u l).task u 1 b).task u 2 v) u (rdN p u)
/-- Sending. -/
def snP (p : PW) (t0 d0 b v : Int) (c : Bool) : PW := if fsV p d0.toNat = -1 then ssP ((p.task t0.toNat 15 v).task t0.toNat 16 b) t0.toNat d0.toNat (if c then 3 else 2)
 else (if c then akP (wdP p d0.toNat (fsV p d0.toNat).toNat (p.lines.getD d0.toNat []).tail b v) t0.toNat (fsV p d0.toNat).toNat else wdP p d0.toNat (fsV p d0.toNat).toNat (p.lines.getD d0.toNat []).tail b v)
def snE (p : PW) (t0 d0 b v : Int) : Int := if mtE p t0 d0 7 = 0 then (if (wB b && wB v) = true then 0 else 1) else mtE p t0 d0 7
theorem fs_cases {p : PW} (h : Snd p) {d : Nat} (hd : d < p.lines.length) : (fsV p d = -1) ∨ (∃ (u : Nat) (l : List Int) (hu : u < p.kinds.length), fsV p d = u ∧ p.lines.getD d [] = (u : Int) :: l ∧ p.kinds[u] = 6 ∧ p.tasks.getD u bl 14 = d ∧ p.tasks.getD u bl 9 = 4) := by
 cases hz : p.lines.getD d [] with
 | nil => left; unfold fsV; rw [hz]
 | cons z l =>
  obtain ⟨u, hu, rfl, hk, hat⟩ := line_first h hd hz
  by_cases h4 : p.tasks.getD u bl 9 = 4
  ·right
   exact ⟨u, l, hu, by unfold fsV; rw [hz]; show (if p.tasks.getD u bl 9 = 4 then (u : Int) else -1) = u; rw [if_pos h4], rfl, hk, hat, h4⟩
  ·left
   unfold fsV
   rw [hz]
   show (if p.tasks.getD u bl 9 = 4 then (u : Int) else -1) = -1
   rw [if_neg h4]
theorem snP_no {p : PW} {t d : Nat} (b v : Int) (c : Bool) (h : fsV p d = -1) : snP p t d b v c = ssP ((p.task t 15 v).task t 16 b) t d (if c then 3 else 2) := by
 unfold snP
 rw [Int.toNat_natCast, Int.toNat_natCast, if_pos h]
theorem snP_yes {p : PW} {t d u : Nat} {l : List Int} (b v : Int) (c : Bool) (h : fsV p d = u) (hz : p.lines.getD d [] = (u : Int) :: l) : snP p t d b v c = if c then akP (wdP p d u l b v) t u else wdP p d u l b v := by
 unfold snP
 rw [Int.toNat_natCast, Int.toNat_natCast, h, if_neg (by omega), Int.toNat_natCast, hz]
 rfl
theorem wd_len (p : PW) (d u : Nat) (l : List Int) (b v : Int) : (wdP p d u l b v).tasks.length = p.tasks.length := by
 show (((((frP p d u l).task u 1 b).task u 2 v).task u 9 1).task u 14 (-1)).tasks.length = _
 rw [PW.task_len, PW.task_len, PW.task_len, PW.task_len, fr_len]
theorem wd_at (p : PW) (d u t : Nat) (l : List Int) (b v : Int) (h : u ≠ t) : (wdP p d u l b v).tasks.getD t bl = p.tasks.getD t bl := by
 show (((((frP p d u l).task u 1 b).task u 2 v).task u 9 1).task u 14 (-1)).tasks.getD t bl = _
 rw [task_els _ t u _ _ h, task_els _ t u _ _ h, task_els _ t u _ _ h, task_els _ t u _ _ h]
 exact task_els ({ p with lines := p.lines.set d l } : PW) t u 14 (-1) h
theorem wd_ask {p : PW} (h : Snd p) {t d u : Nat} {l : List Int} (ht : t < p.kinds.length) (hk : p.kinds[t] = 6) (hc : inB t p.cores = true) (hz : p.lines.getD d [] = (u : Int) :: l) (h4 : p.tasks.getD u bl 9 = 4) (b v : Int) : u ≠ t ∧ lvP (wdP p d u l b v) t = { wdP p d u l b v with cores := (wdP p d u l b v).cores.map (noT t) } := by
 obtain ⟨e4, e7, e9⟩ := core_in h ht hk hc
 have hne : u ≠ t := by
  rintro rfl
  omega
 have htl : t < p.tasks.length := by rw [h.lf.tasks]; exact ht
 refine ⟨hne, ask_eq (by rw [wd_len]; exact htl) (of_no ?_) (of_no ?_) (by rw [wd_at p d u t l b v hne]; exact core_at h ht hk hc)⟩
 ·intro x hx
  have hx2 : x ∈ p.lines.set d l := hx
  rcases List.mem_or_eq_of_mem_set hx2 with h1 | rfl
  ·exact no_in e4 x h1
  ·intro z hz2
   rw [List.getD_eq_getElem?_getD] at hz
   cases e : p.lines[d]? with
   | none => rw [e] at hz; cases hz
   | some y =>
    rw [e, Option.getD_some] at hz
    exact no_in e4 y (List.mem_of_getElem? e) z (by rw [hz]; exact List.mem_cons_of_mem _ hz2)
 ·intro x hx
  have hx2 : x ∈ p.ready.set (rdN p u) (p.ready.getD (rdN p u) [] ++ [(u : Int)]) := hx
  rcases List.mem_or_eq_of_mem_set hx2 with h1 | rfl
  ·exact no_in e7 x h1
  ·intro z hz2
   rcases List.mem_append.1 hz2 with h2 | h2
   ·rw [List.getD_eq_getElem?_getD] at h2
    cases e : p.ready[rdN p u]? with
    | none => rw [e] at h2; cases h2
    | some y =>
     rw [e, Option.getD_some] at h2
     exact no_in e7 y (List.mem_of_getElem? e) z h2
   ·rw [List.mem_singleton] at h2
    omega
theorem wd_fits {p : PW} (h : p.Fits) (hs : ∀ l ∈ p.ready, l.length ≤ 50) (d u : Nat) (l : List Int) (hl : l.length ≤ 1000) (b v : Int) : (wdP p d u l b v).Fits := wn_fits (tsk_fits (tsk_fits (fr_fits h d u l hl) u 1 b) u 2 v) hs _ _
theorem sn_tlbs (p : PW) (t0 d0 b v : Int) (c : Bool) : (snP p t0 d0 b v c).tlbs = p.tlbs := by
 unfold snP
 split
 ·rfl
 ·split <;> rfl
theorem sending_any (c : Bool) (W : World) : Calls Tryz.prog 33 #[.bool c] W fun r W' => r = .returned (.int .i64 (if c then 3 else 2)) ∧ W = W' := by
 cases c <;>
 ·go_enter Tryz.func33, Tryz.ntmps33
  go_wp2_with fail
  go_ret
  exact ⟨rfl, rfl⟩
theorem first_wait (wb : Nat) (tag : Nat → Nat) (V : Nat → Value) (p : PW) (d : Nat) (sv : Value) (W : World) (bt : BoxT W wb tag V p) (hp : p.Fits) (hs : Snd p) (hd : d < p.lines.length) (hsv : IntsIn W sv [4]) :
  Calls Tryz.prog 26 #[.pointer (some ⟨wb, 0, none⟩), .int .i64 d, sv] W fun r W' => r = .returned (.int .i64 (fsV p d)) ∧ Below W.heap.size W W' := by
 cases hz : p.lines.getD d [] with
 | nil =>
  have e : fsV p d = -1 := by unfold fsV; rw [hz]
  rw [e]
  exact first_nil wb tag V p d sv W bt hp hd hz
 | cons z l =>
  obtain ⟨u, hu, rfl, hk, hat⟩ := line_first hs hd hz
  have e : fsV p d = if p.tasks.getD u bl 9 = 4 then (u : Int) else -1 := by unfold fsV; rw [hz]; rfl
  rw [e]
  exact first_cons wb tag V p d u l sv 4 W bt hp hd hz (by rw [hs.lf.tasks]; exact hu) hsv
set_option maxRecDepth 100000 in
set_option maxHeartbeats 4000000 in
theorem send_deed (c1 c2 c3 c4 c5 : Nat) (t0 d0 b v : Int) (c : Bool) (p : PW) (hp : p.Fits) (hn : ∀ l ∈ p.ready, l.length ≤ 50) (hl : ∀ l ∈ p.tlbs, l.length ≤ 100) (hs : Snd p) : DeedT 31 #[ptr c1, ptr c2, ptr c3, ptr c4, ptr c5] (CapsT [(c1, .int .i64 t0), (c2, .int .i64 d0), (c3, .int .i64 b), (c4, .int .i64 v), (c5, .bool c)]) eV p (snP p t0 d0 b v c) (snE p t0 d0 b v) := by
 intro W wb tag V bt hc
 have x1 := (hc (c1, .int .i64 t0) (by simp)).1
 have x2 := (hc (c2, .int .i64 d0) (by simp)).1
 have HC := hid hc
 have HT := hid (meet_any wb tag V p t0 d0 7 W bt hp hl hs)
 have HB := hid (fun X => isWord_any b X)
 have HV := hid (fun X => isWord_any v X)
 have B0 := hid bt
 unfold ptr
 simp only [List.append_toArray, List.cons_append, List.nil_append]
 by_cases h0 : mtE p t0 d0 7 = 0
 rotate_left
 ·have HE := hid (show snE p t0 d0 b v = mtE p t0 d0 7 from if_neg h0)
  rw [HE.out]
  rw [eV_n h0] at HT ⊢
  have HN := hid h0
  generalize mtE p t0 d0 7 = x at HT HN ⊢
  clear h0 bt hp hl hs hc hn HE
  go_enter Tryz.func31, Tryz.ntmps31
  go_wp2_with fail
  refine HT.out.mono ?_
  rintro q w1 ⟨rfl, hb⟩
  have B1 := hid (B0.out.below hb)
  have K1 := hid (show Kt tag tag W w1 from .below hb)
  clear hb x1 x2 HT B0
  go_wp2_with fail
  go_ret
  exact ⟨rfl, tag, K1.out, fun h => absurd h HN.out⟩
 have hE0 : snE p t0 d0 b v = if (wB b && wB v) = true then 0 else 1 := if_pos h0
 obtain ⟨t, d, ht, hd, rfl, rfl, hk, hkd, hin⟩ := mt_in h0
 rw [h0, eV_0] at HT
 cases hwb : wB b with
 | false =>
  rw [hE0, hwb, Bool.false_and, if_neg (by decide)]
  simp only [hwb] at HB
  clear h0 bt hp hl hs hc hn hE0 hwb hk hkd hin HV
  go_enter Tryz.func31, Tryz.ntmps31
  go_wp2_with fail
  refine HT.out.mono ?_
  rintro q w1 ⟨rfl, hb⟩
  have B1 := hid (B0.out.below hb)
  have K1 := hid (show Kt tag tag W w1 from .below hb)
  clear hb x1 x2 HT B0
  have z3 := (HC.out.kt K1.out (c3, .int .i64 b) (by simp)).1
  go_wp2_with fail
  refine (HB.out _).mono ?_
  rintro q u1 ⟨rfl, rfl⟩
  go_wp2_with fail
  go_ret
  exact ⟨rfl, tag, K1.out, fun h => by cases h⟩
 | true =>
 simp only [hwb] at HB
 cases hwv : wB v with
 | false =>
  rw [hE0, hwb, hwv, Bool.and_false, if_neg (by decide)]
  simp only [hwv] at HV
  clear h0 bt hp hl hs hc hn hE0 hwb hwv hk hkd hin
  go_enter Tryz.func31, Tryz.ntmps31
  go_wp2_with fail
  refine HT.out.mono ?_
  rintro q w1 ⟨rfl, hb⟩
  have B1 := hid (B0.out.below hb)
  have K1 := hid (show Kt tag tag W w1 from .below hb)
  clear hb x1 x2 HT B0
  have z3 := (HC.out.kt K1.out (c3, .int .i64 b) (by simp)).1
  have z4 := (HC.out.kt K1.out (c4, .int .i64 v) (by simp)).1
  go_wp2_with fail
  refine (HB.out _).mono ?_
  rintro q u1 ⟨rfl, rfl⟩
  go_wp2_with fail
  refine (HV.out _).mono ?_
  rintro q u1 ⟨rfl, rfl⟩
  go_wp2_with fail
  go_ret
  exact ⟨rfl, tag, K1.out, fun h => by cases h⟩
 | true =>
 simp only [hwv] at HV
 rw [hE0, hwb, hwv, Bool.and_true, if_pos rfl, eV_0]
 have htl : t < p.tasks.length := by rw [hs.lf.tasks]; exact ht
 have hdl : d < p.lines.length := by rw [hs.lf.lines]; exact hd
 obtain ⟨e4, e7, e9⟩ := core_in hs ht hk hin
 have HF := hid (fun X (h : BoxT X wb tag V p) => first_wait wb tag V p d (.slice (some ⟨X.heap.size, 0, none⟩) 1 1) (X.alloc (.cells #[.int .i64 4] 3)) (h.below (bal (Below.refl X.heap.size X) (.cells #[.int .i64 4] 3))) hp hs hdl ⟨some ⟨X.heap.size, 0, none⟩, X.heap.size, 0, 1, rfl, fun _ => rfl, fun j hj => by
  obtain rfl : j = 0 := by simp at hj; omega
  exact cells_new X #[.int .i64 4] 3 0⟩)
 have hl3 : (p.tasks.length : Int) ≤ 1000 := by have := hp.tasks; omega
 have ht2 : (t : Int) < (p.tasks.length : Int) := by omega
 rcases fs_cases hs hdl with hfs | ⟨u, l, hu, hfs, hz, hku, hat, h4⟩
 ·have HR := hid (show snP p t d b v c = sdP ((p.task t 15 v).task t 16 b) t d (if c then 3 else 2) by
   rw [snP_no b v c hfs, stand_eq2 (q := (p.task t 15 v).task t 16 b) (by rw [PW.task_len, PW.task_len]; exact htl) e4 e7])
  have HSD := hid (fun X => sending_any c X)
  have HSM := hid (fun X (h : BoxT X wb tag V ((p.task t 15 v).task t 16 b)) => standM_any wb tag V ((p.task t 15 v).task t 16 b) t d (if c then 3 else 2) X h (tsk_fits (tsk_fits hp t 15 v) t 16 b) (by rw [PW.task_len, PW.task_len]; exact htl) hdl)
  simp only [hfs] at HF
  generalize (if c = true then (3 : Int) else 2) = sn at HR HSD HSM
  obtain ⟨g3, cap3, e3⟩ := bt.o.tasks.form (by omega)
  have E3 := hid e3
  have HTT := hid htl
  clear h0 bt hp hl hs hc hn hE0 hwb hwv hk hkd hin htl hdl e4 e7 e9 hfs e3 ht hd
  go_enter Tryz.func31, Tryz.ntmps31
  go_wp2_with fail
  refine HT.out.mono ?_
  rintro q w1 ⟨rfl, hb⟩
  have B1 := hid (B0.out.below hb)
  have K1 := hid (show Kt tag tag W w1 from .below hb)
  clear hb x1 x2 HT B0
  have z2 := (HC.out.kt K1.out (c2, .int .i64 d) (by simp)).1
  have z3 := (HC.out.kt K1.out (c3, .int .i64 b) (by simp)).1
  have z4 := (HC.out.kt K1.out (c4, .int .i64 v) (by simp)).1
  go_wp2_with fail
  refine (HB.out _).mono ?_
  rintro q u1 ⟨rfl, rfl⟩
  go_wp2_with fail
  refine (HV.out _).mono ?_
  rintro q u1 ⟨rfl, rfl⟩
  go_wp2_with fail
  refine (HF.out _ B1.out).mono ?_
  rintro q Y ⟨rfl, hb⟩
  have BY := hid (B1.out.below (btr (bal (Below.refl w1.heap.size w1) (.cells #[.int .i64 4] 3)) hb))
  have KY := hid (K1.out.trans (.below (btr (bal (Below.refl w1.heap.size w1) (.cells #[.int .i64 4] 3)) hb)))
  clear hb HF z2 z3 z4 B1 K1 HB HV
  go_upto_region 8 with fail
  have KS := hid (fun X q (h : BoxT X wb tag V q) (k : Kt tag tag W X) => show X.cell? ⟨wb, 3, none⟩ = some (.slice (some ⟨g3, 0, none⟩) p.tasks.length cap3) ∧ X.cell? ⟨c1, 0, none⟩ = some (.int .i64 t) ∧ X.cell? ⟨c4, 0, none⟩ = some (.int .i64 v) ∧ X.cell? ⟨c3, 0, none⟩ = some (.int .i64 b) from ⟨by rw [range_cell h.r (k := 3) rfl, E3.out], (HC.out.kt k (c1, .int .i64 t) (by simp)).1, (HC.out.kt k (c4, .int .i64 v) (by simp)).1, (HC.out.kt k (c3, .int .i64 b) (by simp)).1⟩)
  have L1 := hid (PW.task_len p t 15 v)
  have BD : Hid (Below Y.heap.size Y Y.drew) := hid (below_drew Y 1)
  have c3' := KS.out _ _ (BY.out.below BD.out) (KY.out.trans (.below BD.out))
  have xa := (BY.out.below BD.out).taskAt E3.out HTT.out (show 15 < 20 by omega)
  have fa := (BY.out.below BD.out).tasksFr E3.out (t * 20 + 15)
  obtain ⟨b1, q1⟩ := (BY.out.below BD.out).task E3.out HTT.out (show 15 < 20 by omega) v
  have B1 := hid (show BoxT (Y.setCell ⟨g3, t * 20 + 15, none⟩ (.int .i64 v)).drew wb tag V (p.task t 15 v) from b1)
  have K1 := hid (show Kt tag tag W (Y.setCell ⟨g3, t * 20 + 15, none⟩ (.int .i64 v)).drew from (KY.out.trans (.below BD.out)).trans q1)
  have e4 : V 3 = .slice (some ⟨g3, 0, none⟩) (p.task t 15 v).tasks.length cap3 := by rw [L1.out]; exact E3.out
  have xb := B1.out.taskAt e4 (i := t) (by rw [L1.out]; exact HTT.out) (show 16 < 20 by omega)
  have fb := B1.out.tasksFr e4 (t * 20 + 16)
  obtain ⟨b2, q2⟩ := B1.out.task e4 (i := t) (by rw [L1.out]; exact HTT.out) (show 16 < 20 by omega) b
  have B2 := hid b2
  have K2 := hid (K1.out.trans q2)
  have S1 := hid (KS.out _ _ B1.out K1.out)
  have S2 := hid (KS.out _ _ B2.out K2.out)
  clear b1 q1 b2 q2 e4
  refine wp_region_held_drew (S := fun X => X.cell? ⟨wb, 3, none⟩ = some (.slice (some ⟨g3, 0, none⟩) p.tasks.length cap3) ∧ X.cell? ⟨c1, 0, none⟩ = some (.int .i64 t) ∧ X.cell? ⟨c4, 0, none⟩ = some (.int .i64 v) ∧ X.cell? ⟨c3, 0, none⟩ = some (.int .i64 b)) (by kernel_rfl) c3' (fun hH0 => ?_)
  have hH := hid hH0
  clear hH0 c3'
  refine tk 0 (.pointer (some ⟨wb, 0, none⟩)) rfl hH.out ?_
  simp only [jj]
  refine tk 1 (.pointer (some ⟨wb, 0, none⟩)) rfl hH.out ?_
  simp only [jj]
  refine tk 2 (.pointer (some ⟨wb, 3, none⟩)) rfl hH.out ?_
  simp only [jj]
  refine Mem.tg 3 (.slice (some ⟨g3, 0, none⟩) p.tasks.length cap3) rfl (Or.inl ⟨by rfl, fun W h => by have h3 := h.1; clear h; go_simp⟩) hH.out ?_
  simp only [jj]
  refine Mem.tg 4 (.int .i64 t) rfl (Or.inl ⟨by rfl, fun W h => by have h3 := h.2.1; clear h; go_simp⟩) hH.out ?_
  simp only [jj]
  refine tk 5 (.pointer (some ⟨wb, 0, none⟩)) rfl hH.out ?_
  simp only [jj]
  refine tk 6 (.pointer (some ⟨wb, 0, none⟩)) rfl hH.out ?_
  simp only [jj]
  refine tk 7 (.pointer (some ⟨wb, 3, none⟩)) rfl hH.out ?_
  simp only [jj]
  refine Mem.tg 8 (.slice (some ⟨g3, 0, none⟩) p.tasks.length cap3) rfl (Or.inl ⟨by rfl, fun W h => by have h3 := h.1; clear h; go_simp⟩) hH.out ?_
  simp only [jj]
  refine Mem.tg 9 (.int .i64 t) rfl (Or.inl ⟨by rfl, fun W h => by have h3 := h.2.1; clear h; go_simp⟩) hH.out ?_
  simp only [jj]
  refine Mem.tg 10 (.int .i64 v) rfl (Or.inl ⟨by rfl, fun W h => by have h3 := h.2.2.1; clear h; go_simp⟩) hH.out ?_
  simp only [jj]
  refine Mem.tg 11 (.int .i64 b) rfl (Or.inl ⟨by rfl, fun W h => by have h3 := h.2.2.2; clear h; go_simp⟩) hH.out ?_
  simp only [jj]
  refine tk 12 (.pointer (some ⟨g3, t * 20, none⟩)) rfl hH.out ?_
  simp only [jj]
  refine tk 13 (.pointer (some ⟨g3, t * 20 + 15, none⟩)) rfl hH.out ?_
  simp only [jj]
  refine wpAnyH_ready (rs := [14]) (by kernel_rfl) (by simp) (AllReadyH.cons rfl (fun K hK => ?_) AllReadyH.nil)
  go_simp
  refine hK.out _ _ S1.out (fun _ => ?_)
  clear hK K hH xa fa
  try simp only [Act.put]
  generalize World.drew (World.setCell _ _ _) = W1 at *
  refine tk 15 (.pointer (some ⟨g3, t * 20, none⟩)) rfl S1.out ?_
  simp only [jj]
  refine tk 16 (.pointer (some ⟨g3, t * 20 + 16, none⟩)) rfl S1.out ?_
  simp only [jj]
  refine wpAnyH_ready (rs := [17]) (by kernel_rfl) (by simp) (AllReadyH.cons rfl (fun K hK => ?_) AllReadyH.nil)
  go_simp
  refine hK.out _ _ S2.out (fun _ => ?_)
  clear hK K xb fb
  try simp only [Act.put]
  refine wpAnyH_done (by kernel_rfl) ?_ _
  generalize World.setCell _ _ _ = W2 at *
  clear S1 S2 B1 K1 BD KS BY KY
  go_upto_region 9 with fail
  have KS := hid (fun X tg (k : Kt tag tg W X) => show X.cell? ⟨c1, 0, none⟩ = some (.int .i64 t) ∧ X.cell? ⟨c2, 0, none⟩ = some (.int .i64 d) ∧ X.cell? ⟨c5, 0, none⟩ = some (.bool c) from ⟨(HC.out.kt k (c1, .int .i64 t) (by simp)).1, (HC.out.kt k (c2, .int .i64 d) (by simp)).1, (HC.out.kt k (c5, .bool c) (by simp)).1⟩)
  have BD : Hid (BoxT W2.drew wb tag V ((p.task t 15 v).task t 16 b)) := hid (B2.out.below (below_drew W2 1))
  have KD : Hid (Kt tag tag W W2.drew) := hid (K2.out.trans (.below (below_drew W2 1)))
  refine wp_region_held_drew (S := fun X => X.cell? ⟨c1, 0, none⟩ = some (.int .i64 t) ∧ X.cell? ⟨c2, 0, none⟩ = some (.int .i64 d) ∧ X.cell? ⟨c5, 0, none⟩ = some (.bool c)) (by kernel_rfl) (KS.out _ _ KD.out) (fun hH0 => ?_)
  have hH := hid hH0
  clear hH0
  refine tk 0 (.pointer (some ⟨wb, 0, none⟩)) rfl hH.out ?_
  simp only [jj]
  refine Mem.tg 1 (.int .i64 t) rfl (Or.inl ⟨by rfl, fun W h => by have h3 := h.1; clear h; go_simp⟩) hH.out ?_
  simp only [jj]
  refine Mem.tg 2 (.int .i64 d) rfl (Or.inl ⟨by rfl, fun W h => by have h3 := h.2.1; clear h; go_simp⟩) hH.out ?_
  simp only [jj]
  refine Mem.tg 3 (.bool c) rfl (Or.inl ⟨by rfl, fun W h => by have h3 := h.2.2; clear h; go_simp⟩) hH.out ?_
  simp only [jj]
  refine wpAnyH_ready (rs := [4]) (by kernel_rfl) (by simp) (AllReadyH.cons rfl (fun K hK => ?_) AllReadyH.nil)
  go_simp
  refine (HSD.out _).mono ?_
  rintro q u4 ⟨rfl, rfl⟩
  go_wp2_with fail
  refine hK.out _ _ (hH.out) (fun hH0 => ?_)
  have hH2 := hid hH0
  clear hK K hH0
  try simp only [Act.put, jD, jE, jF]
  refine wpAnyH_ready (rs := [5]) (by kernel_rfl) (by simp) (AllReadyH.cons rfl (fun K hK => ?_) AllReadyH.nil)
  go_simp
  refine (HSM.out _ BD.out).mono ?_
  rintro q w5 ⟨rfl, tg5, h5, k5⟩
  have B5 := hid h5
  have K5 := hid (KD.out.trans k5)
  clear h5 k5
  go_wp2_with fail
  refine hK.out _ _ (KS.out _ _ K5.out) (fun hH0 => ?_)
  have hH3 := hid hH0
  clear hK K hH0
  try simp only [Act.put, jD, jE, jF]
  refine wpAnyH_done (by kernel_rfl) ?_ _
  clear hH hH2 hH3 KS HSD HSM BD KD B2 K2
  go_wp2_with fail
  go_ret
  first | exact ⟨rfl, tg5, K5.out, V, by rw [HR.out]; exact B5.out⟩ | exact ⟨rfl, tg5, K5.out, fun _ => ⟨V, by rw [HR.out]; exact B5.out⟩⟩
 ·have htu : u < p.tasks.length := by rw [hs.lf.tasks]; exact hu
  have hll := tl_le hp hz
  simp only [hfs] at HF
  obtain ⟨r1, r2, r3, r4⟩ := rdN_eq hs hu hku
  obtain ⟨hne, hask⟩ := wd_ask hs ht hk hin hz h4 b v
  have HR := hid (snP_yes (t := t) b v c hfs hz)
  have HWF := hid (show wkP ((p.task u 1 b).task u 2 v) u (rdN p u) = wdP p d u l b v from wake_first hs hdl hz hu hku hat b v (rdN p u))
  have HH := hid (fun X (h : BoxT X wb tag V p) => handM_any wb tag V p u b v X h hp htu)
  have e18 : ((p.task u 1 b).task u 2 v).tasks.getD u bl 18 = p.tasks.getD u bl 18 := by rw [task_at _ u 2 18 _ (by rw [PW.task_len]; exact htu) (by decide), task_at _ u 1 18 _ htu (by decide)]
  have e10 : ((p.task u 1 b).task u 2 v).tasks.getD u bl 10 = p.tasks.getD u bl 10 := by rw [task_at _ u 2 10 _ (by rw [PW.task_len]; exact htu) (by decide), task_at _ u 1 10 _ htu (by decide)]
  have HW := hid (fun X (h : BoxT X wb tag V ((p.task u 1 b).task u 2 v)) => wake_any wb tag V ((p.task u 1 b).task u 2 v) u (rdN p u) X h (tsk_fits (tsk_fits hp u 1 b) u 2 v) (by rw [PW.task_len, PW.task_len]; exact htu) r1 (by rw [e18]; exact r3) (by rw [e10]; exact r4) (by rw [e18, e10]; exact r2))
  have HA := hid (fun X tg (h : BoxT X wb tg V (wdP p d u l b v)) => ask_any wb tg V (wdP p d u l b v) t u X h (wd_fits hp hn d u l (by omega) b v) (by rw [wd_len]; exact htl) (by rw [wd_len]; exact htu))
  rw [hask] at HA
  have ht0 : ¬ ((u : Int) = -1) := by omega
  have ht1 : ((u : Int) == -1) = false := by simp
  clear h0 bt hp hl hs hc hn hE0 hwb hwv hk hkd hin htl hdl e4 e7 e9 hfs hz hku hat h4 htu hll r1 r2 r3 r4 hne hask e18 e10 ht hd hu
  cases c with
  | false =>
   simp only [Bool.false_eq_true, if_false] at HR
   clear HA
   go_enter Tryz.func31, Tryz.ntmps31
   go_wp2_with fail
   refine HT.out.mono ?_
   rintro q w1 ⟨rfl, hb⟩
   have B1 := hid (B0.out.below hb)
   have K1 := hid (show Kt tag tag W w1 from .below hb)
   clear hb x1 x2 HT B0
   have z2 := (HC.out.kt K1.out (c2, .int .i64 d) (by simp)).1
   have z3 := (HC.out.kt K1.out (c3, .int .i64 b) (by simp)).1
   have z4 := (HC.out.kt K1.out (c4, .int .i64 v) (by simp)).1
   go_wp2_with fail
   refine (HB.out _).mono ?_
   rintro q u1 ⟨rfl, rfl⟩
   go_wp2_with fail
   refine (HV.out _).mono ?_
   rintro q u1 ⟨rfl, rfl⟩
   go_wp2_with fail
   refine (HF.out _ B1.out).mono ?_
   rintro q Y ⟨rfl, hb⟩
   have BY := hid (B1.out.below (btr (bal (Below.refl w1.heap.size w1) (.cells #[.int .i64 4] 3)) hb))
   have KY := hid (K1.out.trans (.below (btr (bal (Below.refl w1.heap.size w1) (.cells #[.int .i64 4] 3)) hb)))
   clear hb HF z2 z3 z4 B1 K1 HB HV
   have z3 := (HC.out.kt KY.out (c3, .int .i64 b) (by simp)).1
   have z4 := (HC.out.kt KY.out (c4, .int .i64 v) (by simp)).1
   go_wp2_with fail
   refine (HH.out _ BY.out).mono ?_
   rintro q w2 ⟨rfl, h1, h2⟩
   have B2 := hid h1
   have K2 := hid (KY.out.trans h2)
   clear h1 h2 HH z3 z4 BY KY
   go_wp2_with fail
   refine (HW.out _ B2.out).mono ?_
   rintro q w3 ⟨rfl, tg3, h1, h2⟩
   rw [HWF.out] at h1
   have B3 := hid h1
   have K3 := hid (K2.out.trans h2)
   clear h1 h2 HW B2 K2
   have z1 := (HC.out.kt K3.out (c1, .int .i64 t) (by simp)).1
   have z5 := (HC.out.kt K3.out (c5, .bool false) (by simp)).1
   go_wp2_with fail
   go_ret
   exact ⟨rfl, tg3, K3.out, fun _ => ⟨V, by rw [HR.out]; exact B3.out⟩⟩
  | true =>
   simp only [if_true] at HR
   unfold akP at HR
   go_enter Tryz.func31, Tryz.ntmps31
   go_wp2_with fail
   refine HT.out.mono ?_
   rintro q w1 ⟨rfl, hb⟩
   have B1 := hid (B0.out.below hb)
   have K1 := hid (show Kt tag tag W w1 from .below hb)
   clear hb x1 x2 HT B0
   have z2 := (HC.out.kt K1.out (c2, .int .i64 d) (by simp)).1
   have z3 := (HC.out.kt K1.out (c3, .int .i64 b) (by simp)).1
   have z4 := (HC.out.kt K1.out (c4, .int .i64 v) (by simp)).1
   go_wp2_with fail
   refine (HB.out _).mono ?_
   rintro q u1 ⟨rfl, rfl⟩
   go_wp2_with fail
   refine (HV.out _).mono ?_
   rintro q u1 ⟨rfl, rfl⟩
   go_wp2_with fail
   refine (HF.out _ B1.out).mono ?_
   rintro q Y ⟨rfl, hb⟩
   have BY := hid (B1.out.below (btr (bal (Below.refl w1.heap.size w1) (.cells #[.int .i64 4] 3)) hb))
   have KY := hid (K1.out.trans (.below (btr (bal (Below.refl w1.heap.size w1) (.cells #[.int .i64 4] 3)) hb)))
   clear hb HF z2 z3 z4 B1 K1 HB HV
   have z3 := (HC.out.kt KY.out (c3, .int .i64 b) (by simp)).1
   have z4 := (HC.out.kt KY.out (c4, .int .i64 v) (by simp)).1
   go_wp2_with fail
   refine (HH.out _ BY.out).mono ?_
   rintro q w2 ⟨rfl, h1, h2⟩
   have B2 := hid h1
   have K2 := hid (KY.out.trans h2)
   clear h1 h2 HH z3 z4 BY KY
   go_wp2_with fail
   refine (HW.out _ B2.out).mono ?_
   rintro q w3 ⟨rfl, tg3, h1, h2⟩
   rw [HWF.out] at h1
   have B3 := hid h1
   have K3 := hid (K2.out.trans h2)
   clear h1 h2 HW B2 K2
   have z1 := (HC.out.kt K3.out (c1, .int .i64 t) (by simp)).1
   have z5 := (HC.out.kt K3.out (c5, .bool true) (by simp)).1
   go_wp2_with fail
   refine (HA.out _ _ B3.out).mono ?_
   rintro q w5 ⟨rfl, h1, h2⟩
   have B5 := hid h1
   have K5 := hid (K3.out.trans h2)
   clear h1 h2 HA
   go_wp2_with fail
   go_ret
   exact ⟨rfl, tg3, K5.out, fun _ => ⟨V, by rw [HR.out]; exact B5.out⟩⟩
end Go.Proofs.YtakmaeohhclngaaGreatDoor.Wd
