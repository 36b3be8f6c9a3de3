/- The two ways in which a core settles are one; plain. (Written by mk_pick6.py.) · What sched.Pick does, and what the document asks; walked. (Written by mk_pick7.py.) -/
import Derived.Test.YtjjhodfekmpelaaGreatDoorGLvMore
import Derived.Test.YtjjhodfekmpelaaGreatDoorGRfM2
import Derived.Test.YtjjhodfekmpelaaGreatDoorPkE
import Derived.Test.YtjjhodfekmpelaaGreatDoorDdDid
namespace Go.Proofs.YtjjhodfekmpelaaGreatDoor.Wd
open Go.RowKit Go.Proofs.YtjjhodfekmpelaaGreatDoor.Mem Go.Proofs.YtjjhodfekmpelaaGreatDoor.Bw Go.Proofs.YtjjhodfekmpelaaGreatDoor.Nums Go.Proofs.YtjjhodfekmpelaaGreatDoor.Mmu
theorem cn_mem {x : Int} : ∀ {zs : List Int}, x ∈ zs → 0 < cn x zs
 | [], h => by cases h
 | y :: l, h => by
  unfold cn sumOf
  simp only [List.map_cons, List.sum_cons]
  rcases List.mem_cons.1 h with rfl | h
  ·unfold one
   rw [if_pos rfl]
   omega
  ·have := cn_mem h
   unfold cn sumOf at this
   omega
theorem mem_cn {x : Int} {zs : List Int} (h : 0 < cn x zs) : x ∈ zs := by
 apply Classical.byContradiction
 intro hn
 have h0 : cn x zs = 0 := by
  clear h
  induction zs with
  | nil => rfl
  | cons y l ih =>
   unfold cn sumOf
   simp only [List.map_cons, List.sum_cons]
   have h1 := ih (fun e => hn (List.mem_cons_of_mem _ e))
   unfold cn sumOf at h1
   have h2 : one x y = 0 := if_neg (fun e => hn (by rw [e]; exact List.mem_cons_self ..))
   omega
 omega
/-- Who is on a core stands nowhere else. -/
theorem core_in {p : PW} (h : Snd p) {t : Nat} (ht : t < p.kinds.length) (hk : p.kinds[t] = 6) (hc : inB t p.cores = true) : lvs t p.lines = p.lines ∧ lvs t p.ready = p.ready ∧ p.tasks.getD t bl 9 = 1 := by
 obtain ⟨_, _, _, hs, hr⟩ := snd_task h ht hk
 unfold inB at hc
 have h0 := of_decide_eq_true hc
 unfold rrB at hr
 by_cases h9 : p.tasks.getD t bl 9 = 1
 ·rw [if_pos h9] at hr
  have h2 := eq_of_beq hr
  unfold srB at hs
  rw [h9, if_pos (by decide), Bool.and_eq_true] at hs
  have h1 := eq_of_beq hs.2
  exact ⟨lvs_self (by omega), lvs_self (by omega), h9⟩
 ·rw [if_neg h9] at hr
  have h2 := eq_of_beq hr
  omega
theorem wk_all (p : PW) (t n : Nat) (ht : t < p.tasks.length) : wkP p t n = wnP { p with lines := lvs t p.lines, ready := lvs t p.ready, cores := p.cores.map (noT t) } t n := by
 unfold wkP wnP lvP PW.task
 simp only
 rw [set_getD _ t _ _ ht, set_getD _ t _ _ ht, List.set_set, List.set_set, upd_comm _ 14 9 _ _ (by decide)]
theorem upd_self (f : Nat → Int) (k : Nat) : upd f k (f k) = f := by
 funext j
 unfold upd
 by_cases h : j = k
 ·rw [if_pos h, h]
 ·rw [if_neg h]
theorem task_self (p : PW) (t k : Nat) (ht : t < p.tasks.length) : p.task t k (p.tasks.getD t bl k) = p := by
 unfold PW.task
 rw [upd_self]
 have e : p.tasks.set t (p.tasks.getD t bl) = p.tasks := by
  rw [List.getD_eq_getElem?_getD, List.getElem?_eq_getElem ht, Option.getD_some, List.set_getElem_self]
 rw [e]
theorem task_els (p : PW) (t u k : Nat) (x : Int) (h : u ≠ t) : (p.task u k x).tasks.getD t bl = p.tasks.getD t bl := by
 unfold PW.task
 rw [List.getD_eq_getElem?_getD]
 show ((p.tasks.set u _)[t]?).getD bl = _
 rw [List.getElem?_set_ne h, List.getD_eq_getElem?_getD]
theorem map_one {t : Int} : ∀ {zs : List Int} {c : Nat} (hc : c < zs.length), zs[c] = t → cn t zs = 1 → zs.map (noT t) = zs.set c (-1)
 | [], _, hc, _, _ => by simp at hc
 | z :: r, 0, _, hx, h => by
  simp only [List.getElem_cons_zero] at hx
  have h2 : cn t r = 0 := by
   unfold cn sumOf at h ⊢
   rw [List.map_cons, List.sum_cons] at h
   unfold one at h
   rw [if_pos hx] at h
   unfold one
   omega
  rw [List.map_cons, List.set_cons_zero, noT_self h2, hx]
  unfold noT
  rw [if_pos rfl]
 | z :: r, c + 1, hc, hx, h => by
  simp only [List.getElem_cons_succ] at hx
  have hc2 : c < r.length := by simpa using hc
  have h1 := cn_mem (x := t) (zs := r) (by rw [← hx]; exact List.getElem_mem hc2)
  have h2 : cn t r = 1 ∧ one t z = 0 := by
   unfold cn sumOf at h h1 ⊢
   rw [List.map_cons, List.sum_cons] at h
   omega
  have h3 : noT t z = z := by
   have := h2.2
   unfold one at this
   unfold noT
   split at this
   ·omega
   ·rename_i hn
    rw [if_neg hn]
  rw [List.map_cons, List.set_cons_succ, map_one hc2 hx h2.1, h3]
theorem mem_cna {x : Int} {ls : List (List Int)} {l : List Int} (hl : l ∈ ls) (hx : x ∈ l) : 0 < cna x ls := by
 obtain ⟨a, ha, rfl⟩ := List.mem_iff_getElem.1 hl
 exact Nat.lt_of_lt_of_le (cn_mem hx) (cna_at ha)
theorem rdy_in {p : PW} (h : Snd p) {u : Nat} {l : List Int} (hl : l ∈ p.ready) (hu : (u : Int) ∈ l) : u < p.tasks.length ∧ cna u p.ready = 1 ∧ cna u p.lines = 0 ∧ cn u p.cores = 0 ∧ p.tasks.getD u bl 14 = -1 := by
 have h0 := mem_cna hl hu
 obtain ⟨n, hn, rfl⟩ := List.mem_iff_getElem.1 hl
 have h1 : brB p n p.ready[n] = false := h.b8 n hn
 unfold brB at h1
 rw [List.any_eq_false] at h1
 have h3 : rpB p u ((n : Int) / 4) ((n : Int) % 4) = true := by simpa using h1 u hu
 unfold rpB rdB at h3
 rw [Bool.and_eq_true, Bool.and_eq_true] at h3
 have h4 := h3.1.1
 have h9 := h3.1.2
 unfold isB kindAt at h4
 rw [if_pos (by omega), Int.toNat_natCast] at h4
 obtain ⟨ht, hk⟩ := List.getElem?_eq_some_iff.1 (eq_of_beq h4)
 have hul : u < p.tasks.length := by rw [h.lf.tasks]; exact ht
 rw [Int.toNat_natCast, List.getElem?_eq_getElem hul] at h9
 simp only [Bool.and_eq_true] at h9
 have e : p.tasks.getD u bl = p.tasks[u] := by rw [List.getD_eq_getElem?_getD, List.getElem?_eq_getElem hul]; rfl
 have e9 : p.tasks.getD u bl 9 = 1 := by rw [e]; exact eq_of_beq h9.1
 obtain ⟨_, _, _, hs, hr⟩ := snd_task h ht hk
 unfold rrB at hr
 rw [if_pos e9] at hr
 have h2 := eq_of_beq hr
 unfold srB at hs
 rw [e9, if_pos (by decide), Bool.and_eq_true] at hs
 have h5 := eq_of_beq hs.2
 exact ⟨hul, by omega, by omega, by omega, eq_of_beq hs.1⟩
theorem nx_eq {q : PW} {m : Int} {c : Nat} (hz : ∀ l ∈ q.ready, ∀ z ∈ l, 0 ≤ z ∧ z < (q.tasks.length : Int)) (H : ∀ (u : Nat) (l : List Int), l ∈ q.ready → (u : Int) ∈ l → dmB q m u = true → u < q.tasks.length ∧ cna u q.ready = 1 ∧ lvs u q.lines = q.lines ∧ q.cores.map (noT u) = q.cores ∧ q.tasks.getD u bl 14 = -1) :
  ∀ k, (nxR q m c k = -1 ∧ rnx q m c k = q) ∨ ∃ u : Nat, nxR q m c k = u ∧ rnx q m c k = { lvP q u with cores := (lvP q u).cores.set c u }
 | 0 => .inl ⟨rfl, rfl⟩
 | k + 1 => by
  unfold nxR rnx
  by_cases h : 0 ≤ ixP (dmB q m) (q.ready.getD (c * 4 + k) [])
  ·rw [if_pos h, if_pos h]
   right
   obtain ⟨i, h1, h2⟩ := ix_lt h
   have hd : dmB q m (q.ready.getD (c * 4 + k) [])[i] = true := by
    have h5 : (q.ready.getD (c * 4 + k) []).findIdx (dmB q m) = i := by
     unfold ixP at h1
     split at h1 <;> omega
    subst h5
    exact List.findIdx_getElem
   rw [h1, Int.toNat_natCast]
   have hnl : c * 4 + k < q.ready.length := by
    apply Classical.byContradiction
    intro hn
    rw [List.getD_eq_getElem?_getD, List.getElem?_eq_none (by omega)] at h2
    simp at h2
   have el : q.ready.getD (c * 4 + k) [] = q.ready[c * 4 + k] := by rw [List.getD_eq_getElem?_getD, List.getElem?_eq_getElem hnl]; rfl
   have hm : (q.ready.getD (c * 4 + k) [])[i] ∈ q.ready.getD (c * 4 + k) [] := List.getElem_mem h2
   obtain ⟨u, hu⟩ : ∃ u : Nat, (q.ready.getD (c * 4 + k) [])[i] = u := ⟨(q.ready.getD (c * 4 + k) [])[i].toNat, by
    have := (hz _ (by rw [el]; exact List.getElem_mem hnl) _ hm).1
    omega⟩
   rw [hu] at hd hm
   obtain ⟨g1, g2, g3, g4, g5⟩ := H u _ (by rw [el]; exact List.getElem_mem hnl) hm hd
   have gl : lvs (u : Int) q.ready = q.ready.set (c * 4 + k) ((q.ready.getD (c * 4 + k) []).take i ++ (q.ready.getD (c * 4 + k) []).drop (i + 1)) := by
    have h7 := lvs_one (x := (u : Int)) hnl (i := i) (by rw [← el]; exact h2) (by rw [← hu]; simp only [el]) g2
    rw [el]
    exact h7
   refine ⟨u, by rw [List.getD_eq_getElem?_getD (l := q.ready.getD (c * 4 + k) []), List.getElem?_eq_getElem h2, Option.getD_some, hu], ?_⟩
   have e := task_self q u 14 g1
   rw [g5] at e
   unfold lvP
   rw [List.getD_eq_getElem?_getD (l := q.ready.getD (c * 4 + k) []), List.getElem?_eq_getElem h2, Option.getD_some, hu, e, g3, gl, g4]
  ·rw [if_neg h, if_neg h]
   exact nx_eq hz H k
theorem snx_eq {q : PW} {m : Int} {c : Nat} (hz : ∀ l ∈ q.ready, ∀ z ∈ l, 0 ≤ z ∧ z < (q.tasks.length : Int)) (H : ∀ (u : Nat) (l : List Int), l ∈ q.ready → (u : Int) ∈ l → dmB q m u = true → u < q.tasks.length ∧ cna u q.ready = 1 ∧ lvs u q.lines = q.lines ∧ q.cores.map (noT u) = q.cores ∧ q.tasks.getD u bl 14 = -1) : snx q m c = rnx q m c 4 := by
 unfold snx
 rcases nx_eq (c := c) hz H 4 with ⟨h1, h2⟩ | ⟨u, h1, h2⟩
 ·rw [if_pos h1, h2]
 ·rw [h1, if_neg (by omega), h2, Int.toNat_natCast]
theorem settle_eq {p : PW} (h : Snd p) {c : Nat} (hc : c < p.cores.length) : slP p c = rlP p c := by
 unfold slP rlP
 rcases co_in h hc with hz | ⟨t, ht, hz, hk⟩
 ·rw [if_pos hz, if_pos hz]
  exact snx_eq (rd_in h) fun u l hl hu _ => by
   obtain ⟨g1, g2, g3, g4, g5⟩ := rdy_in h hl hu
   exact ⟨g1, g2, lvs_self g3, noT_self g4, g5⟩
 ·have hne : ¬ ((t : Int) = -1) := by omega
  have hf : ¬ (false = true) := by decide
  rw [hz, if_neg hne, if_neg hne, Int.toNat_natCast]
  cases hdm : dmB p (tnV p) t with
  | true => rw [if_pos rfl, if_pos rfl]
  | false =>
   rw [if_neg hf, if_neg hf]
   have htl : t < p.tasks.length := by rw [h.lf.tasks]; exact ht
   have hcc : p.cores[c] = (t : Int) := by rw [List.getD_eq_getElem?_getD, List.getElem?_eq_getElem hc, Option.getD_some] at hz; exact hz
   have hcm : 0 < cn (t : Int) p.cores := cn_mem (by rw [← hcc]; exact List.getElem_mem hc)
   have hin : inB t p.cores = true := by unfold inB; exact decide_eq_true hcm
   obtain ⟨e4, e7, e9⟩ := core_in h ht hk hin
   have hc1 : cn (t : Int) p.cores = 1 := by
    obtain ⟨_, _, _, _, hr⟩ := snd_task h ht hk
    unfold rrB at hr
    rw [if_pos e9] at hr
    have := eq_of_beq hr
    omega
   have eq1 : wkP p t (rdN p t) = wnP { p with cores := p.cores.set c (-1) } t (rdN p t) := by
    rw [wk_all p t (rdN p t) htl, e4, e7, map_one hc hcc hc1]
   rw [eq1]
   have hrd : ∀ l ∈ (wnP { p with cores := p.cores.set c (-1) } t (rdN p t)).ready, ∀ z ∈ l, z = (t : Int) ∨ ∃ l0 ∈ p.ready, z ∈ l0 := by
    intro l hl z h1
    have hl2 : l ∈ p.ready.set (rdN p t) (p.ready.getD (rdN p t) [] ++ [(t : Int)]) := hl
    rcases List.mem_or_eq_of_mem_set hl2 with h2 | rfl
    ·exact .inr ⟨l, h2, h1⟩
    ·rcases List.mem_append.1 h1 with h2 | h2
     ·right
      rw [List.getD_eq_getElem?_getD] at h2
      cases e : p.ready[rdN p t]? with
      | none => rw [e] at h2; cases h2
      | some y =>
       rw [e, Option.getD_some] at h2
       exact ⟨y, List.mem_of_getElem? e, h2⟩
     ·rw [List.mem_singleton] at h2
      exact .inl h2
   have hlen : (wnP { p with cores := p.cores.set c (-1) } t (rdN p t)).tasks.length = p.tasks.length := by
    show ((({ p with cores := p.cores.set c (-1) } : PW).task t 9 1).task t 14 (-1)).tasks.length = _
    rw [PW.task_len, PW.task_len]
   refine snx_eq (fun l hl z h1 => ?_) fun u l hl hu hd => ?_
   ·rw [hlen]
    rcases hrd l hl z h1 with rfl | ⟨l0, h2, h3⟩
    ·omega
    ·exact rd_in h l0 h2 z h3
   ·have hut : u ≠ t := by
     rintro rfl
     have h5 : dmB (wnP { p with cores := p.cores.set c (-1) } u (rdN p u)) (tnV p) u = dmB p (tnV p) u := by
      unfold dmB
      rw [Int.toNat_natCast]
      show (((({ p with cores := p.cores.set c (-1) } : PW).task u 9 1).task u 14 (-1)).tasks.getD u bl 19 == tnV p) = (p.tasks.getD u bl 19 == tnV p)
      rw [task_at _ u 14 19 _ (by rw [PW.task_len]; exact htl) (by decide), task_at ({ p with cores := p.cores.set c (-1) } : PW) u 9 19 1 htl (by decide)]
     rw [h5, hdm] at hd
     cases hd
    rcases hrd l hl u hu with h2 | ⟨l0, h2, h3⟩
    ·omega
    ·obtain ⟨g1, g2, g3, g4, g5⟩ := rdy_in h h2 h3
     refine ⟨by rw [hlen]; exact g1, ?_, lvs_self g3, ?_, ?_⟩
     ·show cna u (p.ready.set (rdN p t) (p.ready.getD (rdN p t) [] ++ [(t : Int)])) = 1
      rw [cna_push (by omega)]
      exact g2
     ·show (p.cores.set c (-1)).map (noT u) = p.cores.set c (-1)
      have : ∀ z ∈ p.cores.set c (-1), noT u z = z := fun z hz2 => by
       unfold noT
       rw [if_neg]
       rcases List.mem_or_eq_of_mem_set hz2 with h6 | h6
       ·exact cn_none g4 z h6
       ·omega
      conv => rhs; rw [← List.map_id (p.cores.set c (-1))]
      exact List.map_congr_left fun z hz2 => this z hz2
     ·show ((({ p with cores := p.cores.set c (-1) } : PW).task t 9 1).task t 14 (-1)).tasks.getD u bl 14 = -1
      rw [task_els _ u t _ _ (fun e => hut e.symm), task_els _ u t _ _ (fun e => hut e.symm)]
      exact g5
/-- Is it a core? -/
def pkE (p : PW) (c : Int) : Int := if within 0 ((p.cores.length : Int) - 1) c then 0 else 2
theorem within_in {p : PW} {c : Int} (h : within 0 ((p.cores.length : Int) - 1) c = true) : ∃ n : Nat, c = n ∧ n < p.cores.length := by
 unfold within at h
 have h1 := of_decide_eq_true h
 exact ⟨c.toNat, by omega, by omega⟩
theorem sl_tlbs (p : PW) (c : Nat) : (slP p c).tlbs = p.tlbs := by
 unfold slP snx
 split
 ·split <;> rfl
 ·split
  ·rfl
  ·split <;> rfl
set_option maxRecDepth 100000 in
theorem isCore_any (vb n : Nat) (q : Option Addr) (cap : Nat) (c : Int) (w : World) (c6 : w.cell? ⟨vb, 6, none⟩ = some (.slice q n cap)) (h1 : (1 : Int) ≤ (n : Int)) (h2 : (n : Int) ≤ 1000) :
  Calls Tryz.prog 65 #[.pointer (some ⟨vb, 0, none⟩), .int .i64 c] w fun r w' => r = .returned (.bool (within 0 ((n : Int) - 1) c)) ∧ w = w' := by
 have HWI := hid (withinB c 0 ((n : Int) - 1) w)
 go_enter Tryz.func65, Tryz.ntmps65
 go_wp2_with fail
 refine HWI.out.mono ?_
 rintro r w1 ⟨rfl, rfl⟩
 go_wp2_with fail
 go_ret
 exact ⟨rfl, rfl⟩
set_option maxRecDepth 100000 in
set_option maxHeartbeats 4000000 in
theorem pick_deed (c1 : Nat) (c : Int) (p : PW) (hp : p.Fits) (hn : ∀ l ∈ p.ready, l.length ≤ 50) (hs : Snd p) : DeedT 64 #[ptr c1] (CapsT [(c1, .int .i64 c)]) eV p (slP p c.toNat) (pkE p c) := by
 intro W wb tag V bt hc
 have x1 := (hc (c1, .int .i64 c) (by simp)).1
 have HC := hid hc
 have hl6 : (p.cores.length : Int) ≤ 1000 := by have := hp.cores; omega
 have hk1 : (1 : Int) ≤ (p.cores.length : Int) := by have := hs.lf.c1; omega
 obtain ⟨g6, cap6, e6⟩ := bt.o.cores.form (by have := hs.lf.c1; omega)
 have c6 : W.cell? ⟨wb, 6, none⟩ = some (.slice (some ⟨g6, 0, none⟩) p.cores.length cap6) := by rw [range_cell bt.r (k := 6) rfl, e6]
 have HWI := hid (isCore_any wb p.cores.length (some ⟨g6, 0, none⟩) cap6 c W c6 hk1 hl6)
 have B0 := hid bt
 unfold ptr
 simp only [List.append_toArray, List.cons_append, List.nil_append]
 cases hw : within 0 ((p.cores.length : Int) - 1) c with
 | false =>
  have HE := hid (show pkE p c = 2 by unfold pkE; rw [hw]; rfl)
  rw [HE.out]
  rw [hw] at HWI
  clear bt hc hp hs hn e6 hw
  go_enter Tryz.func64, Tryz.ntmps64
  go_wp2_with fail
  refine HWI.out.mono ?_
  rintro q w1 ⟨rfl, rfl⟩
  have K1 := hid (Kt.refl tag W)
  go_wp2_with fail
  go_ret
  first | exact ⟨rfl, tag, K1.out⟩ | exact ⟨rfl, tag, K1.out, fun h => by cases h⟩
 | true =>
  have HE := hid (show pkE p c = 0 by unfold pkE; rw [hw]; rfl)
  rw [HE.out, eV_0]
  rw [hw] at HWI
  obtain ⟨n, rfl, hn2⟩ := within_in hw
  rw [Int.toNat_natCast]
  have HS := hid (fun X (h : BoxT X wb tag V p) => settle_any wb tag V p n X h hp hn hs hn2)
  clear bt hc hp hs hn e6 hw hn2
  go_enter Tryz.func64, Tryz.ntmps64
  go_wp2_with fail
  refine HWI.out.mono ?_
  rintro q w1 ⟨rfl, rfl⟩
  have K1 := hid (Kt.refl tag W)
  have B1 := B0
  clear c6 B0
  go_wp2_with fail
  refine (HS.out _ B1.out).mono ?_
  rintro q w2 ⟨rfl, tg2, h2, k2⟩
  have B2 := hid h2
  have K2 := hid (K1.out.trans k2)
  clear h2 k2 HS
  go_wp2_with fail
  go_ret
  first | exact ⟨rfl, tg2, K2.out, V, B2.out⟩ | exact ⟨rfl, tg2, K2.out, fun _ => ⟨V, B2.out⟩⟩
set_option maxRecDepth 100000 in
set_option maxHeartbeats 4000000 in
theorem pickRef_deed (c1 : Nat) (n : Nat) (p : PW) (hp : p.Fits) (hn : ∀ l ∈ p.ready, l.length ≤ 50) (hs : Snd p) (hc2 : n < p.cores.length) : DeedT 20 #[ptr c1] (CapsT [(c1, .int .i64 n)]) (fun e => .int .i64 e) p (slP p n) 0 := by
 intro W wb tag V bt hc
 have x1 := (hc (c1, .int .i64 n) (by simp)).1
 have HS := hid (show Calls Tryz.prog 21 #[.pointer (some ⟨wb, 0, none⟩), .int .i64 n] W fun r W' => r = .returned (.tuple #[]) ∧ ∃ tag', BoxT W' wb tag' V (slP p n) ∧ Kt tag tag' W W' by
  rw [settle_eq hs hc2]
  rcases co_in hs hc2 with hz | ⟨t, ht, hz, hk⟩
  ·exact settled_none wb tag V p n W bt hp hs hc2 hz
  ·cases hd : dmB p (tnV p) t with
   | true => exact settled_stay wb tag V p n t W bt hp hs hc2 ht hz hd
   | false => exact settled_out wb tag V p n t W bt hp hn hs hc2 ht hk hz hd)
 unfold ptr
 simp only [List.append_toArray, List.cons_append, List.nil_append]
 clear bt hc hp hs hn hc2
 go_enter Tryz.func20, Tryz.ntmps20
 go_wp2_with fail
 refine HS.out.mono ?_
 rintro q w2 ⟨rfl, tg2, h2, k2⟩
 have B2 := hid h2
 have K2 := hid k2
 clear h2 k2 HS
 go_wp2_with fail
 go_ret
 first | exact ⟨rfl, tg2, K2.out, fun _ => ⟨V, B2.out⟩⟩ | exact ⟨rfl, tg2, K2.out, V, B2.out⟩
set_option maxRecDepth 100000 in
set_option maxHeartbeats 8000000 in
theorem did_no (N : Nat) (caps : Array Value) (V X : Nat → Value) (p : PW) (e : Int) (he : e ≠ 0) (w : World) (hv : WorldV w V p) (hp : p.Fits) (hx : WorldV w X noP) (hg : ETok w) :
  Calls Tryz.prog 11 #[.agg (arr11 X), eV e, .agg (arr11 V), .int .i64 e, .func (.func N) #[] caps] w fun r w' => r = .returned (.bool true) ∧ Below w.heap.size w w' := by
 have RX1 := boxed w X 28
 have RX0 := hid (range_below RX1 (bal (Below.refl _ (w.alloc (.cells (arr11 X) 28))) (.cells (arr11 V) 28)))
 have RV0 := hid (show ((w.alloc (.cells (arr11 X) 28)).alloc (.cells (arr11 V) 28)).rangeAt (w.heap.size + 1) 0 (arr11 V).toList by have := boxed (w.alloc (.cells (arr11 X) 28)) V 28; simpa using this)
 have B0 := hid (bal (bal (Below.refl w.heap.size w) (.cells (arr11 X) 28)) (.cells (arr11 V) 28))
 have L0 := hid (show w.heap.size + 1 < ((w.alloc (.cells (arr11 X) 28)).alloc (.cells (arr11 V) 28)).heap.size by simp)
 have HV := hid hv
 have HX := hid hx
 have HP := hid hp
 have HG := hid hg
 clear hv hx hp hg RX1
 go_enter Tryz.func11, Tryz.ntmps11
 go_wp2_with (first | ((with_reducible (show wpList _ _ _ (⟨_, Op.load 28 _, _, _, _, _⟩ :: _) _ _)); refine wp_ldWg (by rfl) _ rfl _ rfl V RV0.out ?_))
 generalize World.alloc _ _ = W0 at *
 refine (copy_ref V p W0 (HV.out.below B0.out) HP.out).mono ?_
 rintro r w2 ⟨U, L, rfl, hO, hL0, hL1, hb⟩
 have TN := hid (there_new w2 #[.slice none 0 0, .slice none 0 0, .slice none 0 0, .slice none 0 0, .slice none 0 0, .slice none 0 0, .slice none 0 0, .slice none 0 0, .slice none 0 0, .slice none 0 0, .int .i64 0] 28 w2.heap.size 11 rfl (by decide))
 have B2 := hid (btr B0.out hb)
 have L2 := hid (show w.heap.size + 2 ≤ L 0 from Nat.le_trans (Nat.succ_le_of_lt L0.out) hL0)
 have S2 := hid (show w.heap.size + 2 ≤ w2.heap.size from Nat.le_trans (Nat.succ_le_of_lt L0.out) hb.size)
 have one := hid (world_one (hO.v (tlbs_le HV.out.tlbs)))
 have BO := hid (show BoxO ((w2.alloc (.cells #[.slice none 0 0, .slice none 0 0, .slice none 0 0, .slice none 0 0, .slice none 0 0, .slice none 0 0, .slice none 0 0, .slice none 0 0, .slice none 0 0, .slice none 0 0, .int .i64 0] 28)).setCells w2.heap.size 0 (arr11 U).toList) w2.heap.size L U p from
  ⟨World.rangeAt_setCells_same _ w2.heap.size 0 (arr11 U).toList TN.out, there_sets _ 0 _ TN.out, worldO_over (hO.below (bal (Below.refl _ w2) (.cells #[.slice none 0 0, .slice none 0 0, .slice none 0 0, .slice none 0 0, .slice none 0 0, .slice none 0 0, .slice none 0 0, .slice none 0 0, .slice none 0 0, .slice none 0 0, .int .i64 0] 28))) hL1 _ 0, hL1, by rw [setCells_size]; simp⟩)
 have B3 := hid (below_setCells (bal B2.out (.cells #[.slice none 0 0, .slice none 0 0, .slice none 0 0, .slice none 0 0, .slice none 0 0, .slice none 0 0, .slice none 0 0, .slice none 0 0, .slice none 0 0, .slice none 0 0, .int .i64 0] 28)) B2.out.size (arr11 U).toList 0)
 have RX3 := hid (range_N (range_below (range_below RX0.out hb) (bal (Below.refl _ w2) (.cells #[.slice none 0 0, .slice none 0 0, .slice none 0 0, .slice none 0 0, .slice none 0 0, .slice none 0 0, .slice none 0 0, .slice none 0 0, .slice none 0 0, .slice none 0 0, .int .i64 0] 28))) (below_setN (B := w2.heap.size) (arr11 U).toList 0 _ (Nat.le_refl _)) (by have := S2.out; omega))
 clear hb hO hL0 hL1 RX0 RV0 B0 L0
 go_upto_region 2 with (first | ((with_reducible (show wpList _ _ _ (⟨_, Op.store 28 _ _, _, _, _, _⟩ :: _) _ _)); refine wpList_store_mid rfl 28 _ _ rfl w2.heap.size 0 (arr11 U) rfl rfl TN.out infoW one.out ?_))
 generalize World.setCells _ _ _ _ = W3 at *
 clear TN one
 have heb : (e == 0) = false := by simpa using he
 have heb2 : ¬ (e = 0) := he
 have HNX := HX
 have BY := B3
 have RXY := RX3
 clear BO HX
 go_wp2_with fail
 refine (err_any e _).mono ?_
 rintro r y1 ⟨rfl, hb⟩
 have Y1 := hid (show Below w.heap.size w y1 from btr BY.out hb)
 have RY1 := hid (range_below RXY.out hb)
 clear hb
 go_wp2_with fail
 refine (is_yes (eV e) e (-1) y1 (HG.out.below Y1.out) (eV_tells e)).mono ?_
 rintro r y2 ⟨rfl, hb⟩
 have Y2 := hid (show Below w.heap.size w y2 from btr Y1.out hb)
 have RY2 := hid (range_below RY1.out hb)
 clear hb
 go_wp2_with (first | ((with_reducible (show wpList _ _ _ (⟨_, Op.load 28 _, _, _, _, _⟩ :: _) _ _)); refine wp_ldWg (by rfl) _ rfl _ rfl X RY2.out ?_))
 refine (nothing_any X y2 (HNX.out.below Y2.out)).mono ?_
 rintro r y3 ⟨rfl, hb⟩
 have Y3 := hid (show Below w.heap.size w y3 from btr Y2.out hb)
 clear hb
 go_wp2_with fail
 go_ret
 exact ⟨rfl, Y3.out⟩
end Go.Proofs.YtjjhodfekmpelaaGreatDoor.Wd
