/- Numbers without one: keyholdref.without, walked. · A task is still, by the document: keyholdref.Stopped, walked. (Written by mk_stop.py.) · A task is still: deed.Stop, walked. (Written by mk_lvstop.py.) · A task may run, by the document: keyholdref.Woken, walked. (Written by mk_woken.py.) · What starting, stopping and ranking a task come to, in a sound world: the program's way and the document's are the same. · Small questions of who runs: plain.Thing, keyholdref.TaskMay, slices.Contains over numbers; walked. · A world in the making, as a text makes it: nothing runs yet, nobody waits; it is sound. · The rest of GTc1: what few laws reach. -/
import Derived.Test.YtkocmkaeaagbaaaGreatDoorQar
import Derived.Test.YtkocmkaeaagbaaaGreatDoorQal
import Derived.Test.YtkocmkaeaagbaaaGreatDoorQap
namespace Go.Proofs.YtkocmkaeaagbaaaGreatDoor.Wd
open Go.RowKit Go.Proofs.YtkocmkaeaagbaaaGreatDoor.Mem Go.Proofs.YtkocmkaeaagbaaaGreatDoor.Bw Go.Proofs.YtkocmkaeaagbaaaGreatDoor.Nums Go.Proofs.YtkocmkaeaagbaaaGreatDoor.Mmu
theorem set_getD {α : Type} (l : List α) (t : Nat) (d x : α) (ht : t < l.length) : (l.set t x).getD t d = x := by
 rw [List.getD_eq_getElem?_getD, List.getElem?_set_self ht]
 rfl
theorem upd_comm (f : Nat → Int) (i j : Nat) (x y : Int) (h : i ≠ j) : upd (upd f i x) j y = upd (upd f j y) i x := by
 funext k
 unfold upd
 by_cases h1 : k = j
 ·rw [if_pos h1, if_neg (fun e => h (e.symm.trans h1)), if_pos h1]
 ·rw [if_neg h1]
  by_cases h2 : k = i
  ·rw [if_pos h2, if_pos h2]
  ·rw [if_neg h2, if_neg h2, if_neg h1]
end Go.Proofs.YtkocmkaeaagbaaaGreatDoor.Wd
namespace Go.Proofs.YtkocmkaeaagbaaaGreatDoor.Wd
open Go.RowKit Go.Proofs.YtkocmkaeaagbaaaGreatDoor.Mem Go.Proofs.YtkocmkaeaagbaaaGreatDoor.Bw Go.Proofs.YtkocmkaeaagbaaaGreatDoor.Nums Go.Proofs.YtkocmkaeaagbaaaGreatDoor.Mmu
/-- What is wrong with a number that should be that of a frame of a kind. -/
def thE (p : PW) (f k : Int) : Int := if frB p f then (if isB p f k then 0 else 3) else 2
theorem thE_in {p : PW} {f k : Int} (h : thE p f k = 0) : ∃ (t : Nat) (ht : t < p.kinds.length), f = t ∧ p.kinds[t] = k := by
 unfold thE at h
 cases h1 : frB p f with
 | false => rw [h1] at h; simp at h
 | true =>
  cases h2 : isB p f k with
  | false => rw [h1, h2] at h; simp at h
  | true =>
   unfold frB at h1
   have h3 := of_decide_eq_true h1
   obtain ⟨t, rfl⟩ : ∃ t : Nat, f = t := ⟨f.toNat, by omega⟩
   have ht : t < p.kinds.length := by omega
   unfold isB at h2
   rw [kindAt_some ht] at h2
   exact ⟨t, ht, rfl, by simpa using h2⟩
theorem snd_task {p : PW} (h : Snd p) {t : Nat} (ht : t < p.kinds.length) (hk : p.kinds[t] = 6) :
  nfB p (p.tasks.getD t bl) = true ∧ ffB p (p.tasks.getD t bl) = true ∧ dbB p t (p.tasks.getD t bl) = true ∧ srB p t (p.tasks.getD t bl) = true ∧ rrB p t (p.tasks.getD t bl) = true := by
 have hl : t < p.tasks.length := by rw [h.lf.tasks]; exact ht
 have h1 : btB p t (p.kinds.getD t 0) p.tasks[t] = false := h.b5 t hl
 have h2 : p.tasks.getD t bl = p.tasks[t] := by rw [List.getD_eq_getElem?_getD, List.getElem?_eq_getElem hl]; rfl
 have h3 : p.kinds.getD t 0 = 6 := by rw [List.getD_eq_getElem?_getD, List.getElem?_eq_getElem ht, Option.getD_some]; exact hk
 rw [h2]
 unfold btB at h1
 rw [if_pos h3] at h1
 simp only [Bool.not_eq_false', Bool.and_eq_true] at h1
 exact ⟨h1.1.1.1.1, h1.1.1.1.2, h1.1.1.2, h1.1.2, h1.2⟩
theorem nf_bounds {p : PW} {f : Nat → Int} (h : nfB p f = true) : (0 ≤ f 9 ∧ f 9 ≤ 6) ∧ (0 ≤ f 10 ∧ f 10 ≤ 3) ∧ (0 ≤ f 18 ∧ f 18 ≤ (p.cores.length : Int) - 1) ∧ (0 ≤ f 19 ∧ f 19 ≤ 3) := by
 unfold nfB within at h
 simp only [Bool.and_eq_true, decide_eq_true_eq] at h
 exact ⟨h.1.1.1.2, h.1.1.2, h.1.2, h.2⟩
theorem cn_none {x : Int} : ∀ {zs : List Int}, cn x zs = 0 → ∀ z ∈ zs, z ≠ x
 | [], _, _, h => by cases h
 | y :: l, h0, z, h => by
  unfold cn sumOf at h0
  simp only [List.map_cons, List.sum_cons] at h0
  rcases List.mem_cons.1 h with rfl | h
  ·intro e
   unfold one at h0
   rw [if_pos e] at h0
   omega
  ·exact cn_none (zs := l) (by unfold cn sumOf; omega) z h
theorem gone_self {x : Int} {zs : List Int} (h : cn x zs = 0) : goneP (fun y => y == x) zs = zs := by
 unfold goneP
 rw [List.filter_eq_self]
 intro a ha
 simpa using cn_none h a ha
theorem lvs_self {x : Int} : ∀ {ls : List (List Int)}, cna x ls = 0 → lvs x ls = ls
 | [], _ => rfl
 | l :: r, h => by
  unfold cna sumOf at h
  simp only [List.map_cons, List.sum_cons] at h
  have h1 : lvs x r = r := lvs_self (by unfold cna sumOf; omega)
  unfold lvs at h1 ⊢
  rw [List.map_cons, h1, gone_self (by omega)]
theorem noT_self {x : Int} {zs : List Int} (h : cn x zs = 0) : zs.map (noT x) = zs := by
 have : ∀ z ∈ zs, noT x z = z := fun z hz => if_neg (cn_none h z hz)
 exact (List.map_congr_left this).trans (List.map_id' zs)
/-- The number of the Ready of a task. -/
def rdN (p : PW) (t : Nat) : Nat := (p.tasks.getD t bl 18 * 4 + p.tasks.getD t bl 10).toNat
theorem rdN_eq {p : PW} (h : Snd p) {t : Nat} (ht : t < p.kinds.length) (hk : p.kinds[t] = 6) : rdN p t < p.ready.length ∧ p.tasks.getD t bl 18 * 4 + p.tasks.getD t bl 10 = (rdN p t : Int) ∧ (0 ≤ p.tasks.getD t bl 18 ∧ p.tasks.getD t bl 18 ≤ 1000) ∧ (0 ≤ p.tasks.getD t bl 10 ∧ p.tasks.getD t bl 10 ≤ 1000) := by
 obtain ⟨h1, h2, h3, _⟩ := nf_bounds (snd_task h ht hk).1
 have h4 := h.lf.c2
 unfold rdN
 rw [h.lf.ready]
 omega
set_option maxRecDepth 100000 in
theorem thing_any (vb : Nat) (V : Nat → Value) (p : PW) (f k : Int) (w : World) (hv : ViewAt w vb V p) :
  Calls Tryz.prog 124 #[.pointer (some ⟨vb, 0, none⟩), .int .i64 f, .int .i64 k] w fun r w' => r = .returned (eV (thE p f k)) ∧ w = w' := by
 have HF := hid (pisFrame_any vb V p f w hv)
 have HI := hid (pis_any vb V p f k w hv)
 clear hv
 cases h1 : frB p f with
 | false =>
  have HE := hid (show thE p f k = 2 by unfold thE; rw [h1]; rfl)
  rw [h1] at HF
  clear h1
  go_enter Tryz.func124, Tryz.ntmps124
  go_wp2_with fail
  refine HF.out.mono ?_
  rintro r w1 ⟨rfl, rfl⟩
  go_wp2_with fail
  go_ret
  exact ⟨by rw [HE.out]; rfl, rfl⟩
 | true =>
 rw [h1] at HF
 cases h2 : isB p f k with
 | false =>
  have HE := hid (show thE p f k = 3 by unfold thE; rw [h1, h2]; rfl)
  rw [h2] at HI
  clear h1 h2
  go_enter Tryz.func124, Tryz.ntmps124
  go_wp2_with fail
  refine HF.out.mono ?_
  rintro r w1 ⟨rfl, rfl⟩
  go_wp2_with fail
  refine HI.out.mono ?_
  rintro r w1 ⟨rfl, rfl⟩
  go_wp2_with fail
  go_ret
  exact ⟨by rw [HE.out]; rfl, rfl⟩
 | true =>
  have HE := hid (show thE p f k = 0 by unfold thE; rw [h1, h2]; rfl)
  rw [h2] at HI
  clear h1 h2
  go_enter Tryz.func124, Tryz.ntmps124
  go_wp2_with fail
  refine HF.out.mono ?_
  rintro r w1 ⟨rfl, rfl⟩
  go_wp2_with fail
  refine HI.out.mono ?_
  rintro r w1 ⟨rfl, rfl⟩
  go_wp2_with fail
  go_ret
  exact ⟨by rw [HE.out]; rfl, rfl⟩
end Go.Proofs.YtkocmkaeaagbaaaGreatDoor.Wd
namespace Go.Proofs.YtkocmkaeaagbaaaGreatDoor.Wd
open Go.RowKit Go.Proofs.YtkocmkaeaagbaaaGreatDoor.Mem Go.Proofs.YtkocmkaeaagbaaaGreatDoor.Bw Go.Proofs.YtkocmkaeaagbaaaGreatDoor.Nums Go.Proofs.YtkocmkaeaagbaaaGreatDoor.Mmu
abbrev PW.t (p : PW) (n : Nat) : Nat → Int := p.tasks.getD n bl
/-- Words. -/
structure RamOk (p : PW) : Prop where
 w : ∀ x ∈ p.ram, 0 ≤ x ∧ x ≤ 65535
 e : ∀ i, i < p.ram.length → beB p (p.k (i / 16)) (p.ram.getD i 0) = false
/-- A task that never ran. -/
structure NewT (p : PW) (f : Nat → Int) : Prop where
 z : ∀ k, k < 9 → f k = 0
 s : f 9 = 0 ∨ f 9 = 1
 pr : 0 ≤ f 10 ∧ f 10 ≤ 3
 fr : isOrB p (f 11) 5 = true ∧ isOrB p (f 12) 4 = true ∧ isOrB p (f 13) 7 = true
 v : f 14 = -1 ∧ f 15 = 0 ∧ f 16 = 0 ∧ f 17 = -1
 c : 0 ≤ f 18 ∧ f 18 ≤ (p.cores.length : Int) - 1
 d : 0 ≤ f 19 ∧ f 19 ≤ 3
structure TasksOk (p : PW) : Prop where
 no : ∀ n, p.k n ≠ 6 → ∀ k, k < 20 → p.t n k = bl k
 yes : ∀ n, p.k n = 6 → NewT p (p.t n)
 ln : ∀ l ∈ p.lines, l = []
 bt : ∀ b ∈ p.bits, b = 0
 co : ∀ c ∈ p.cores, c = -1
 tl : ∀ l ∈ p.tlbs, l = []
 rd : ∀ i z, z ∈ p.ready.getD i [] → ∃ t : Nat, z = t ∧ p.k t = 6 ∧ p.t t 9 = 1 ∧ rdN p t = i
 rn : ∀ n, p.k n = 6 → cna n p.ready = if p.t n 9 = 1 then 1 else 0
/-- All of it. -/
structure Bt (p : PW) : Prop where
 lf : LF p
 tm : p.time = 0
 ks : ∀ k ∈ p.kinds, 0 ≤ k ∧ k ≤ 8 ∧ k ≠ 1
 ds : ∀ d ∈ p.doms, 0 ≤ d ∧ d ≤ 3
 keys : ∃ r, Keys p r
 ram : RamOk p
 tsk : TasksOk p
 root : p.k 0 = 5 ∧ p.s 0 0 ≠ 0
theorem t_at {p : PW} {n : Nat} (h : n < p.tasks.length) : p.tasks[n] = p.t n := by
 show _ = p.tasks.getD n bl
 rw [List.getD_eq_getElem?_getD, List.getElem?_eq_getElem h]; rfl
theorem cn_zero {x : Int} {l : List Int} (h : x ∉ l) : cn x l = 0 := sum_nil0 l (fun j hj => by
 unfold one
 rw [if_neg]
 intro e
 exact h (e ▸ List.getElem_mem hj))
theorem NewT.nf {p : PW} {f : Nat → Int} (h : NewT p f) : nfB p f = true := by
 have hr : regB f = true := reg_yes (fun k hk => by rw [h.z k (by omega)]; rfl)
 have h9 : within 0 6 (f 9) = true := decide_eq_true (by rcases h.s with e | e <;> omega)
 unfold nfB
 rw [hr, h.z 8 (by decide), h.v.2.1, h.v.2.2.1, h9, show within 0 3 (f 10) = true from decide_eq_true h.pr, show within 0 ((p.cores.length : Int) - 1) (f 18) = true from decide_eq_true h.c, show within 0 3 (f 19) = true from decide_eq_true h.d]
 rfl
theorem Bt.nowes {p : PW} (h : Bt p) (n : Nat) : sumOf (ow (n : Int)) p.tasks = 0 := sum_nil0 p.tasks (fun j hj => if_neg (fun e => by
 rw [t_at hj] at e
 by_cases h6 : p.k j = 6
 ·rw [(h.tsk.yes j h6).v.2.2.2] at e; omega
 ·rw [h.tsk.no j h6 17 (by decide)] at e; exact absurd e (by show ¬ (-1 : Int) = n; omega)))
theorem sum_none' : ∀ (ls : List (List Int)) {n : Int}, (∀ l ∈ ls, cn n l = 0) → cna n ls = 0
 | [], _, _ => rfl
 | l :: ls, n, h => by
  have ih := sum_none' ls (n := n) (fun x hx => h x (List.mem_cons_of_mem _ hx))
  unfold cna sumOf at ih ⊢
  rw [List.map_cons, List.sum_cons, ih, h l (List.mem_cons_self ..)]
theorem Bt.nline {p : PW} (h : Bt p) (n : Int) : cna n p.lines = 0 := sum_none' p.lines (fun l hl => by rw [h.tsk.ln l hl]; rfl)
theorem Bt.b5 {p : PW} (h : Bt p) : ∀ k (hk : k < p.tasks.length), bad5 p k p.tasks[k] = false := fun k hk => by
 rw [t_at hk]
 unfold bad5 btB
 by_cases h6 : p.k k = 6
 ·rw [if_pos h6]
  have t := h.tsk.yes k h6
  have hf : ffB p (p.t k) = true := by
   unfold ffB
   rw [t.fr.1, t.fr.2.1, t.fr.2.2, t.v.2.2.2]; rfl
  have h5 : ¬ p.t k 9 = 5 := by rcases t.s with e | e <;> omega
  have hd : dbB p k (p.t k) = true := by
   unfold dbB owB
   rw [t.v.2.2.2, if_neg h5, h.nowes k]; rfl
  have hs : srB p k (p.t k) = true := by
   unfold srB
   rw [if_pos (by unfold pl; rcases t.s with e | e <;> rw [e] <;> decide), t.v.1, h.nline k]; rfl
  have hr : rrB p k (p.t k) = true := by
   unfold rrB
   rw [cn_zero (fun hc => by have := h.tsk.co _ hc; omega), h.tsk.rn k h6]
   rcases t.s with e | e
   ·rw [e]; rfl
   ·rw [e]; rfl
  rw [t.nf, hf, hd, hs, hr]; rfl
 ·rw [if_neg h6, blB20_iff.2 (h.tsk.no k h6)]; rfl
theorem Bt.snd {p : PW} (h : Bt p) : sndB p = true := by
 obtain ⟨r, hk⟩ := h.keys
 have hl := h.lf
 have lf : lfB p = true := lfB_of (by have := hl.k1; omega) (by have := hl.k2; omega) (by have := hl.c1; omega) (by have := hl.c2; omega) (by have := hl.d1; omega) (by have := hl.d2; omega) (by have := hl.ram; omega) (by have := hl.slots; omega) (by have := hl.tasks; omega) (by have := hl.lines; omega) (by have := hl.bits; omega) (by have := hl.ready; omega) (by have := hl.tlbs; omega)
 have a0 : lk (bad0 p) p.ram = none := lk_none (fun k hk => by unfold bad0 nwB wB; rw [decide_eq_true (h.ram.w _ (List.getElem_mem hk))]; rfl)
 have a1 : lk (bad1 p) p.kinds = none := lk_none (fun k hk => by
  obtain ⟨h1, h2, h3⟩ := h.ks _ (List.getElem_mem hk)
  unfold bad1 nkB
  rw [decide_eq_true ⟨h1, h2⟩, beq_eq_false_iff_ne.2 h3]; rfl)
 have a2 : lk (bad2 p) p.doms = none := lk_none (fun k hk => by unfold bad2 nd; rw [decide_eq_true (h.ds _ (List.getElem_mem hk))]; rfl)
 have a6 : lk (bad6 p) p.lines = none := lk_none (fun k hk => by
  have hb : p.bits.getD k 0 = 0 := by
   have hk2 : k < p.bits.length := by have := hl.bits; have := hl.lines; omega
   rw [List.getD_eq_getElem?_getD, List.getElem?_eq_getElem hk2]
   exact h.tsk.bt _ (List.getElem_mem hk2)
  unfold bad6 blB
  rw [h.tsk.ln _ (List.getElem_mem hk), hb]; rfl)
 have a7 : lk (bad7 p) p.cores = none := lk_none (fun k hk => by unfold bad7 bcB; rw [h.tsk.co _ (List.getElem_mem hk)]; rfl)
 have a8 : lk (bad8 p) p.ready = none := lk_none (fun k hk => by
  unfold bad8 brB
  rw [List.any_eq_false]
  intro z hz
  obtain ⟨t, rfl, h6, h9, hn⟩ := h.tsk.rd k z (by rw [List.getD_eq_getElem?_getD, List.getElem?_eq_getElem hk]; exact hz)
  have ht : t < p.kinds.length := k_in (by omega)
  have ht2 : t < p.tasks.length := by have := hl.tasks; omega
  have nt := h.tsk.yes t h6
  have hc := nt.c
  have hp := nt.pr
  unfold rdN at hn
  have e0 : ((p.t t 18 * 4 + p.t t 10).toNat : Int) = k := by rw [hn]
  have e1 : p.t t 18 = (k : Int) / 4 := by omega
  have e2 : p.t t 10 = (k : Int) % 4 := by omega
  unfold rpB rdB
  rw [isB_k ht, h6, Int.toNat_natCast, List.getElem?_eq_getElem ht2, t_at ht2]
  simp only [h9, e1, e2]
  simp)
 have a9 : lk (bad9 p) p.ram = none := lk_none (fun k hk => by
  have := h.ram.e k hk
  rw [List.getD_eq_getElem?_getD, List.getElem?_eq_getElem hk] at this
  exact this)
 have a10 : lk (bad10 p) p.tlbs = none := lk_none (fun k hk => by unfold bad10 bmB; rw [h.tsk.tl _ (List.getElem_mem hk)]; rfl)
 unfold sndB wmA
 rw [lf, show within 0 1000000 p.time = true by rw [h.tm]; rfl, Bool.and_self, if_pos rfl, looks_eq, a0, a1, a2, lk_none hk.b3, lk_none hk.b4, lk_none h.b5, a6, a7, a8, a9, a10]
 rfl
end Go.Proofs.YtkocmkaeaagbaaaGreatDoor.Wd
namespace Go.Proofs.YtkocmkaeaagbaaaGreatDoor.Wd
open Go.RowKit Go.Proofs.YtkocmkaeaagbaaaGreatDoor.Mem Go.Proofs.YtkocmkaeaagbaaaGreatDoor.Bw Go.Proofs.YtkocmkaeaagbaaaGreatDoor.Nums Go.Proofs.YtkocmkaeaagbaaaGreatDoor.Mmu
def opE (p : PW) (n : Int) : Int := if slotB p n then (if p.kinds.getD (n.toNat / 16) 0 = 5 then (if (p.slots.getD n.toNat nkey) 0 = 0 then 0 else 12) else 3) else 2
def boE (p : PW) (a b : Int) : Int := if hasE p a = 0 then opE p b else hasE p a
set_option maxRecDepth 100000 in
set_option maxHeartbeats 600000 in
theorem free_any (vb : Nat) (V : Nat → Value) (p : PW) (n : Int) (w : World) (hv : ViewAt w vb V p) (hk : p.slots.length = p.kinds.length * 16) :
  Calls Tryz.prog 198 #[.pointer (some ⟨vb, 0, none⟩), .int .i64 n] w fun r w' => r = .returned (eV (opE p n)) ∧ w = w' := by
 have c2 : w.cell? ⟨vb, 2, none⟩ = some (V 2) := range_cell hv.r rfl
 have c1 : w.cell? ⟨vb, 1, none⟩ = some (V 1) := range_cell hv.r rfl
 obtain ⟨q2, b2, off2, cap2, e2, hq2, hz2⟩ := hv.v.slots
 obtain ⟨q1, b1, off1, cap1, e1, hq1, hz1⟩ := hv.v.kinds
 have hl2 : (p.slots.length : Int) ≤ 1000 := by have := hv.f.slots; omega
 have hl1 : (p.kinds.length : Int) ≤ 1000 := by have := hv.f.kinds; omega
 have HV := hid hv
 cases hs : slotB p n with
 | false =>
  have HN := hid (show opE p n = 2 by unfold opE; rw [hs]; rfl)
  have HSB := hid hs
  clear hs hz2 hq2 hz1 hq1 hv hk
  go_enter Tryz.func198, Tryz.ntmps198
  go_wp2_with fail
  refine (pisSlot_any vb V p _ w HV.out).mono ?_
  rintro r w1 ⟨rfl, rfl⟩
  rw [HSB.out]
  go_wp2_with fail
  go_ret
  exact ⟨by rw [HN.out]; rfl, rfl⟩
 | true =>
  obtain ⟨j, rfl, hj⟩ := slotB_in hs
  have HSB := hid hs
  have hj2 : (j : Int) < (p.slots.length : Int) := by omega
  obtain rfl := hq2 (by omega)
  have x0 := range_at0 (hz2 j hj) (cf_at 7 _ 0 (by omega))
  have hk2 : j / 16 < p.kinds.length := by omega
  have hk3 : ((j : Int) / 16) = ((j / 16 : Nat) : Int) := by omega
  have hk4 : ((j / 16 : Nat) : Int) < (p.kinds.length : Int) := by omega
  obtain rfl := hq1 (by omega)
  have z0 := hz1 (j / 16) hk2
  have HA := hid (show opE p j = if p.kinds[j / 16] = 5 then (if p.slots[j] 0 = 0 then 0 else 12) else 3 by unfold opE; rw [hs, if_pos rfl, Int.toNat_natCast, getD_at hk2, List.getD_eq_getElem?_getD, List.getElem?_eq_getElem hj]; rfl)
  generalize p.slots[j] 0 = y at x0 HA
  generalize p.kinds[j / 16] = kd at z0 HA
  generalize j / 16 = i at *
  clear hs hz2 hq2 hz1 hq1 hv hk hk2
  by_cases h5 : kd = 5
  rotate_left
  ·have HN := hid (show opE p j = 3 by rw [HA.out, if_neg h5])
   have h5b : (kd != 5) = true := by simpa using h5
   clear h5
   go_enter Tryz.func198, Tryz.ntmps198
   go_wp2_with fail
   refine (pisSlot_any vb V p _ w HV.out).mono ?_
   rintro r w1 ⟨rfl, rfl⟩
   rw [HSB.out]
   go_wp2_with fail
   go_ret
   exact ⟨by rw [HN.out]; rfl, rfl⟩
  subst h5
  by_cases h0 : y = 0
  ·subst h0
   have HN := hid (show opE p j = 0 by rw [HA.out]; rfl)
   go_enter Tryz.func198, Tryz.ntmps198
   go_wp2_with fail
   refine (pisSlot_any vb V p _ w HV.out).mono ?_
   rintro r w1 ⟨rfl, rfl⟩
   rw [HSB.out]
   go_wp2_with fail
   go_ret
   exact ⟨by rw [HN.out]; rfl, rfl⟩
  ·have HN := hid (show opE p j = 12 by rw [HA.out, if_pos rfl, if_neg h0])
   have h0b : (y != 0) = true := by simpa using h0
   clear h0
   go_enter Tryz.func198, Tryz.ntmps198
   go_wp2_with fail
   refine (pisSlot_any vb V p _ w HV.out).mono ?_
   rintro r w1 ⟨rfl, rfl⟩
   rw [HSB.out]
   go_wp2_with fail
   go_ret
   exact ⟨by rw [HN.out]; rfl, rfl⟩
set_option maxRecDepth 100000 in
theorem between_any (vb : Nat) (V : Nat → Value) (p : PW) (a b : Int) (w : World) (hv : ViewAt w vb V p) (hk : p.slots.length = p.kinds.length * 16) :
  Calls Tryz.prog 167 #[.pointer (some ⟨vb, 0, none⟩), .int .i64 a, .int .i64 b] w fun r w' => r = .returned (eV (boE p a b)) ∧ w = w' := by
 have H1 := hid (full_any vb V p a w hv)
 have H2 := hid (free_any vb V p b w hv hk)
 clear hv hk
 by_cases h : hasE p a = 0
 ·have HN := hid (show boE p a b = opE p b from if_pos h)
  rw [h, eV_0] at H1
  have HV := hid (show eV (boE p a b) = eV (opE p b) by rw [HN.out])
  generalize eV (opE p b) = ve at H2 HV
  clear h
  go_enter Tryz.func167, Tryz.ntmps167
  go_wp2_with fail
  refine H1.out.mono ?_
  rintro r w1 ⟨rfl, rfl⟩
  go_wp2_with fail
  refine H2.out.mono ?_
  rintro r w1 ⟨rfl, rfl⟩
  go_wp2_with fail
  go_ret
  exact ⟨by rw [HV.out]; rfl, rfl⟩
 ·have HN := hid (show boE p a b = hasE p a from if_neg h)
  rw [eV_n h] at H1
  have HV := hid (show eV (boE p a b) = .iface 29 (.int .i64 (hasE p a)) by rw [HN.out, eV_n h])
  generalize hasE p a = x at H1 HV
  clear h H2
  go_enter Tryz.func167, Tryz.ntmps167
  go_wp2_with fail
  refine H1.out.mono ?_
  rintro r w1 ⟨rfl, rfl⟩
  go_wp2_with fail
  go_ret
  exact ⟨by rw [HV.out]; rfl, rfl⟩
theorem boE_in {p : PW} {a b : Int} (h : boE p a b = 0) : ∃ i j : Nat, a = i ∧ b = j ∧ i < p.slots.length ∧ j < p.slots.length := by
 unfold boE at h
 split at h
 ·rename_i h1
  unfold hasE at h1
  unfold opE at h
  cases ha : slotB p a with
  | false => rw [ha] at h1; simp at h1
  | true =>
   cases hb : slotB p b with
   | false => rw [hb] at h; simp at h
   | true =>
    obtain ⟨i, hi, hi2⟩ := slotB_in ha
    obtain ⟨j, hj, hj2⟩ := slotB_in hb
    exact ⟨i, j, hi, hj, hi2, hj2⟩
 ·rename_i h1
  exact absurd h h1
def lsE (s : Nat → Int) (r g : Int) : Int := if s 0 = 1 then 3 else if (within 0 7 r && wB g) = false then 2 else if g = 0 then 0 else if (s 0 ≠ 7 ∧ s 0 ≠ 8) ∨ s 5 ≠ 0 then 4 else 0
def lsK (s : Nat → Int) (r g : Int) : Nat → Int := fun k => if k = 4 then bits .and .i64 (s 4) r else if k = 5 then (if g = 0 then s 5 else g) else s k
def lsR (s : Nat → Int) (r g : Int) : Nat → Int := if lsE s r g = 0 then lsK s r g else nkey
set_option maxRecDepth 100000 in
set_option maxHeartbeats 2000000 in
theorem lesser_any (s : Nat → Int) (r g : Int) (w : World) :
  Calls Tryz.prog 168 #[.agg (kv s), .int .i64 r, .int .i64 g] w fun x w' => x = .returned (.tuple #[.agg (kv (lsR s r g)), eV (lsE s r g)]) ∧ Below w.heap.size w w' := by
 have B1 := hid (bal (bal (Below.refl w.heap.size w) (.cells #[.int .i64 (s 0), .int .i64 (s 1), .int .i64 (s 2), .int .i64 (s 3), .int .i64 (s 4), .int .i64 (s 5)] 43)) (.cells #[.int .i64 0, .int .i64 0, .int .i64 0, .int .i64 0, .int .i64 0, .int .i64 0] 43))
 have CK := hid (cells_alloc (cells_new w #[.int .i64 (s 0), .int .i64 (s 1), .int .i64 (s 2), .int .i64 (s 3), .int .i64 (s 4), .int .i64 (s 5)] 43) (by simp) (.cells #[.int .i64 0, .int .i64 0, .int .i64 0, .int .i64 0, .int .i64 0, .int .i64 0] 43))
 have FK := hid (show ∀ o, ((w.alloc (.cells #[.int .i64 (s 0), .int .i64 (s 1), .int .i64 (s 2), .int .i64 (s 3), .int .i64 (s 4), .int .i64 (s 5)] 43)).alloc (.cells #[.int .i64 0, .int .i64 0, .int .i64 0, .int .i64 0, .int .i64 0, .int .i64 0] 43)).frozen? ⟨w.heap.size, o, none⟩ = false from froz_alloc (fun o => World.frozen?_alloc_at _ _ _ _ rfl) (by simp) _)
 have CZ := hid (cells_at (w.alloc (.cells #[.int .i64 (s 0), .int .i64 (s 1), .int .i64 (s 2), .int .i64 (s 3), .int .i64 (s 4), .int .i64 (s 5)] 43)) #[.int .i64 0, .int .i64 0, .int .i64 0, .int .i64 0, .int .i64 0, .int .i64 0] 43 (w.heap.size + 1) (by simp))
 have FZ := hid (show ∀ o, ((w.alloc (.cells #[.int .i64 (s 0), .int .i64 (s 1), .int .i64 (s 2), .int .i64 (s 3), .int .i64 (s 4), .int .i64 (s 5)] 43)).alloc (.cells #[.int .i64 0, .int .i64 0, .int .i64 0, .int .i64 0, .int .i64 0, .int .i64 0] 43)).frozen? ⟨w.heap.size + 1, o, none⟩ = false from fun o => World.frozen?_alloc_at _ _ _ _ (by simp))
 unfold kv
 go_enter Tryz.func168, Tryz.ntmps168
 go_upto_region 1 with fail
 generalize World.alloc _ _ = W1 at *
 have k0 := CK.out 0
 have k4 := CK.out 4
 have k5 := CK.out 5
 have fk := FK.out
 have cz := CZ.out
 have fz := FZ.out
 by_cases h1 : s 0 = 1
 ·have h1b : (s 0 == 1) = true := by simpa using h1
  have HE := hid (show lsE s r g = 3 by unfold lsE; rw [if_pos h1])
  clear h1
  go_wp2_with fail
  have HR := hid (show lsR s r g = nkey from if_neg (by rw [HE.out]; decide))
  have q := six_set (B := w.heap.size + 1) (v0 := .int .i64 0) (v1 := .int .i64 0) (v2 := .int .i64 0) (v3 := .int .i64 0) (v4 := .int .i64 0) (v5 := .int .i64 0) cz
  exact bodyPost_ret (v := .tuple #[.agg #[.int .i64 0, .int .i64 0, .int .i64 0, .int .i64 0, .int .i64 0, .int .i64 0], .iface 29 (.int .i64 3)]) (by simp [results, Tryz.results168, go_sem, q 0, q 1, q 2, q 3, q 4, q 5]) rfl ⟨by rw [HR.out, HE.out]; rfl, bset6s B1.out⟩
 have h1b : (s 0 == 1) = false := by simpa using h1
 go_wp2_with fail
 refine (withinB r 0 7 _).mono ?_
 rintro x w1 ⟨rfl, rfl⟩
 cases hr : within 0 7 r with
 | false =>
  have HE := hid (show lsE s r g = 2 by unfold lsE; rw [if_neg h1, hr]; rfl)
  clear h1 hr
  go_wp2_with fail
  have HR := hid (show lsR s r g = nkey from if_neg (by rw [HE.out]; decide))
  have q := six_set (B := w.heap.size + 1) (v0 := .int .i64 0) (v1 := .int .i64 0) (v2 := .int .i64 0) (v3 := .int .i64 0) (v4 := .int .i64 0) (v5 := .int .i64 0) cz
  exact bodyPost_ret (v := .tuple #[.agg #[.int .i64 0, .int .i64 0, .int .i64 0, .int .i64 0, .int .i64 0, .int .i64 0], .iface 29 (.int .i64 2)]) (by simp [results, Tryz.results168, go_sem, q 0, q 1, q 2, q 3, q 4, q 5]) rfl ⟨by rw [HR.out, HE.out]; rfl, bset6s B1.out⟩
 | true =>
 go_wp2_with fail
 refine (isWord_any g _).mono ?_
 rintro x w1 ⟨rfl, rfl⟩
 cases hw : wB g with
 | false =>
  have HE := hid (show lsE s r g = 2 by unfold lsE; rw [if_neg h1, hr, hw]; rfl)
  clear h1 hr hw
  go_wp2_with fail
  have HR := hid (show lsR s r g = nkey from if_neg (by rw [HE.out]; decide))
  have q := six_set (B := w.heap.size + 1) (v0 := .int .i64 0) (v1 := .int .i64 0) (v2 := .int .i64 0) (v3 := .int .i64 0) (v4 := .int .i64 0) (v5 := .int .i64 0) cz
  exact bodyPost_ret (v := .tuple #[.agg #[.int .i64 0, .int .i64 0, .int .i64 0, .int .i64 0, .int .i64 0, .int .i64 0], .iface 29 (.int .i64 2)]) (by simp [results, Tryz.results168, go_sem, q 0, q 1, q 2, q 3, q 4, q 5]) rfl ⟨by rw [HR.out, HE.out]; rfl, bset6s B1.out⟩
 | true =>
 have HE0 := hid (show lsE s r g = if g = 0 then 0 else if (s 0 ≠ 7 ∧ s 0 ≠ 8) ∨ s 5 ≠ 0 then 4 else 0 by unfold lsE; rw [if_neg h1, hr, hw]; rfl)
 have CA := hid (cells_set CK.out 4 (by simp) (.int .i64 (bits .and .i64 (s 4) r)))
 have ca0 : (W1.setCell ⟨w.heap.size, 4, none⟩ (.int .i64 (bits .and .i64 (s 4) r))).cell? ⟨w.heap.size, 0, none⟩ = some (.int .i64 (s 0)) := CA.out 0
 have ca1 : (W1.setCell ⟨w.heap.size, 4, none⟩ (.int .i64 (bits .and .i64 (s 4) r))).cell? ⟨w.heap.size, 1, none⟩ = some (.int .i64 (s 1)) := CA.out 1
 have ca2 : (W1.setCell ⟨w.heap.size, 4, none⟩ (.int .i64 (bits .and .i64 (s 4) r))).cell? ⟨w.heap.size, 2, none⟩ = some (.int .i64 (s 2)) := CA.out 2
 have ca3 : (W1.setCell ⟨w.heap.size, 4, none⟩ (.int .i64 (bits .and .i64 (s 4) r))).cell? ⟨w.heap.size, 3, none⟩ = some (.int .i64 (s 3)) := CA.out 3
 have ca4 : (W1.setCell ⟨w.heap.size, 4, none⟩ (.int .i64 (bits .and .i64 (s 4) r))).cell? ⟨w.heap.size, 4, none⟩ = some (.int .i64 (bits .and .i64 (s 4) r)) := CA.out 4
 have ca5 : (W1.setCell ⟨w.heap.size, 4, none⟩ (.int .i64 (bits .and .i64 (s 4) r))).cell? ⟨w.heap.size, 5, none⟩ = some (.int .i64 (s 5)) := CA.out 5
 have CZA := hid (cells_far CZ.out (B := w.heap.size) (i := 4) (by omega) (.int .i64 (bits .and .i64 (s 4) r)))
 have BA := hid (bset B1.out (b := w.heap.size) (o := 4) (Nat.le_refl _) (.int .i64 (bits .and .i64 (s 4) r)))
 have FKA := hid (show ∀ o, (W1.setCell ⟨w.heap.size, 4, none⟩ (.int .i64 (bits .and .i64 (s 4) r))).frozen? ⟨w.heap.size, o, none⟩ = false from fun o => by rw [World.frozen?_setCell]; exact FK.out o)
 have FZA := hid (show ∀ o, (W1.setCell ⟨w.heap.size, 4, none⟩ (.int .i64 (bits .and .i64 (s 4) r))).frozen? ⟨w.heap.size + 1, o, none⟩ = false from fun o => by rw [World.frozen?_setCell]; exact FZ.out o)
 have HK4 := hid (show ∀ k, lsK s r g k = if k = 4 then bits .and .i64 (s 4) r else if k = 5 then (if g = 0 then s 5 else g) else s k from fun _ => rfl)
 clear h1 hr hw cz
 go_upto_region 6 with fail
 generalize bits .and .i64 (s 4) r = a4 at *
 generalize World.setCell _ _ _ = W2 at *
 clear k0 k4 k5 fk fz
 have cz := CZA.out
 have fz := FZA.out
 have fk := FKA.out
 by_cases h0 : g = 0
 ·subst h0
  have HE := hid (show lsE s r 0 = 0 by rw [HE0.out]; rfl)
  have HR := hid (show kv (lsR s r 0) = #[.int .i64 (s 0), .int .i64 (s 1), .int .i64 (s 2), .int .i64 (s 3), .int .i64 a4, .int .i64 (s 5)] by unfold lsR kv; rw [if_pos HE.out]; simp [HK4.out])
  go_wp2_with fail
  have q := six_set (B := w.heap.size + 1) (v0 := .int .i64 (s 0)) (v1 := .int .i64 (s 1)) (v2 := .int .i64 (s 2)) (v3 := .int .i64 (s 3)) (v4 := .int .i64 a4) (v5 := .int .i64 (s 5)) cz
  exact bodyPost_ret (v := .tuple #[.agg #[.int .i64 (s 0), .int .i64 (s 1), .int .i64 (s 2), .int .i64 (s 3), .int .i64 a4, .int .i64 (s 5)], .nilIface]) (by simp [results, Tryz.results168, go_sem, q 0, q 1, q 2, q 3, q 4, q 5]) rfl ⟨by show _ = Ending.returned (Value.tuple #[.agg (kv (lsR s r 0)), eV (lsE s r 0)]); rw [HR.out, HE.out]; rfl, bset6s BA.out⟩
 have h0b : (g == 0) = false := by simpa using h0
 by_cases h4 : (s 0 ≠ 7 ∧ s 0 ≠ 8) ∨ s 5 ≠ 0
 ·have HE := hid (show lsE s r g = 4 by rw [HE0.out, if_neg h0, if_pos h4])
  have C4 := hid h4
  clear h0 h4
  by_cases h7 : s 0 = 7
  ·have h7b : (s 0 != 7) = false := by simpa using h7
   have h5b : (s 5 != 0) = true := by
    rcases C4.out with h | h
    ·exact absurd h7 h.1
    ·simpa using h
   clear h7
   go_wp2_with fail
   have HR := hid (show lsR s r g = nkey from if_neg (by rw [HE.out]; decide))
   have q := six_set (B := w.heap.size + 1) (v0 := .int .i64 0) (v1 := .int .i64 0) (v2 := .int .i64 0) (v3 := .int .i64 0) (v4 := .int .i64 0) (v5 := .int .i64 0) cz
   exact bodyPost_ret (v := .tuple #[.agg #[.int .i64 0, .int .i64 0, .int .i64 0, .int .i64 0, .int .i64 0, .int .i64 0], .iface 29 (.int .i64 4)]) (by simp [results, Tryz.results168, go_sem, q 0, q 1, q 2, q 3, q 4, q 5]) rfl ⟨by rw [HR.out, HE.out]; rfl, bset6s BA.out⟩
  ·have h7b : (s 0 != 7) = true := by simpa using h7
   by_cases h8 : s 0 = 8
   ·have h8b : (s 0 != 8) = false := by simpa using h8
    have h5b : (s 5 != 0) = true := by
     rcases C4.out with h | h
     ·exact absurd h8 h.2
     ·simpa using h
    clear h7 h8
    go_wp2_with fail
    have HR := hid (show lsR s r g = nkey from if_neg (by rw [HE.out]; decide))
    have q := six_set (B := w.heap.size + 1) (v0 := .int .i64 0) (v1 := .int .i64 0) (v2 := .int .i64 0) (v3 := .int .i64 0) (v4 := .int .i64 0) (v5 := .int .i64 0) cz
    exact bodyPost_ret (v := .tuple #[.agg #[.int .i64 0, .int .i64 0, .int .i64 0, .int .i64 0, .int .i64 0, .int .i64 0], .iface 29 (.int .i64 4)]) (by simp [results, Tryz.results168, go_sem, q 0, q 1, q 2, q 3, q 4, q 5]) rfl ⟨by rw [HR.out, HE.out]; rfl, bset6s BA.out⟩
   ·have h8b : (s 0 != 8) = true := by simpa using h8
    clear h7 h8
    go_wp2_with fail
    have HR := hid (show lsR s r g = nkey from if_neg (by rw [HE.out]; decide))
    have q := six_set (B := w.heap.size + 1) (v0 := .int .i64 0) (v1 := .int .i64 0) (v2 := .int .i64 0) (v3 := .int .i64 0) (v4 := .int .i64 0) (v5 := .int .i64 0) cz
    exact bodyPost_ret (v := .tuple #[.agg #[.int .i64 0, .int .i64 0, .int .i64 0, .int .i64 0, .int .i64 0, .int .i64 0], .iface 29 (.int .i64 4)]) (by simp [results, Tryz.results168, go_sem, q 0, q 1, q 2, q 3, q 4, q 5]) rfl ⟨by rw [HR.out, HE.out]; rfl, bset6s BA.out⟩
 have HE := hid (show lsE s r g = 0 by rw [HE0.out, if_neg h0, if_neg h4])
 have h5b : (s 5 != 0) = false := by
  have : s 5 = 0 := by
   apply Classical.byContradiction
   intro h
   exact h4 (.inr h)
  simpa using this
 have h78 : s 0 = 7 ∨ s 0 = 8 := by
  apply Classical.byContradiction
  intro h
  exact h4 (.inl ⟨fun e => h (.inl e), fun e => h (.inr e)⟩)
 have HR := hid (show kv (lsR s r g) = #[.int .i64 (s 0), .int .i64 (s 1), .int .i64 (s 2), .int .i64 (s 3), .int .i64 a4, .int .i64 g] by unfold lsR kv; rw [if_pos HE.out]; simp [HK4.out, h0])
 have CA5 := hid (show ∀ o, W2.cell? ⟨w.heap.size, o, none⟩ = (#[.int .i64 (s 0), .int .i64 (s 1), .int .i64 (s 2), .int .i64 (s 3), .int .i64 a4, .int .i64 (s 5)] : Array Value)[o]? from CA.out)
 have CB := hid (cells_set CA5.out 5 (by simp) (.int .i64 g))
 have cb0 : (W2.setCell ⟨w.heap.size, 5, none⟩ (.int .i64 g)).cell? ⟨w.heap.size, 0, none⟩ = some (.int .i64 (s 0)) := CB.out 0
 have cb1 : (W2.setCell ⟨w.heap.size, 5, none⟩ (.int .i64 g)).cell? ⟨w.heap.size, 1, none⟩ = some (.int .i64 (s 1)) := CB.out 1
 have cb2 : (W2.setCell ⟨w.heap.size, 5, none⟩ (.int .i64 g)).cell? ⟨w.heap.size, 2, none⟩ = some (.int .i64 (s 2)) := CB.out 2
 have cb3 : (W2.setCell ⟨w.heap.size, 5, none⟩ (.int .i64 g)).cell? ⟨w.heap.size, 3, none⟩ = some (.int .i64 (s 3)) := CB.out 3
 have cb4 : (W2.setCell ⟨w.heap.size, 5, none⟩ (.int .i64 g)).cell? ⟨w.heap.size, 4, none⟩ = some (.int .i64 a4) := CB.out 4
 have cb5 : (W2.setCell ⟨w.heap.size, 5, none⟩ (.int .i64 g)).cell? ⟨w.heap.size, 5, none⟩ = some (.int .i64 g) := CB.out 5
 have czb := cells_far CZA.out (B := w.heap.size) (i := 5) (by omega) (.int .i64 g)
 have fzb : ∀ o, (W2.setCell ⟨w.heap.size, 5, none⟩ (.int .i64 g)).frozen? ⟨w.heap.size + 1, o, none⟩ = false := fun o => by rw [World.frozen?_setCell]; exact FZA.out o
 have BB := hid (bset BA.out (b := w.heap.size) (o := 5) (Nat.le_refl _) (.int .i64 g))
 clear h0 h4 HE0
 have H78 := hid h78
 clear h78
 rcases H78.out with h7 | h8
 ·have h7b : (s 0 != 7) = false := by simpa using h7
  clear h7
  go_wp2_with fail
  have q := six_set (B := w.heap.size + 1) (v0 := .int .i64 (s 0)) (v1 := .int .i64 (s 1)) (v2 := .int .i64 (s 2)) (v3 := .int .i64 (s 3)) (v4 := .int .i64 a4) (v5 := .int .i64 g) czb
  exact bodyPost_ret (v := .tuple #[.agg #[.int .i64 (s 0), .int .i64 (s 1), .int .i64 (s 2), .int .i64 (s 3), .int .i64 a4, .int .i64 g], .nilIface]) (by simp [results, Tryz.results168, go_sem, q 0, q 1, q 2, q 3, q 4, q 5]) rfl ⟨by show _ = Ending.returned (Value.tuple #[.agg (kv (lsR s r g)), eV (lsE s r g)]); rw [HR.out, HE.out]; rfl, bset6s BB.out⟩
 ·have h8b : (s 0 != 8) = false := by simpa using h8
  have h7b : (s 0 != 7) = true := by simp [h8]
  clear h8
  go_wp2_with fail
  have q := six_set (B := w.heap.size + 1) (v0 := .int .i64 (s 0)) (v1 := .int .i64 (s 1)) (v2 := .int .i64 (s 2)) (v3 := .int .i64 (s 3)) (v4 := .int .i64 a4) (v5 := .int .i64 g) czb
  exact bodyPost_ret (v := .tuple #[.agg #[.int .i64 (s 0), .int .i64 (s 1), .int .i64 (s 2), .int .i64 (s 3), .int .i64 a4, .int .i64 g], .nilIface]) (by simp [results, Tryz.results168, go_sem, q 0, q 1, q 2, q 3, q 4, q 5]) rfl ⟨by show _ = Ending.returned (Value.tuple #[.agg (kv (lsR s r g)), eV (lsE s r g)]); rw [HR.out, HE.out]; rfl, bset6s BB.out⟩
end Go.Proofs.YtkocmkaeaagbaaaGreatDoor.Wd
