/- What starting, stopping and ranking a task come to, in a sound world: the program's way and the document's are the same. · Small questions of who runs: plain.Thing, keyholdref.TaskMay, slices.Contains over numbers; walked. -/
import Derived.Test.YtjjhodfekmpelaaGreatDoorGRf
import Derived.Test.YtjjhodfekmpelaaGreatDoorGSl
namespace Go.Proofs.YtjjhodfekmpelaaGreatDoor.Wd
open Go.RowKit Go.Proofs.YtjjhodfekmpelaaGreatDoor.Mem Go.Proofs.YtjjhodfekmpelaaGreatDoor.Bw Go.Proofs.YtjjhodfekmpelaaGreatDoor.Nums Go.Proofs.YtjjhodfekmpelaaGreatDoor.Mmu
/-- What is wrong with a number that should be that of a frame of a kind. -/
def thE (p : PW) (f k : Int) : Int := if frB p f then (if isB p f k then 0 else 3) else 2
theorem thE_in {p : PW} {f k : Int} (h : thE p f k = 0) : ∃ (t : Nat) (ht : t < p.kinds.length), f = t ∧ p.kinds[t] = k := by
 unfold thE at h
 cases h1 : frB p f with
 | false => rw [h1] at h; simp at h
 | true =>
  cases h2 : isB p f k with
  | false => rw [h1, h2] at h; simp at h
  | true =>
   unfold frB at h1
   have h3 := of_decide_eq_true h1
   obtain ⟨t, rfl⟩ : ∃ t : Nat, f = t := ⟨f.toNat, by omega⟩
   have ht : t < p.kinds.length := by omega
   unfold isB at h2
   rw [kindAt_some ht] at h2
   exact ⟨t, ht, rfl, by simpa using h2⟩
theorem snd_task {p : PW} (h : Snd p) {t : Nat} (ht : t < p.kinds.length) (hk : p.kinds[t] = 6) :
  nfB p (p.tasks.getD t bl) = true ∧ ffB p (p.tasks.getD t bl) = true ∧ dbB p t (p.tasks.getD t bl) = true ∧ srB p t (p.tasks.getD t bl) = true ∧ rrB p t (p.tasks.getD t bl) = true := by
 have hl : t < p.tasks.length := by rw [h.lf.tasks]; exact ht
 have h1 : btB p t (p.kinds.getD t 0) p.tasks[t] = false := h.b5 t hl
 have h2 : p.tasks.getD t bl = p.tasks[t] := by rw [List.getD_eq_getElem?_getD, List.getElem?_eq_getElem hl]; rfl
 have h3 : p.kinds.getD t 0 = 6 := by rw [List.getD_eq_getElem?_getD, List.getElem?_eq_getElem ht, Option.getD_some]; exact hk
 rw [h2]
 unfold btB at h1
 rw [if_pos h3] at h1
 simp only [Bool.not_eq_false', Bool.and_eq_true] at h1
 exact ⟨h1.1.1.1.1, h1.1.1.1.2, h1.1.1.2, h1.1.2, h1.2⟩
theorem nf_bounds {p : PW} {f : Nat → Int} (h : nfB p f = true) : (0 ≤ f 9 ∧ f 9 ≤ 6) ∧ (0 ≤ f 10 ∧ f 10 ≤ 3) ∧ (0 ≤ f 18 ∧ f 18 ≤ (p.cores.length : Int) - 1) ∧ (0 ≤ f 19 ∧ f 19 ≤ 3) := by
 unfold nfB within at h
 simp only [Bool.and_eq_true, decide_eq_true_eq] at h
 exact ⟨h.1.1.1.2, h.1.1.2, h.1.2, h.2⟩
theorem cn_none {x : Int} : ∀ {zs : List Int}, cn x zs = 0 → ∀ z ∈ zs, z ≠ x
 | [], _, _, h => by cases h
 | y :: l, h0, z, h => by
  unfold cn sumOf at h0
  simp only [List.map_cons, List.sum_cons] at h0
  rcases List.mem_cons.1 h with rfl | h
  ·intro e
   unfold one at h0
   rw [if_pos e] at h0
   omega
  ·exact cn_none (zs := l) (by unfold cn sumOf; omega) z h
theorem gone_self {x : Int} {zs : List Int} (h : cn x zs = 0) : goneP (fun y => y == x) zs = zs := by
 unfold goneP
 rw [List.filter_eq_self]
 intro a ha
 simpa using cn_none h a ha
theorem lvs_self {x : Int} : ∀ {ls : List (List Int)}, cna x ls = 0 → lvs x ls = ls
 | [], _ => rfl
 | l :: r, h => by
  unfold cna sumOf at h
  simp only [List.map_cons, List.sum_cons] at h
  have h1 : lvs x r = r := lvs_self (by unfold cna sumOf; omega)
  unfold lvs at h1 ⊢
  rw [List.map_cons, h1, gone_self (by omega)]
theorem noT_self {x : Int} {zs : List Int} (h : cn x zs = 0) : zs.map (noT x) = zs := by
 have : ∀ z ∈ zs, noT x z = z := fun z hz => if_neg (cn_none h z hz)
 exact (List.map_congr_left this).trans (List.map_id' zs)
/-- The number of the Ready of a task. -/
def rdN (p : PW) (t : Nat) : Nat := (p.tasks.getD t bl 18 * 4 + p.tasks.getD t bl 10).toNat
theorem rdN_eq {p : PW} (h : Snd p) {t : Nat} (ht : t < p.kinds.length) (hk : p.kinds[t] = 6) : rdN p t < p.ready.length ∧ p.tasks.getD t bl 18 * 4 + p.tasks.getD t bl 10 = (rdN p t : Int) ∧ (0 ≤ p.tasks.getD t bl 18 ∧ p.tasks.getD t bl 18 ≤ 1000) ∧ (0 ≤ p.tasks.getD t bl 10 ∧ p.tasks.getD t bl 10 ≤ 1000) := by
 obtain ⟨h1, h2, h3, _⟩ := nf_bounds (snd_task h ht hk).1
 have h4 := h.lf.c2
 unfold rdN
 rw [h.lf.ready]
 omega
theorem task_at (p : PW) (t k j : Nat) (x : Int) (ht : t < p.tasks.length) (hj : j ≠ k) : (p.task t k x).tasks.getD t bl j = p.tasks.getD t bl j := by rw [task_getD p t k j x ht, if_neg hj]
set_option maxRecDepth 100000 in
theorem thing_any (vb : Nat) (V : Nat → Value) (p : PW) (f k : Int) (w : World) (hv : ViewAt w vb V p) :
  Calls Tryz.prog 94 #[.pointer (some ⟨vb, 0, none⟩), .int .i64 f, .int .i64 k] w fun r w' => r = .returned (eV (thE p f k)) ∧ w = w' := by
 have HF := hid (pisFrame_any vb V p f w hv)
 have HI := hid (pis_any vb V p f k w hv)
 clear hv
 cases h1 : frB p f with
 | false =>
  have HE := hid (show thE p f k = 2 by unfold thE; rw [h1]; rfl)
  rw [h1] at HF
  clear h1
  go_enter Tryz.func94, Tryz.ntmps94
  go_wp2_with fail
  refine HF.out.mono ?_
  rintro r w1 ⟨rfl, rfl⟩
  go_wp2_with fail
  go_ret
  exact ⟨by rw [HE.out]; rfl, rfl⟩
 | true =>
 rw [h1] at HF
 cases h2 : isB p f k with
 | false =>
  have HE := hid (show thE p f k = 3 by unfold thE; rw [h1, h2]; rfl)
  rw [h2] at HI
  clear h1 h2
  go_enter Tryz.func94, Tryz.ntmps94
  go_wp2_with fail
  refine HF.out.mono ?_
  rintro r w1 ⟨rfl, rfl⟩
  go_wp2_with fail
  refine HI.out.mono ?_
  rintro r w1 ⟨rfl, rfl⟩
  go_wp2_with fail
  go_ret
  exact ⟨by rw [HE.out]; rfl, rfl⟩
 | true =>
  have HE := hid (show thE p f k = 0 by unfold thE; rw [h1, h2]; rfl)
  rw [h2] at HI
  clear h1 h2
  go_enter Tryz.func94, Tryz.ntmps94
  go_wp2_with fail
  refine HF.out.mono ?_
  rintro r w1 ⟨rfl, rfl⟩
  go_wp2_with fail
  refine HI.out.mono ?_
  rintro r w1 ⟨rfl, rfl⟩
  go_wp2_with fail
  go_ret
  exact ⟨by rw [HE.out]; rfl, rfl⟩
set_option maxRecDepth 100000 in
set_option maxHeartbeats 2000000 in
theorem indexOf_any (x : Value) (zs : List Int) (n : Int) (w : World) (hx : IntsIn w x zs) (hl : zs.length ≤ 1000) :
  Calls Tryz.prog 132 #[x, .int .i64 n] w fun r w' => ∃ i : Int, r = .returned (.int .i64 i) ∧ (decide (0 ≤ i) = inB n zs) ∧ w = w' := by
 obtain ⟨q, b, off, cap, rfl, hq, hz⟩ := hx
 have hl2 : (zs.length : Int) ≤ 1000 := by omega
 have HQ := hid hq
 have HZ := hid hz
 clear hq hz
 go_enter Tryz.func132, Tryz.ntmps132
 go_wp2_with fail
 go_loopw [8] (fun i wr => ∃ k : Nat, k ≤ zs.length ∧ i = .int .i64 k ∧ Hid (sumOf (one n) (zs.take k) = 0) ∧ Hid (w = wr)) (fun i _ => zs.length - (intOf i).toNat)
 case atStart => exact ⟨0, by omega, rfl, hid rfl, hid rfl⟩
 case round =>
  obtain ⟨k, hk, rfl, HS, HW⟩ := hrel
  obtain rfl := HW.out
  clear HW
  by_cases hlt : k < zs.length
  ·have hlt2 : (k : Int) < (zs.length : Int) := by omega
   have hqe := HQ.out (by omega)
   subst hqe
   have ck := HZ.out k hlt
   have HN := hid (sum_next (one n) hlt)
   rw [HS.out] at HN
   obtain ⟨y, hy⟩ : ∃ y, zs[k] = y := ⟨_, rfl⟩
   rw [hy] at ck HN
   have HY := hid hy
   clear hy
   by_cases hyn : y = n
   ·have HI := hid (show inB n zs = true by
     unfold inB cn
     apply decide_eq_true
     have h1 := HN.out
     unfold one at h1
     rw [if_pos hyn] at h1
     have h2 := sum_app (one n) (zs.take (k + 1)) (zs.drop (k + 1))
     rw [List.take_append_drop] at h2
     unfold one at h2 ⊢
     omega)
    subst hyn
    go_wp2_with fail
    go_ret
    exact ⟨_, rfl, by rw [HI.out]; simp, rfl⟩
   ·have HN2 := hid (show sumOf (one n) (zs.take (k + 1)) = 0 by
     rw [HN.out]
     unfold one
     rw [if_neg hyn])
    have hnb : (n == y) = false := by simpa using fun e => hyn e.symm
    clear hyn
    go_wp2_with fail
    exact ⟨⟨k + 1, by omega, by go_num, HN2, hid trivial⟩, by simp [intOf]; omega⟩
  ·obtain rfl : k = zs.length := by omega
   have hge : ¬ ((zs.length : Int) < (zs.length : Int)) := by omega
   have HI := hid (show inB n zs = false by
    unfold inB cn
    apply decide_eq_false
    have h1 := HS.out
    rw [List.take_length] at h1
    omega)
   go_wp2_with fail
   go_ret
   exact ⟨_, rfl, by rw [HI.out]; rfl, rfl⟩
theorem contains_any (x : Value) (zs : List Int) (n : Int) (w : World) (hx : IntsIn w x zs) (hl : zs.length ≤ 1000) :
  Calls Tryz.prog 75 #[x, .int .i64 n] w fun r w' => r = .returned (.bool (inB n zs)) ∧ w = w' := by
 have HX := hid (indexOf_any x zs n w hx hl)
 generalize inB n zs = bb at HX ⊢
 clear hx
 go_enter Tryz.func75, Tryz.ntmps75
 go_wp2_with fail
 refine HX.out.mono ?_
 rintro r w1 ⟨i, rfl, hi, rfl⟩
 have HI := hid hi
 clear hi
 go_wp2_with fail
 go_ret
 exact ⟨by rw [← HI.out]; rfl, rfl⟩
end Go.Proofs.YtjjhodfekmpelaaGreatDoor.Wd
