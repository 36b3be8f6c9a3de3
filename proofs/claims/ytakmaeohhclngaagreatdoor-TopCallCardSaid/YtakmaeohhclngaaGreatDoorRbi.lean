/- What starting, stopping and ranking a task come to, in a sound world: the program's way and the document's are the same. · Small questions of who runs: plain.Thing, keyholdref.TaskMay, slices.Contains over numbers; walked. · The rest of ScA: what few laws reach. · What sched.Start, sched.Stop and sched.Rank do, walked. (Written by mk_sc.py.) · Starting, stopping and ranking a task, by the document: keyholdref.Started, Stop, Ranked; walked. (Written by mk_scref.py.) · The world of 'one' with instructions in two frames (letters), and both its tasks begun: plain; it is sound. · keyholdref.Begun of the text 'one': walked. -/
import Derived.Test.YtakmaeohhclngaaGreatDoorRbh
import Derived.Test.YtakmaeohhclngaaGreatDoorRau
import Derived.Test.YtakmaeohhclngaaGreatDoorRbg
import Derived.Test.YtakmaeohhclngaaGreatDoorRah
import Derived.Test.YtakmaeohhclngaaGreatDoorRam
namespace Go.Proofs.YtakmaeohhclngaaGreatDoor.Wd
open Go.RowKit Go.Proofs.YtakmaeohhclngaaGreatDoor.Mem Go.Proofs.YtakmaeohhclngaaGreatDoor.Bw Go.Proofs.YtakmaeohhclngaaGreatDoor.Nums Go.Proofs.YtakmaeohhclngaaGreatDoor.Mmu
/-- What is wrong with a number that should be that of a frame of a kind. -/
def thE (p : PW) (f k : Int) : Int := if frB p f then (if isB p f k then 0 else 3) else 2
theorem thE_in {p : PW} {f k : Int} (h : thE p f k = 0) : ∃ (t : Nat) (ht : t < p.kinds.length), f = t ∧ p.kinds[t] = k := by
 unfold thE at h
 cases h1 : frB p f with
 | false => rw [h1] at h; simp at h
 | true =>
  cases h2 : isB p f k with
  | false => rw [h1, h2] at h; simp at h
  | true =>
   unfold frB at h1
   have h3 := of_decide_eq_true h1
   obtain ⟨t, rfl⟩ : ∃ t : Nat, f = t := ⟨f.toNat, by omega⟩
   have ht : t < p.kinds.length := by omega
   unfold isB at h2
   rw [kindAt_some ht] at h2
   exact ⟨t, ht, rfl, by simpa using h2⟩
theorem snd_task {p : PW} (h : Snd p) {t : Nat} (ht : t < p.kinds.length) (hk : p.kinds[t] = 6) :
  nfB p (p.tasks.getD t bl) = true ∧ ffB p (p.tasks.getD t bl) = true ∧ dbB p t (p.tasks.getD t bl) = true ∧ srB p t (p.tasks.getD t bl) = true ∧ rrB p t (p.tasks.getD t bl) = true := by
 have hl : t < p.tasks.length := by rw [h.lf.tasks]; exact ht
 have h1 : btB p t (p.kinds.getD t 0) p.tasks[t] = false := h.b5 t hl
 have h2 : p.tasks.getD t bl = p.tasks[t] := by rw [List.getD_eq_getElem?_getD, List.getElem?_eq_getElem hl]; rfl
 have h3 : p.kinds.getD t 0 = 6 := by rw [List.getD_eq_getElem?_getD, List.getElem?_eq_getElem ht, Option.getD_some]; exact hk
 rw [h2]
 unfold btB at h1
 rw [if_pos h3] at h1
 simp only [Bool.not_eq_false', Bool.and_eq_true] at h1
 exact ⟨h1.1.1.1.1, h1.1.1.1.2, h1.1.1.2, h1.1.2, h1.2⟩
theorem nf_bounds {p : PW} {f : Nat → Int} (h : nfB p f = true) : (0 ≤ f 9 ∧ f 9 ≤ 6) ∧ (0 ≤ f 10 ∧ f 10 ≤ 3) ∧ (0 ≤ f 18 ∧ f 18 ≤ (p.cores.length : Int) - 1) ∧ (0 ≤ f 19 ∧ f 19 ≤ 3) := by
 unfold nfB within at h
 simp only [Bool.and_eq_true, decide_eq_true_eq] at h
 exact ⟨h.1.1.1.2, h.1.1.2, h.1.2, h.2⟩
theorem cn_none {x : Int} : ∀ {zs : List Int}, cn x zs = 0 → ∀ z ∈ zs, z ≠ x
 | [], _, _, h => by cases h
 | y :: l, h0, z, h => by
  unfold cn sumOf at h0
  simp only [List.map_cons, List.sum_cons] at h0
  rcases List.mem_cons.1 h with rfl | h
  ·intro e
   unfold one at h0
   rw [if_pos e] at h0
   omega
  ·exact cn_none (zs := l) (by unfold cn sumOf; omega) z h
theorem gone_self {x : Int} {zs : List Int} (h : cn x zs = 0) : goneP (fun y => y == x) zs = zs := by
 unfold goneP
 rw [List.filter_eq_self]
 intro a ha
 simpa using cn_none h a ha
theorem lvs_self {x : Int} : ∀ {ls : List (List Int)}, cna x ls = 0 → lvs x ls = ls
 | [], _ => rfl
 | l :: r, h => by
  unfold cna sumOf at h
  simp only [List.map_cons, List.sum_cons] at h
  have h1 : lvs x r = r := lvs_self (by unfold cna sumOf; omega)
  unfold lvs at h1 ⊢
  rw [List.map_cons, h1, gone_self (by omega)]
theorem noT_self {x : Int} {zs : List Int} (h : cn x zs = 0) : zs.map (noT x) = zs := by
 have : ∀ z ∈ zs, noT x z = z := fun z hz => if_neg (cn_none h z hz)
 exact (List.map_congr_left this).trans (List.map_id' zs)
/-- The number of the Ready of a task. -/
def rdN (p : PW) (t : Nat) : Nat := (p.tasks.getD t bl 18 * 4 + p.tasks.getD t bl 10).toNat
theorem rdN_eq {p : PW} (h : Snd p) {t : Nat} (ht : t < p.kinds.length) (hk : p.kinds[t] = 6) : rdN p t < p.ready.length ∧ p.tasks.getD t bl 18 * 4 + p.tasks.getD t bl 10 = (rdN p t : Int) ∧ (0 ≤ p.tasks.getD t bl 18 ∧ p.tasks.getD t bl 18 ≤ 1000) ∧ (0 ≤ p.tasks.getD t bl 10 ∧ p.tasks.getD t bl 10 ≤ 1000) := by
 obtain ⟨h1, h2, h3, _⟩ := nf_bounds (snd_task h ht hk).1
 have h4 := h.lf.c2
 unfold rdN
 rw [h.lf.ready]
 omega
theorem task_at (p : PW) (t k j : Nat) (x : Int) (ht : t < p.tasks.length) (hj : j ≠ k) : (p.task t k x).tasks.getD t bl j = p.tasks.getD t bl j := by rw [task_getD p t k j x ht, if_neg hj]
set_option maxRecDepth 100000 in
theorem thing_any (vb : Nat) (V : Nat → Value) (p : PW) (f k : Int) (w : World) (hv : ViewAt w vb V p) :
  Calls Tryz.prog 36 #[.pointer (some ⟨vb, 0, none⟩), .int .i64 f, .int .i64 k] w fun r w' => r = .returned (eV (thE p f k)) ∧ w = w' := by
 have HF := hid (pisFrame_any vb V p f w hv)
 have HI := hid (pis_any vb V p f k w hv)
 clear hv
 cases h1 : frB p f with
 | false =>
  have HE := hid (show thE p f k = 2 by unfold thE; rw [h1]; rfl)
  rw [h1] at HF
  clear h1
  go_enter Tryz.func36, Tryz.ntmps36
  go_wp2_with fail
  refine HF.out.mono ?_
  rintro r w1 ⟨rfl, rfl⟩
  go_wp2_with fail
  go_ret
  exact ⟨by rw [HE.out]; rfl, rfl⟩
 | true =>
 rw [h1] at HF
 cases h2 : isB p f k with
 | false =>
  have HE := hid (show thE p f k = 3 by unfold thE; rw [h1, h2]; rfl)
  rw [h2] at HI
  clear h1 h2
  go_enter Tryz.func36, Tryz.ntmps36
  go_wp2_with fail
  refine HF.out.mono ?_
  rintro r w1 ⟨rfl, rfl⟩
  go_wp2_with fail
  refine HI.out.mono ?_
  rintro r w1 ⟨rfl, rfl⟩
  go_wp2_with fail
  go_ret
  exact ⟨by rw [HE.out]; rfl, rfl⟩
 | true =>
  have HE := hid (show thE p f k = 0 by unfold thE; rw [h1, h2]; rfl)
  rw [h2] at HI
  clear h1 h2
  go_enter Tryz.func36, Tryz.ntmps36
  go_wp2_with fail
  refine HF.out.mono ?_
  rintro r w1 ⟨rfl, rfl⟩
  go_wp2_with fail
  refine HI.out.mono ?_
  rintro r w1 ⟨rfl, rfl⟩
  go_wp2_with fail
  go_ret
  exact ⟨by rw [HE.out]; rfl, rfl⟩
set_option maxRecDepth 100000 in
set_option maxHeartbeats 2000000 in
theorem indexOf_any (x : Value) (zs : List Int) (n : Int) (w : World) (hx : IntsIn w x zs) (hl : zs.length ≤ 1000) :
  Calls Tryz.prog 99 #[x, .int .i64 n] w fun r w' => ∃ i : Int, r = .returned (.int .i64 i) ∧ (decide (0 ≤ i) = inB n zs) ∧ w = w' := by
 obtain ⟨q, b, off, cap, rfl, hq, hz⟩ := hx
 have hl2 : (zs.length : Int) ≤ 1000 := by omega
 have HQ := hid hq
 have HZ := hid hz
 clear hq hz
 go_enter Tryz.func99, Tryz.ntmps99
 go_wp2_with fail
 go_loopw [8] (fun i wr => ∃ k : Nat, k ≤ zs.length ∧ i = .int .i64 k ∧ Hid (sumOf (one n) (zs.take k) = 0) ∧ Hid (w = wr)) (fun i _ => zs.length - (intOf i).toNat)
 case atStart => exact ⟨0, by omega, rfl, hid rfl, hid rfl⟩
 case round =>
  obtain ⟨k, hk, rfl, HS, HW⟩ := hrel
  obtain rfl := HW.out
  clear HW
  by_cases hlt : k < zs.length
  ·have hlt2 : (k : Int) < (zs.length : Int) := by omega
   have hqe := HQ.out (by omega)
   subst hqe
   have ck := HZ.out k hlt
   have HN := hid (sum_next (one n) hlt)
   rw [HS.out] at HN
   obtain ⟨y, hy⟩ : ∃ y, zs[k] = y := ⟨_, rfl⟩
   rw [hy] at ck HN
   have HY := hid hy
   clear hy
   by_cases hyn : y = n
   ·have HI := hid (show inB n zs = true by
     unfold inB cn
     apply decide_eq_true
     have h1 := HN.out
     unfold one at h1
     rw [if_pos hyn] at h1
     have h2 := sum_app (one n) (zs.take (k + 1)) (zs.drop (k + 1))
     rw [List.take_append_drop] at h2
     unfold one at h2 ⊢
     omega)
    subst hyn
    go_wp2_with fail
    go_ret
    exact ⟨_, rfl, by rw [HI.out]; simp, rfl⟩
   ·have HN2 := hid (show sumOf (one n) (zs.take (k + 1)) = 0 by
     rw [HN.out]
     unfold one
     rw [if_neg hyn])
    have hnb : (n == y) = false := by simpa using fun e => hyn e.symm
    clear hyn
    go_wp2_with fail
    exact ⟨⟨k + 1, by omega, by go_num, HN2, hid trivial⟩, by simp [intOf]; omega⟩
  ·obtain rfl : k = zs.length := by omega
   have hge : ¬ ((zs.length : Int) < (zs.length : Int)) := by omega
   have HI := hid (show inB n zs = false by
    unfold inB cn
    apply decide_eq_false
    have h1 := HS.out
    rw [List.take_length] at h1
    omega)
   go_wp2_with fail
   go_ret
   exact ⟨_, rfl, by rw [HI.out]; rfl, rfl⟩
theorem contains_any (x : Value) (zs : List Int) (n : Int) (w : World) (hx : IntsIn w x zs) (hl : zs.length ≤ 1000) :
  Calls Tryz.prog 60 #[x, .int .i64 n] w fun r w' => r = .returned (.bool (inB n zs)) ∧ w = w' := by
 have HX := hid (indexOf_any x zs n w hx hl)
 generalize inB n zs = bb at HX ⊢
 clear hx
 go_enter Tryz.func60, Tryz.ntmps60
 go_wp2_with fail
 refine HX.out.mono ?_
 rintro r w1 ⟨i, rfl, hi, rfl⟩
 have HI := hid hi
 clear hi
 go_wp2_with fail
 go_ret
 exact ⟨by rw [← HI.out]; rfl, rfl⟩
end Go.Proofs.YtakmaeohhclngaaGreatDoor.Wd
namespace Go.Proofs.YtakmaeohhclngaaGreatDoor.Wd
open Go.RowKit Go.Proofs.YtakmaeohhclngaaGreatDoor.Mem Go.Proofs.YtakmaeohhclngaaGreatDoor.Bw Go.Proofs.YtakmaeohhclngaaGreatDoor.Nums Go.Proofs.YtakmaeohhclngaaGreatDoor.Mmu
/-- Starting. -/
def srE (p : PW) (a : Int) : Int := if thE p a 6 = 0 then (if p.tasks.getD a.toNat bl 9 = 0 then 0 else 7) else thE p a 6
def srP (p : PW) (a : Int) : PW := wnP p a.toNat (rdN p a.toNat)
set_option maxRecDepth 100000 in
theorem taskMay_ref (vb : Nat) (V : Nat → Value) (p : PW) (f : Int) (w : World) (hv : ViewAt w vb V p) :
  Calls Tryz.prog 49 #[.pointer (some ⟨vb, 0, none⟩), .int .i64 f] w fun r w' => r = .returned (.int .i64 (thE p f 6)) ∧ w = w' := by
 have c1 : w.cell? ⟨vb, 1, none⟩ = some (V 1) := range_cell hv.r rfl
 obtain ⟨q, b, off, cap, e1, hq, hz⟩ := hv.v.kinds
 have hl : (p.kinds.length : Int) ≤ 1000 := by have := hv.f.kinds; omega
 cases h1 : frB p f with
 | false =>
  have HE := hid (show thE p f 6 = 2 by unfold thE; rw [h1]; rfl)
  have hn := of_decide_eq_false h1
  clear h1 hz hq hv
  by_cases h0 : f < 0
  ·clear hn
   go_enter Tryz.func49, Tryz.ntmps49
   go_wp2_with fail
   go_ret
   exact ⟨by rw [HE.out]; rfl, rfl⟩
  ·have h2 : (p.kinds.length : Int) ≤ f := by omega
   clear hn
   go_enter Tryz.func49, Tryz.ntmps49
   go_wp2_with fail
   go_ret
   exact ⟨by rw [HE.out]; rfl, rfl⟩
 | true =>
  have h3 := of_decide_eq_true h1
  obtain ⟨j, rfl⟩ : ∃ j : Nat, f = j := ⟨f.toNat, by omega⟩
  have hj : j < p.kinds.length := by omega
  have hj2 : (j : Int) < (p.kinds.length : Int) := by omega
  have n0 : ¬ ((j : Int) < 0) := by omega
  have n1 : ¬ ((p.kinds.length : Int) ≤ (j : Int)) := by omega
  obtain rfl := hq (by omega)
  have cj := hz j hj
  have HB := hid (show thE p j 6 = if p.kinds[j] = 6 then 0 else 3 by
   unfold thE isB
   rw [h1, if_pos rfl, kindAt_some hj]
   by_cases h6 : p.kinds[j] = 6
   ·rw [if_pos h6, h6]; rfl
   ·rw [if_neg h6, if_neg (by simpa using h6)])
  generalize p.kinds[j] = z at cj HB
  clear h1 h3 hz hq hv
  by_cases h6 : z = 6
  ·subst h6
   have HE := hid (show thE p j 6 = 0 by rw [HB.out]; rfl)
   go_enter Tryz.func49, Tryz.ntmps49
   go_wp2_with fail
   go_ret
   exact ⟨by rw [HE.out]; rfl, rfl⟩
  ·have HE := hid (show thE p j 6 = 3 by rw [HB.out, if_neg h6])
   have h6b : (z != 6) = true := by simpa using h6
   clear h6
   go_enter Tryz.func49, Tryz.ntmps49
   go_wp2_with fail
   go_ret
   exact ⟨by rw [HE.out]; rfl, rfl⟩
end Go.Proofs.YtakmaeohhclngaaGreatDoor.Wd
namespace Go.Proofs.YtakmaeohhclngaaGreatDoor.Wd
open Go.RowKit Go.Proofs.YtakmaeohhclngaaGreatDoor.Mem Go.Proofs.YtakmaeohhclngaaGreatDoor.Bw Go.Proofs.YtakmaeohhclngaaGreatDoor.Nums Go.Proofs.YtakmaeohhclngaaGreatDoor.Mmu
set_option maxRecDepth 100000 in
set_option maxHeartbeats 8000000 in
theorem started_ref (a : Int) (p : PW) (hp : p.Fits) (hl : ∀ l ∈ p.tlbs, l.length ≤ 100) (hs : Snd p) (W : World) (wb : Nat) (tag : Nat → Nat) (V : Nat → Value) (bt : BoxT W wb tag V p) :
  Calls Tryz.prog 18 #[.pointer (some ⟨wb, 0, none⟩), .int .i64 a] W fun x W' => x = .returned (.int .i64 (srE p a)) ∧ ∃ tag', Kt tag tag' W W' ∧ (srE p a = 0 → ∃ V', BoxT W' wb tag' V' (srP p a)) := by
 have HM := hid (taskMay_ref wb V p a W (bt.view hp hl))
 by_cases h0 : thE p a 6 = 0
 rotate_left
 ·have HE := hid (show srE p a = thE p a 6 from if_neg h0)
  have h0b : (thE p a 6 != 0) = true := by simpa using h0
  rw [HE.out]
  have HN := hid h0
  generalize thE p a 6 = x at HM h0b HN ⊢
  clear h0 bt HE
  go_enter Tryz.func18, Tryz.ntmps18
  go_wp2_with fail
  refine HM.out.mono ?_
  rintro q w1 ⟨rfl, rfl⟩
  go_wp2_with fail
  go_ret
  exact ⟨rfl, tag, Kt.refl _ _, fun h => absurd h HN.out⟩
 obtain ⟨t, ht, rfl, hk⟩ := thE_in h0
 rw [h0] at HM
 have htl : t < p.tasks.length := by rw [hs.lf.tasks]; exact ht
 obtain ⟨g3, cap3, e3⟩ := bt.o.tasks.form (by omega)
 have c3 : W.cell? ⟨wb, 3, none⟩ = some (.slice (some ⟨g3, 0, none⟩) p.tasks.length cap3) := by rw [range_cell bt.r (k := 3) rfl, e3]
 have x9 := bt.taskAt e3 htl (show 9 < 20 by omega)
 have ht2 : (t : Int) < (p.tasks.length : Int) := by omega
 have hl3 : (p.tasks.length : Int) ≤ 1000 := by have := hp.tasks; omega
 obtain ⟨r1, r2, r3, r4⟩ := rdN_eq hs ht hk
 have HW := hid (woken_ref wb tag V p t (rdN p t) W bt hp htl r1 r3 r4 r2)
 have HE0 := hid (show srE p t = if p.tasks.getD t bl 9 = 0 then 0 else 7 by unfold srE; rw [if_pos h0, Int.toNat_natCast])
 have HPP := hid (show srP p t = wnP p t (rdN p t) by unfold srP; rw [Int.toNat_natCast])
 generalize p.tasks.getD t bl 9 = y at x9 HE0
 clear bt hp hs hk hl e3 r1 r2 r3 r4 htl h0
 by_cases h9 : y = 0
 ·have HE := hid (HE0.out.trans (if_pos h9))
  subst h9
  rw [HE.out]
  go_enter Tryz.func18, Tryz.ntmps18
  go_wp2_with fail
  refine HM.out.mono ?_
  rintro q w1 ⟨rfl, rfl⟩
  go_wp2_with fail
  refine HW.out.mono ?_
  rintro q w2 ⟨rfl, tag', h1, h2⟩
  have H1 := hid h1
  have H2 := hid h2
  clear h1 h2
  go_wp2_with fail
  go_ret
  exact ⟨rfl, tag', H2.out, fun _ => ⟨V, by rw [HPP.out]; exact H1.out⟩⟩
 ·have HE := hid (HE0.out.trans (if_neg h9))
  have h9b : (y != 0) = true := by simpa using h9
  rw [HE.out]
  clear h9 HW
  go_enter Tryz.func18, Tryz.ntmps18
  go_wp2_with fail
  refine HM.out.mono ?_
  rintro q w1 ⟨rfl, rfl⟩
  go_wp2_with fail
  go_ret
  exact ⟨rfl, tag, Kt.refl _ _, fun h => by cases h⟩
end Go.Proofs.YtakmaeohhclngaaGreatDoor.Wd
namespace Go.Proofs.YtakmaeohhclngaaGreatDoor.Wd
open Go.RowKit Go.Proofs.YtakmaeohhclngaaGreatDoor.Mem Go.Proofs.YtakmaeohhclngaaGreatDoor.Bw Go.Proofs.YtakmaeohhclngaaGreatDoor.Nums Go.Proofs.YtakmaeohhclngaaGreatDoor.Mmu Go.Proofs.YtakmaeohhclngaaGreatDoor.Hex Go.Proofs.YtakmaeohhclngaaGreatDoor.Mad
/-- All looks but the first one, which asks each word. -/
def sndR (p : PW) : Bool := (lfB p && within 0 1000000 p.time) && (firstOf ((looks p).drop 1)).1 == 0
theorem snd_ram {p : PW} (h1 : ∀ x ∈ p.ram, 0 ≤ x ∧ x ≤ 65535) (h2 : sndR p = true) : sndB p = true := by
 unfold sndR at h2
 rw [Bool.and_eq_true] at h2
 unfold sndB wmA
 rw [h2.1, if_pos rfl]
 have e : lk (fun _ x => nwB x) p.ram = none := lk_none (fun k hk => by
  have := h1 _ (List.getElem_mem hk)
  unfold nwB wB
  simpa using this)
 have e2 : looks p = (1, lk (fun _ x => nwB x) p.ram) :: (looks p).drop 1 := rfl
 rw [e2, e]
 exact h2.2
/-- The words of 'one' with thirty-two letters in frames 4 and 5. -/
def ramL (L : Nat → Int) : List Int := (oneQ.ram.take 64 ++ (List.range 32).map L) ++ oneQ.ram.drop 96
def p0 (L : Nat → Int) : PW := { oneQ with ram := ramL L }
def letters (zs : List (Int × Int × Int × Int)) (i : Nat) : Int := if i % 2 = 0 then q0 (zs.getD (i / 2) (0, 0, 0, 0)) else q1 (zs.getD (i / 2) (0, 0, 0, 0))
theorem code_letters (zs : List (Int × Int × Int × Int)) : cdN oneQ.ram 64 zs 16 = ramL (letters zs) := by kernel_rfl
theorem ramL_in {L : Nat → Int} (h : ∀ i, i < 32 → 0 ≤ L i ∧ L i ≤ 65535) : ∀ x ∈ ramL L, 0 ≤ x ∧ x ≤ 65535 := by
 have hc : oneQ.ram.all (fun x => decide (0 ≤ x) && decide (x ≤ 65535)) = true := by kernel_rfl
 rw [List.all_eq_true] at hc
 intro x hx
 unfold ramL at hx
 rw [List.mem_append, List.mem_append] at hx
 rcases hx with (hx | hx) | hx
 ·have := hc x (List.mem_of_mem_take hx); simpa using this
 ·obtain ⟨i, hi, rfl⟩ := List.mem_map.1 hx
  exact h i (List.mem_range.1 hi)
 ·have := hc x (List.mem_of_mem_drop hx); simpa using this
theorem p0_snd (L : Nat → Int) (h : ∀ i, i < 32 → 0 ≤ L i ∧ L i ≤ 65535) : sndB (p0 L) = true := snd_ram (ramL_in h) (by kernel_rfl)
/-- .. and its tasks begun. -/
def p1 (L : Nat → Int) : PW := srP (p0 L) 8
def p2 (L : Nat → Int) : PW := srP (p1 L) 9
theorem p0_fit (L : Nat → Int) : fitB (p0 L) = true := by kernel_rfl
theorem p1_fit (L : Nat → Int) : fitB (p1 L) = true := by kernel_rfl
theorem p2_fit (L : Nat → Int) : fitB (p2 L) = true := by kernel_rfl
theorem p0_go (L : Nat → Int) : srE (p0 L) 8 = 0 := by kernel_rfl
theorem p1_go (L : Nat → Int) : srE (p1 L) 9 = 0 := by kernel_rfl
theorem p1_snd (L : Nat → Int) (h : ∀ i, i < 32 → 0 ≤ L i ∧ L i ≤ 65535) : sndB (p1 L) = true := snd_ram (ramL_in h) (by kernel_rfl)
theorem p2_snd (L : Nat → Int) (h : ∀ i, i < 32 → 0 ≤ L i ∧ L i ≤ 65535) : sndB (p2 L) = true := snd_ram (ramL_in h) (by kernel_rfl)
theorem letters_in {zs : List (Int × Int × Int × Int)} (hz : zs.length = 16) (hg : ∀ q ∈ zs, GoodQ q) : ∀ i, i < 32 → 0 ≤ letters zs i ∧ letters zs i ≤ 65535 := fun i hi => by
 have hk : i / 2 < zs.length := by omega
 have := q_range (hg zs[i / 2] (List.getElem_mem hk))
 unfold letters
 rw [List.getD_eq_getElem?_getD, List.getElem?_eq_getElem hk]
 simp only [Option.getD_some]
 split
 ·exact this.1
 ·exact this.2
end Go.Proofs.YtakmaeohhclngaaGreatDoor.Wd
namespace Go.Proofs.YtakmaeohhclngaaGreatDoor.Wd
open Go.RowKit Go.Proofs.YtakmaeohhclngaaGreatDoor.Mem Go.Proofs.YtakmaeohhclngaaGreatDoor.Bw Go.Proofs.YtakmaeohhclngaaGreatDoor.Nums Go.Proofs.YtakmaeohhclngaaGreatDoor.Mmu Go.Proofs.YtakmaeohhclngaaGreatDoor.Hex Go.Proofs.YtakmaeohhclngaaGreatDoor.Mad
theorem readOne (w : World) (hk : KnW w) : Calls Tryz.prog 15 #[.string oneB] w fun r w' => ∃ X tag, r = .returned (.tuple #[.agg (arr11 X), .agg #[.int .i64 0, .int .i64 (-1)]]) ∧ WorldT w' tag X oneQ ∧ (∀ k, k < w.heap.size → tag k = 0) ∧ Below w.heap.size w w' := by
 have := readWorld_ref oneB _ 24 2 [0] w (of_decide_eq_true (by kernel_rfl)) one_reads hk
 rw [show worldsOf (Prs.linesB oneB) (wlP 24 2 [0]) (Prs.linesB oneB).length = oneQ from oneP_eq] at this
 exact this
/-- A world's values, behind what was made since. -/
theorem WorldT.up {w w' : World} {tag : Nat → Nat} {X : Nat → Value} {p : PW} (h : WorldT w tag X p) (hb : Below w.heap.size w w') : WorldT w' (tagC tag w.heap.size) X p := by
 have hk : Kp (fun _ => False) w w' := .of_below hb
 have ht : ∀ k, k < w.heap.size → tagC tag w.heap.size k = tag k := fun k h => tagC_lt h
 exact ⟨h.ram.kp hk ht (fun _ _ => id), h.kinds.kp hk ht (fun _ _ => id), h.slots.kp hk ht (fun _ _ => id), h.tasks.kp hk ht (fun _ _ => id), h.lines.kp hk ht (fun _ _ => id), h.bits.kp hk ht (fun _ _ => id), h.cores.kp hk ht (fun _ _ => id), h.ready.kp hk ht (fun _ _ => id), h.tlbs.kp hk ht (fun _ _ => id), h.doms.kp hk ht (fun _ _ => id), h.time⟩
set_option maxRecDepth 100000 in
set_option maxHeartbeats 16000000 in
theorem begun_ref (v : Value) (rs : List Int) (cl : Nat) (w : World) (hv : RawIn w v rs) (hrl : rs.length ≤ 256) (hc0 : 0 < (cl : Int)) (hcl : (cl : Int) ≤ 18) (hk : KnW w) :
  Calls Tryz.prog 5 #[v, .int .i64 0, .int .i64 cl] w fun r w' => ∃ X tag L, r = .returned (.agg (arr11 X)) ∧ WorldT w' tag X (p2 L) ∧ (∀ i, i < 32 → 0 ≤ L i ∧ L i ≤ 65535) ∧ (∀ k, k < w.heap.size → tag k = 0) ∧ Below w.heap.size w w' := by
 have B0 := hid (bal (Below.refl w.heap.size w) (.cells #[.slice none 0 0, .slice none 0 0, .slice none 0 0, .slice none 0 0, .slice none 0 0, .slice none 0 0, .slice none 0 0, .slice none 0 0, .slice none 0 0, .slice none 0 0, .int .i64 0] 28))
 have T0 := hid (there_new w #[.slice none 0 0, .slice none 0 0, .slice none 0 0, .slice none 0 0, .slice none 0 0, .slice none 0 0, .slice none 0 0, .slice none 0 0, .slice none 0 0, .slice none 0 0, .int .i64 0] 28 w.heap.size 11 rfl (by decide))
 have HV := hid hv
 have HK := hid hk
 have HR := hid hrl
 have PK := hid (fun W : World => show Calls Tryz.prog 6 #[.int .i64 0, .int .i64 2] W fun e w' => e = .returned (.int .i64 0) ∧ W = w' from pick_eq 0 2 W (by decide) (by decide) (by decide))
 clear hv hk hrl
 go_enter Tryz.func5, Tryz.ntmps5
 go_wp2_with fail
 refine (PK.out _).mono ?_
 rintro r w1 ⟨rfl, rfl⟩
 have SZ := hid (show w.heap.size + 1 = (w.alloc (.cells #[.slice none 0 0, .slice none 0 0, .slice none 0 0, .slice none 0 0, .slice none 0 0, .slice none 0 0, .slice none 0 0, .slice none 0 0, .slice none 0 0, .slice none 0 0, .int .i64 0] 28)).heap.size by simp)
 generalize w.alloc _ = w1 at *
 go_wp2_with fail
 refine (readOne w1 (HK.out.below B0.out)).mono ?_
 rintro r w3 ⟨X, tag, rfl, hw, htz, hb⟩
 have B3 := hid (btr B0.out hb)
 have BW := hid B0.out
 have TZ := hid htz
 have TBX := hid T0.out
 have S3 := hid (show w.heap.size + 1 ≤ w3.heap.size by have := SZ.out; have := hb.size; omega)
 have HW := hid hw
 have HB := hid hb
 have SA := hid SZ.out
 clear hw htz hb T0 B0 SZ
 have T7 := hid (there_belowO (there_new w3 #[.slice none 0 0, .slice none 0 0, .slice none 0 0, .slice none 0 0, .slice none 0 0, .slice none 0 0, .slice none 0 0, .slice none 0 0, .slice none 0 0, .slice none 0 0, .int .i64 0] 28 w3.heap.size 11 rfl (by decide)) (bal (Below.refl _ _) (.cells #[.int .i64 0, .int .i64 0] 48)))
 have T8 := hid (there_new (w3.alloc (.cells #[.slice none 0 0, .slice none 0 0, .slice none 0 0, .slice none 0 0, .slice none 0 0, .slice none 0 0, .slice none 0 0, .slice none 0 0, .slice none 0 0, .slice none 0 0, .int .i64 0] 28)) #[.int .i64 0, .int .i64 0] 48 (w3.heap.size + 1) 2 (by simp) (by decide))
 have B4 := hid (show Below w3.heap.size w3 ((w3.alloc (.cells #[.slice none 0 0, .slice none 0 0, .slice none 0 0, .slice none 0 0, .slice none 0 0, .slice none 0 0, .slice none 0 0, .slice none 0 0, .slice none 0 0, .slice none 0 0, .int .i64 0] 28)).alloc (.cells #[.int .i64 0, .int .i64 0] 48)) from bal (bal (Below.refl _ _) _) _)
 have O7 := hid HW.out.ones
 go_upto_region 3 with (first | ((with_reducible (show wpList _ _ _ (⟨_, Op.store 28 _ _, _, _, _, _⟩ :: _) _ _)); refine wpList_store_mid rfl 28 _ _ rfl w3.heap.size 0 (arr11 X) rfl rfl T7.out infoW O7.out ?_) | ((with_reducible (show wpList _ _ _ (⟨_, Op.store 48 _ _, _, _, _, _⟩ :: _) _ _)); refine wpList_store_mid rfl 48 _ _ rfl (w3.heap.size + 1) 0 #[.int .i64 0, .int .i64 (-1)] rfl rfl (World.there_setCells T8.out _ _ _) infoBadx bOnex ?_))
 have WU := hid (HW.out.up B4.out)
 have WB := hid (show BoxT (((w3.alloc (.cells #[.slice none 0 0, .slice none 0 0, .slice none 0 0, .slice none 0 0, .slice none 0 0, .slice none 0 0, .slice none 0 0, .slice none 0 0, .slice none 0 0, .slice none 0 0, .int .i64 0] 28)).alloc (.cells #[.int .i64 0, .int .i64 0] 48)).setCells w3.heap.size 0 [X 0, X 1, X 2, X 3, X 4, X 5, X 6, X 7, X 8, X 9, X 10]) w3.heap.size (fun k => if k = w3.heap.size then 1 else tagC tag w3.heap.size k) X oneQ from WU.out.box (tagC_ge (Nat.le_refl _)) T7.out)
 have K5 : Kp (fun k => k = w3.heap.size) ((w3.alloc (.cells #[.slice none 0 0, .slice none 0 0, .slice none 0 0, .slice none 0 0, .slice none 0 0, .slice none 0 0, .slice none 0 0, .slice none 0 0, .slice none 0 0, .slice none 0 0, .int .i64 0] 28)).alloc (.cells #[.int .i64 0, .int .i64 0] 48)) (((w3.alloc (.cells #[.slice none 0 0, .slice none 0 0, .slice none 0 0, .slice none 0 0, .slice none 0 0, .slice none 0 0, .slice none 0 0, .slice none 0 0, .slice none 0 0, .slice none 0 0, .int .i64 0] 28)).alloc (.cells #[.int .i64 0, .int .i64 0] 48)).setCells w3.heap.size 0 [X 0, X 1, X 2, X 3, X 4, X 5, X 6, X 7, X 8, X 9, X 10]) := Kp.setCells (T := fun k => k = w3.heap.size) (.inl rfl) _ _ _ (Kp.refl _ _)
 have K6 : Kp (fun k => k = w3.heap.size + 1) (((w3.alloc (.cells #[.slice none 0 0, .slice none 0 0, .slice none 0 0, .slice none 0 0, .slice none 0 0, .slice none 0 0, .slice none 0 0, .slice none 0 0, .slice none 0 0, .slice none 0 0, .int .i64 0] 28)).alloc (.cells #[.int .i64 0, .int .i64 0] 48)).setCells w3.heap.size 0 [X 0, X 1, X 2, X 3, X 4, X 5, X 6, X 7, X 8, X 9, X 10]) ((((w3.alloc (.cells #[.slice none 0 0, .slice none 0 0, .slice none 0 0, .slice none 0 0, .slice none 0 0, .slice none 0 0, .slice none 0 0, .slice none 0 0, .slice none 0 0, .slice none 0 0, .int .i64 0] 28)).alloc (.cells #[.int .i64 0, .int .i64 0] 48)).setCells w3.heap.size 0 [X 0, X 1, X 2, X 3, X 4, X 5, X 6, X 7, X 8, X 9, X 10]).setCells (w3.heap.size + 1) 0 [.int .i64 0, .int .i64 (-1)]) := Kp.setCells (T := fun k => k = w3.heap.size + 1) (.inl rfl) _ _ _ (Kp.refl _ _)
 have OW := hid (show Own w1 ((((w3.alloc (.cells #[.slice none 0 0, .slice none 0 0, .slice none 0 0, .slice none 0 0, .slice none 0 0, .slice none 0 0, .slice none 0 0, .slice none 0 0, .slice none 0 0, .slice none 0 0, .int .i64 0] 28)).alloc (.cells #[.int .i64 0, .int .i64 0] 48)).setCells w3.heap.size 0 [X 0, X 1, X 2, X 3, X 4, X 5, X 6, X 7, X 8, X 9, X 10]).setCells (w3.heap.size + 1) 0 [.int .i64 0, .int .i64 (-1)]) w3.heap.size (fun k => if k = w3.heap.size then 1 else tagC tag w3.heap.size k) X oneQ from
  ⟨WB.out.kp K6 (fun k _ e => by rw [e, if_neg (by omega)]; exact tagC_ge (by omega)) (fun _ _ => rfl),
   fun k hk => by have := HB.out.size; rw [if_neg (by omega), tagC_lt (by omega)]; exact TZ.out k hk,
   K6.below (K5.below (btr HB.out B4.out) (btr HB.out B4.out).size (fun k hk e => by have := HB.out.size; omega)) (Nat.le_trans (btr HB.out B4.out).size K5.size) (fun k hk e => by have := HB.out.size; omega)⟩)
 clear K5 K6 WB WU T7 T8 B4 O7 HW
 generalize World.setCells (World.setCells _ _ _ _) _ _ _ = w6 at OW ⊢
 generalize w3.heap.size = wb at *
 generalize (fun k => if k = wb then 1 else tagC tag wb k) = tg0 at OW
 obtain ⟨bt6, kt6⟩ := retagC OW.out.b
 have O6 := hid (OW.out.to bt6 kt6)
 have TN := hid (fun x (h : w6.heap.size ≤ x) => tagC_ge (tag := tg0) h)
 clear bt6 kt6 OW
 generalize tagC tg0 w6.heap.size = tg at *
 have CF := hid (codeFrom_any v rs 0 w6 (HV.out.below (btr BW.out O6.out.e)) HR.out (by omega) cl hc0 hcl)
 go_wp2_with fail
 refine CF.out.mono ?_
 rintro r w7 ⟨lb, lcap, zs, rfl, hz, hg, hI, hlb, hb7⟩
 have O7 := hid (O6.out.next hb7)
 have HL := hid (letters_in hz hg)
 have CD := hid (code_ref wb tg X oneQ 4 lb lcap zs w7 O7.out.b (fit_of (p := oneQ) (by kernel_rfl)).1 hI (TN.out lb hlb) (by omega) hg (by rw [hz]; exact of_decide_eq_true (by kernel_rfl)) (of_decide_eq_true (by kernel_rfl)))
 rw [hz, show cdN oneQ.ram (4 * 16) zs 16 = ramL (letters zs) from code_letters zs] at CD
 rw [hz]
 clear hI hg hlb hb7 CF O6 TN hz
 generalize letters zs = L at HL CD
 go_wp2_with fail
 refine CD.out.mono ?_
 rintro r w8 ⟨rfl, tg8, hb8, hk8⟩
 have O8 := hid (show Own w1 w8 wb tg8 X (p0 L) from O7.out.to hb8 hk8)
 have S8 := hid (started_ref 8 (p0 L) (fit_of (p0_fit L)).1 (fit_of (p0_fit L)).2 (snd_of (p0_snd L HL.out)) w8 wb tg8 X O8.out.b)
 rw [p0_go] at S8
 clear hb8 hk8 CD O7
 go_wp2_with fail
 refine S8.out.mono ?_
 rintro r w9 ⟨rfl, tg9, hk9, h9⟩
 obtain ⟨X9, hb9⟩ := h9 trivial
 have O9 := hid (show Own w1 w9 wb tg9 X9 (p1 L) from O8.out.to hb9 hk9)
 have S9 := hid (started_ref 9 (p1 L) (fit_of (p1_fit L)).1 (fit_of (p1_fit L)).2 (snd_of (p1_snd L HL.out)) w9 wb tg9 X9 O9.out.b)
 rw [p1_go] at S9
 clear hk9 h9 hb9 S8 O8
 go_wp2_with fail
 refine S9.out.mono ?_
 rintro r w10 ⟨rfl, tg10, hk10, h10⟩
 obtain ⟨Y, hb10⟩ := h10 trivial
 have OA := hid (show Own w1 w10 wb tg10 Y (p2 L) from O9.out.to hb10 hk10)
 clear hk10 h10 hb10 S9 O9
 have LT := hid (show w.heap.size < w1.heap.size by have := SA.out; omega)
 have TB := hid (there_belowO TBX.out OA.out.e)
 have OO := hid OA.out.b.o.ones
 have KF := hid (show Kp (fun k => k = w.heap.size) w10 (w10.setCells w.heap.size 0 [Y 0, Y 1, Y 2, Y 3, Y 4, Y 5, Y 6, Y 7, Y 8, Y 9, Y 10]) from Kp.setCells (T := fun k => k = w.heap.size) (.inl rfl) _ _ _ (Kp.refl _ _))
 have RF := hid (show (w10.setCells w.heap.size 0 [Y 0, Y 1, Y 2, Y 3, Y 4, Y 5, Y 6, Y 7, Y 8, Y 9, Y 10]).rangeAt w.heap.size 0 (arr11 Y).toList from World.rangeAt_setCells_same w10 w.heap.size 0 (arr11 Y).toList TB.out)
 have BF := hid (OA.out.b.kp KF.out (fun k _ e => by rw [e]; exact OA.out.t _ LT.out) (fun _ _ => rfl))
 have BE := hid (show Below w.heap.size w (w10.setCells w.heap.size 0 [Y 0, Y 1, Y 2, Y 3, Y 4, Y 5, Y 6, Y 7, Y 8, Y 9, Y 10]) from KF.out.below (btr BW.out OA.out.e) (btr BW.out OA.out.e).size (fun k hk e => by omega))
 go_wp2_with (first | ((with_reducible (show wpList _ _ _ (⟨_, Op.load 28 _, _, _, _, _⟩ :: _) _ _)); refine wp_ldW rfl _ rfl wb rfl Y OA.out.b.r ?_) | ((with_reducible (show wpList _ _ _ (⟨_, Op.store 28 _ _, _, _, _, _⟩ :: _) _ _)); refine wpList_store_mid rfl 28 _ _ rfl w.heap.size 0 (arr11 Y) rfl rfl TB.out infoW OO.out ?_))
 have TG := hid OA.out.t
 clear KF TB OO OA
 generalize w10.setCells w.heap.size 0 [Y 0, Y 1, Y 2, Y 3, Y 4, Y 5, Y 6, Y 7, Y 8, Y 9, Y 10] = W9 at RF BF BE ⊢
 exact bodyPost_ret (v := .agg (arr11 Y)) (results_c1 rfl rfl (run_loadVar_mid _ w.heap.size 0 28 (arr11 Y).toList _ RF.out Tryz.underlying28 rfl infoW)) rfl ⟨Y, tg10, L, rfl, BF.out.o, HL.out, fun k hk => TG.out k (by have := LT.out; omega), BE.out⟩
end Go.Proofs.YtakmaeohhclngaaGreatDoor.Wd
