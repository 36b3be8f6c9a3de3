/- The rest of ScA: what few laws reach. -/
import Derived.Test.YtjjhodfekmpelaaGreatDoorGLvMore
import Derived.Test.YtjjhodfekmpelaaGreatDoorGRfM2
import Derived.Test.YtjjhodfekmpelaaGreatDoorScA
namespace Go.Proofs.YtjjhodfekmpelaaGreatDoor.Wd
open Go.RowKit Go.Proofs.YtjjhodfekmpelaaGreatDoor.Mem Go.Proofs.YtjjhodfekmpelaaGreatDoor.Bw Go.Proofs.YtjjhodfekmpelaaGreatDoor.Nums Go.Proofs.YtjjhodfekmpelaaGreatDoor.Mmu
theorem wk_wn (p : PW) (t n : Nat) (ht : t < p.tasks.length) (h4 : lvs t p.lines = p.lines) (h6 : p.cores.map (noT t) = p.cores) : wkP p t n = wnP { p with ready := lvs t p.ready } t n := by
 unfold wkP wnP lvP PW.task
 simp only
 rw [set_getD _ t _ _ ht, set_getD _ t _ _ ht, List.set_set, List.set_set, upd_comm _ 14 9 _ _ (by decide), h4, h6]
/-- Starting. -/
def srE (p : PW) (a : Int) : Int := if thE p a 6 = 0 then (if p.tasks.getD a.toNat bl 9 = 0 then 0 else 7) else thE p a 6
def srP (p : PW) (a : Int) : PW := wnP p a.toNat (rdN p a.toNat)
/-- Ranking. -/
def rkE (p : PW) (a b : Int) : Int := if thE p a 6 = 0 then (if within 0 3 b then 0 else 2) else thE p a 6
def rkP (p : PW) (a b : Int) : PW := if p.tasks.getD a.toNat bl 9 = 1 ∧ inB a p.cores = false then wkP (p.task a.toNat 10 b) a.toNat (rdN (p.task a.toNat 10 b) a.toNat) else p.task a.toNat 10 b
/-- A task that is still is nowhere. -/
theorem still_none {p : PW} (h : Snd p) {t : Nat} (ht : t < p.kinds.length) (hk : p.kinds[t] = 6) (h9 : p.tasks.getD t bl 9 = 0) : lvs t p.lines = p.lines ∧ lvs t p.ready = p.ready ∧ p.cores.map (noT t) = p.cores := by
 obtain ⟨_, _, _, hs, hr⟩ := snd_task h ht hk
 unfold srB at hs
 rw [h9, if_pos (by decide), Bool.and_eq_true] at hs
 unfold rrB at hr
 rw [h9, if_neg (by decide)] at hr
 have h1 : cna t p.lines = 0 := by have := hs.2; simpa using this
 have h2 : cn t p.cores + cna t p.ready = 0 := by
  have h3 := eq_of_beq hr
  omega
 exact ⟨lvs_self h1, lvs_self (by omega), noT_self (by omega)⟩
theorem start_eq {p : PW} (h : Snd p) {t : Nat} (ht : t < p.kinds.length) (hk : p.kinds[t] = 6) (h9 : p.tasks.getD t bl 9 = 0) (n : Nat) : wkP p t n = wnP p t n := by
 obtain ⟨h4, h7, h6⟩ := still_none h ht hk h9
 rw [wk_wn p t n (by rw [h.lf.tasks]; exact ht) h4 h6, h7]
/-- A task that may run and is on no core stands in a Ready, and in no line. -/
theorem ready_in {p : PW} (h : Snd p) {t : Nat} (ht : t < p.kinds.length) (hk : p.kinds[t] = 6) (h9 : p.tasks.getD t bl 9 = 1) (hc : inB t p.cores = false) : lvs t p.lines = p.lines ∧ cna t p.ready = 1 ∧ p.cores.map (noT t) = p.cores := by
 obtain ⟨_, _, _, hs, hr⟩ := snd_task h ht hk
 unfold srB at hs
 rw [h9, if_pos (by decide), Bool.and_eq_true] at hs
 unfold rrB at hr
 rw [h9, if_pos rfl] at hr
 have h0 : cn t p.cores = 0 := by
  unfold inB at hc
  have := of_decide_eq_false hc
  omega
 have h1 : cna t p.lines = 0 := by have := hs.2; simpa using this
 have h2 := eq_of_beq hr
 exact ⟨lvs_self h1, by omega, noT_self h0⟩
/-- Another one stands in no Ready. -/
theorem ready_out {p : PW} (h : Snd p) {t : Nat} (ht : t < p.kinds.length) (hk : p.kinds[t] = 6) (hn : ¬ (p.tasks.getD t bl 9 = 1 ∧ inB t p.cores = false)) : cna t p.ready = 0 := by
 obtain ⟨_, _, _, _, hr⟩ := snd_task h ht hk
 unfold rrB at hr
 by_cases h9 : p.tasks.getD t bl 9 = 1
 ·rw [h9, if_pos rfl] at hr
  have h2 := eq_of_beq hr
  have h3 : ¬ inB t p.cores = false := fun e => hn ⟨h9, e⟩
  unfold inB at h3
  simp only [decide_eq_false_iff_not, Classical.not_not] at h3
  omega
 ·rw [if_neg h9] at hr
  have h2 := eq_of_beq hr
  omega
/-- Ranking, by the document. -/
def rfP (p : PW) (t : Nat) (b : Int) : PW := if 0 < cna t p.ready then wnP (({ p with ready := lvs t p.ready } : PW).task t 10 b) t (rdN (p.task t 10 b) t) else ({ p with ready := lvs t p.ready } : PW).task t 10 b
theorem rank_eq {p : PW} (h : Snd p) {t : Nat} (ht : t < p.kinds.length) (hk : p.kinds[t] = 6) (b : Int) : rfP p t b = rkP p t b := by
 have hl : t < p.tasks.length := by rw [h.lf.tasks]; exact ht
 unfold rfP rkP
 rw [Int.toNat_natCast]
 by_cases hc : p.tasks.getD t bl 9 = 1 ∧ inB t p.cores = false
 ·obtain ⟨h4, h7, h6⟩ := ready_in h ht hk hc.1 hc.2
  rw [if_pos (by omega), if_pos hc, wk_wn (p.task t 10 b) t _ (by rw [PW.task_len]; exact hl) h4 h6]
  rfl
 ·rw [if_neg hc, if_neg (by rw [ready_out h ht hk hc]; omega), lvs_self (ready_out h ht hk hc)]
set_option maxRecDepth 100000 in
theorem taskMay_ref (vb : Nat) (V : Nat → Value) (p : PW) (f : Int) (w : World) (hv : ViewAt w vb V p) :
  Calls Tryz.prog 76 #[.pointer (some ⟨vb, 0, none⟩), .int .i64 f] w fun r w' => r = .returned (.int .i64 (thE p f 6)) ∧ w = w' := by
 have c1 : w.cell? ⟨vb, 1, none⟩ = some (V 1) := range_cell hv.r rfl
 obtain ⟨q, b, off, cap, e1, hq, hz⟩ := hv.v.kinds
 have hl : (p.kinds.length : Int) ≤ 1000 := by have := hv.f.kinds; omega
 cases h1 : frB p f with
 | false =>
  have HE := hid (show thE p f 6 = 2 by unfold thE; rw [h1]; rfl)
  have hn := of_decide_eq_false h1
  clear h1 hz hq hv
  by_cases h0 : f < 0
  ·clear hn
   go_enter Tryz.func76, Tryz.ntmps76
   go_wp2_with fail
   go_ret
   exact ⟨by rw [HE.out]; rfl, rfl⟩
  ·have h2 : (p.kinds.length : Int) ≤ f := by omega
   clear hn
   go_enter Tryz.func76, Tryz.ntmps76
   go_wp2_with fail
   go_ret
   exact ⟨by rw [HE.out]; rfl, rfl⟩
 | true =>
  have h3 := of_decide_eq_true h1
  obtain ⟨j, rfl⟩ : ∃ j : Nat, f = j := ⟨f.toNat, by omega⟩
  have hj : j < p.kinds.length := by omega
  have hj2 : (j : Int) < (p.kinds.length : Int) := by omega
  have n0 : ¬ ((j : Int) < 0) := by omega
  have n1 : ¬ ((p.kinds.length : Int) ≤ (j : Int)) := by omega
  obtain rfl := hq (by omega)
  have cj := hz j hj
  have HB := hid (show thE p j 6 = if p.kinds[j] = 6 then 0 else 3 by
   unfold thE isB
   rw [h1, if_pos rfl, kindAt_some hj]
   by_cases h6 : p.kinds[j] = 6
   ·rw [if_pos h6, h6]; rfl
   ·rw [if_neg h6, if_neg (by simpa using h6)])
  generalize p.kinds[j] = z at cj HB
  clear h1 h3 hz hq hv
  by_cases h6 : z = 6
  ·subst h6
   have HE := hid (show thE p j 6 = 0 by rw [HB.out]; rfl)
   go_enter Tryz.func76, Tryz.ntmps76
   go_wp2_with fail
   go_ret
   exact ⟨by rw [HE.out]; rfl, rfl⟩
  ·have HE := hid (show thE p j 6 = 3 by rw [HB.out, if_neg h6])
   have h6b : (z != 6) = true := by simpa using h6
   clear h6
   go_enter Tryz.func76, Tryz.ntmps76
   go_wp2_with fail
   go_ret
   exact ⟨by rw [HE.out]; rfl, rfl⟩
end Go.Proofs.YtjjhodfekmpelaaGreatDoor.Wd
