/- A text's lines as what they do, by computing: if all is well, keyholdref.ReadWorld reads them so. · The text 'one' of the statements is read: by computing. -/
import Derived.Test.YtakmaeohhclngaaGreatDoorQbd
namespace Go.Proofs.YtakmaeohhclngaaGreatDoor.Wd
open Go.RowKit Go.Proofs.YtakmaeohhclngaaGreatDoor.Mem Go.Proofs.YtakmaeohhclngaaGreatDoor.Bw Go.Proofs.YtakmaeohhclngaaGreatDoor.Nums Go.Proofs.YtakmaeohhclngaaGreatDoor.Mmu Go.Proofs.YtakmaeohhclngaaGreatDoor.Hex
/-- Its lists are not huge. -/
def fitB (p : PW) : Bool := decide (p.ram.length ≤ 1000) && (decide (p.kinds.length ≤ 1000) && (decide (p.slots.length ≤ 1000) && (decide (p.tasks.length ≤ 1000) && (decide (p.lines.length ≤ 1000) && (p.lines.all (fun l => decide (l.length ≤ 1000)) && (decide (p.bits.length ≤ 1000) && (decide (p.cores.length ≤ 1000) && (decide (p.ready.length ≤ 1000) && (p.ready.all (fun l => decide (l.length ≤ 1000)) && (decide (p.tlbs.length ≤ 1000) && (decide (p.doms.length ≤ 1000) && p.tlbs.all (fun l => decide (l.length ≤ 100)))))))))))))
theorem fit_of {p : PW} (h : fitB p = true) : p.Fits ∧ ∀ l ∈ p.tlbs, l.length ≤ 100 := by
 unfold fitB at h
 simp only [Bool.and_eq_true, decide_eq_true_eq, List.all_eq_true] at h
 obtain ⟨h1, h2, h3, h4, h5, h6, h7, h8, h9, h10, h11, h12, h13⟩ := h
 exact ⟨⟨h1, h2, h3, h4, h5, h6, h7, h8, h9, h10, h11, h12⟩, h13⟩
def same (a b : ByteArray) : Bool := a.data.toList == b.data.toList
theorem same_eq {a b : ByteArray} (h : same a b = true) : a = b := bytes_ext (by unfold same at h; simpa using h)
theorem same_ne {a b : ByteArray} (h : same a b = false) : a ≠ b := fun e => by subst e; unfold same at h; simp at h
/-- The numbers of some words. -/
def nat (t : ByteArray) : Nat := (Prs.decV t).toNat
def numN (t : ByteArray) : Bool := decide (0 ≤ Prs.decV t)
theorem numN_of {t : ByteArray} (h : numN t = true) : numOk t = true ∧ Prs.decV t = (nat t : Int) := by
 unfold numN at h
 have := of_decide_eq_true h
 refine ⟨?_, by unfold nat; omega⟩
 unfold numOk
 rw [Bool.or_eq_true]
 exact .inr h
def clC (p : PW) (s b n : Nat) : Bool := fitB p && (decide (p.slots.length = p.kinds.length * 16) && (decide (s < p.slots.length) && (decide (opE p s = 0) && (decide (1 ≤ n) && (decide (b + n ≤ p.kinds.length) && ((List.range n).all (fun d => p.kinds.getD (b + d) 0 == 0) && p.slots.all (fun s => s 0 != 1)))))))
theorem clC_ok {p : PW} {t1 t2 t3 : ByteArray} (h1 : numN t1 = true) (h2 : numN t2 = true) (h3 : numN t3 = true) (h : clC p (nat t1) (nat t2) (nat t3) = true) : BLine p { p with slots := p.slots.set (nat t1) (clk (nat t2) (nat t3)) } [⟨#[99, 108, 97, 121]⟩, t1, t2, t3] := by
 unfold clC at h
 simp only [Bool.and_eq_true, decide_eq_true_eq, List.all_eq_true, List.mem_range, beq_iff_eq, bne_iff_ne] at h
 obtain ⟨a1, a2, a3, a4, a5, a6, a7, a8⟩ := h
 obtain ⟨hp, hl⟩ := fit_of a1
 refine bClay hp hl (fun t ht => ?_) (by simp only [List.map_cons, List.map_nil, (numN_of h1).2, (numN_of h2).2, (numN_of h3).2]) a2 a3 a4 a5 a6 (fun f hf b1 b2 => ?_) (fun i hi => a8 _ (List.getElem_mem hi))
 ·simp only [List.mem_cons, List.not_mem_nil, or_false] at ht
  rcases ht with rfl | rfl | rfl
  ·exact (numN_of h1).1
  ·exact (numN_of h2).1
  ·exact (numN_of h3).1
 ·have := a7 (f - nat t2) (by omega)
  rw [show nat t2 + (f - nat t2) = f by omega, List.getD_eq_getElem?_getD, List.getElem?_eq_getElem hf] at this
  exact this
def mkC (p : PW) (kk : Nat) (xk : ByteArray) (n m t : Int) : Bool := fitB p && (sndB p && (decide (kk < knB.length) && (same (knB.getD kk ByteArray.empty) xk && ((List.range kk).all (fun j => !same (knB.getD j ByteArray.empty) xk) && decide (mkE p n (2 + (kk : Int)) m t = 0)))))
theorem mkC_ok {p : PW} {kk : Nat} {xk t1 t2 t3 : ByteArray} (h1 : numOk t1 = true) (h2 : numOk t2 = true) (h3 : numOk t3 = true) (h : mkC p kk xk (Prs.decV t1) (Prs.decV t2) (Prs.decV t3) = true) : BLine p (mkP p (Prs.decV t1) (2 + (kk : Int)) (Prs.decV t2) (Prs.decV t3)) [⟨#[109, 97, 107, 101]⟩, xk, t1, t2, t3] := by
 unfold mkC at h
 simp only [Bool.and_eq_true, decide_eq_true_eq, List.all_eq_true, List.mem_range, Bool.not_eq_true'] at h
 obtain ⟨a1, a2, a3, a4, a5, a6⟩ := h
 obtain ⟨hp, hl⟩ := fit_of a1
 refine bMake hp hl (snd_of a2) a3 ?_ (fun j hj hjk => ?_) (fun t ht => ?_) rfl a6
 ·have := same_eq a4
  rw [List.getD_eq_getElem?_getD, List.getElem?_eq_getElem a3] at this
  exact this
 ·have := same_ne (a5 j hjk)
  rw [List.getD_eq_getElem?_getD, List.getElem?_eq_getElem hj] at this
  exact this
 ·simp only [List.mem_cons, List.not_mem_nil, or_false] at ht
  rcases ht with rfl | rfl | rfl
  ·exact h1
  ·exact h2
  ·exact h3
def cpC (p : PW) (i j r g : Nat) (s : Nat → Int) : Bool := fitB p && (decide (p.slots.length = p.kinds.length * 16) && (decide (boE p i j = 0) && (decide (i < p.slots.length) && (decide (j < p.slots.length) && (decide (s 0 ≠ 1) && (decide (r ≤ 7) && (decide (g ≤ 65535) && ((decide (g = 0) || (decide (0 < g) && ((decide (s 0 = 7) || decide (s 0 = 8)) && decide (s 5 = 0)))) && (decide (0 ≤ s 4) && decide (s 4 ≤ 7))))))))))
theorem cpC_ok {p : PW} {t1 t2 t3 t4 : ByteArray} (h1 : numN t1 = true) (h2 : numN t2 = true) (h3 : numN t3 = true) (h4 : numN t4 = true) (h : cpC p (nat t1) (nat t2) (nat t3) (nat t4) (p.slots.getD (nat t1) nkey) = true) :
  BLine p { p with slots := p.slots.set (nat t2) (kpS (p.slots.getD (nat t1) nkey) (Bw.bw 6 ((p.slots.getD (nat t1) nkey) 4).toNat (nat t3) : Nat) (nat t4) (nat t1)) } [⟨#[99, 111, 112, 121]⟩, t1, t2, t3, t4] := by
 unfold cpC at h
 simp only [Bool.and_eq_true, Bool.or_eq_true, decide_eq_true_eq] at h
 obtain ⟨a1, a2, a3, a4, a5, a6, a7, a8, a9, a10, a11⟩ := h
 obtain ⟨hp, hl⟩ := fit_of a1
 refine bCopy hp hl (fun t ht => ?_) (by simp only [List.map_cons, List.map_nil, (numN_of h1).2, (numN_of h2).2, (numN_of h3).2, (numN_of h4).2]) a2 a3 a4 a5 (by rw [List.getD_eq_getElem?_getD, List.getElem?_eq_getElem a4]; rfl) a6 a7 a8 a9 (by omega) (by omega)
 simp only [List.mem_cons, List.not_mem_nil, or_false] at ht
 rcases ht with rfl | rfl | rfl | rfl
 ·exact (numN_of h1).1
 ·exact (numN_of h2).1
 ·exact (numN_of h3).1
 ·exact (numN_of h4).1
def etC (p : PW) (s g f wr : Nat) : Bool := fitB p && (decide (fmE p s 4 = 0) && (decide (g ≤ 255) && (decide (wr ≤ 1) && (decide (f < p.kinds.length) && (decide (p.ram.length = p.kinds.length * 16) && (decide (p.kinds.getD f 0 = 3) && decide (p.ram.getD (s * 16 + g / 16) 0 = 0)))))))
theorem etC_ok {p : PW} {t1 t2 t3 t4 : ByteArray} (h1 : numN t1 = true) (h2 : numN t2 = true) (h3 : numN t3 = true) (h4 : numN t4 = true) (h : etC p (nat t1) (nat t2) (nat t3) (nat t4) = true) :
  BLine p { p with ram := p.ram.set (nat t1 * 16 + nat t2 / 16) (32768 + (nat t3 : Int)) } [⟨#[101, 110, 116, 101, 114]⟩, t1, t2, t3, t4] := by
 unfold etC at h
 simp only [Bool.and_eq_true, decide_eq_true_eq] at h
 obtain ⟨a1, a2, a3, a4, a5, a6, a7, a8⟩ := h
 obtain ⟨hp, hl⟩ := fit_of a1
 refine bEnterT hp hl (fun t ht => ?_) (by simp only [List.map_cons, List.map_nil, (numN_of h1).2, (numN_of h2).2, (numN_of h3).2, (numN_of h4).2]) a2 a3 a4 a5 a6 a7 a8
 simp only [List.mem_cons, List.not_mem_nil, or_false] at ht
 rcases ht with rfl | rfl | rfl | rfl
 ·exact (numN_of h1).1
 ·exact (numN_of h2).1
 ·exact (numN_of h3).1
 ·exact (numN_of h4).1
def epC (p : PW) (s g f wr ev : Nat) : Bool := fitB p && (decide (fmE p s 4 = 0) && (decide (g ≤ 255) && (decide (wr ≤ 1) && (decide (f < p.kinds.length) && (decide (p.ram.length = p.kinds.length * 16) && (decide (p.kinds.getD f 0 = 2) && (decide (p.ram.getD (s * 16 + g / 16) 0 = (ev : Int)) && (decide (0 < ev) && (decide (ev ≤ 65535) && (decide (ev % 1024 * 16 + g % 16 < p.ram.length) && decide (p.ram.getD (ev % 1024 * 16 + g % 16) 0 = 0)))))))))))
theorem epC_ok {p : PW} {t1 t2 t3 t4 : ByteArray} {ev : Nat} (h1 : numN t1 = true) (h2 : numN t2 = true) (h3 : numN t3 = true) (h4 : numN t4 = true) (h : epC p (nat t1) (nat t2) (nat t3) (nat t4) ev = true) :
  BLine p { p with ram := p.ram.set (ev % 1024 * 16 + nat t2 % 16) (32768 + (nat t4 : Int) * 16384 + (nat t3 : Int)) } [⟨#[101, 110, 116, 101, 114]⟩, t1, t2, t3, t4] := by
 unfold epC at h
 simp only [Bool.and_eq_true, decide_eq_true_eq] at h
 obtain ⟨a1, a2, a3, a4, a5, a6, a7, a8, a9, a10, a11, a12⟩ := h
 obtain ⟨hp, hl⟩ := fit_of a1
 refine bEnterP hp hl (fun t ht => ?_) (by simp only [List.map_cons, List.map_nil, (numN_of h1).2, (numN_of h2).2, (numN_of h3).2, (numN_of h4).2]) a2 a3 a4 a5 a6 a7 a8 a9 a10 a11 a12
 simp only [List.mem_cons, List.not_mem_nil, or_false] at ht
 rcases ht with rfl | rfl | rfl | rfl
 ·exact (numN_of h1).1
 ·exact (numN_of h2).1
 ·exact (numN_of h3).1
 ·exact (numN_of h4).1
/-- The numbers of six words, from 1 on. -/
def six (a b c d e f : ByteArray) (k : Nat) : Int := [0, Prs.decV a, Prs.decV b, Prs.decV c, Prs.decV d, Prs.decV e, Prs.decV f].getD k 0
def eqC (p : PW) (t : Nat) (N : Nat → Int) : Bool := fitB p && (decide (fmE p t 6 = 0) && (decide (t < p.tasks.length) && ((decide (N 1 = -1) || decide (fmE p (N 1) (eqK 1) = 0)) && ((decide (N 2 = -1) || decide (fmE p (N 2) (eqK 2) = 0)) && ((decide (N 3 = -1) || decide (fmE p (N 3) (eqK 3) = 0)) && (decide (0 ≤ N 4) && (decide (N 4 < p.cores.length) && (decide (0 ≤ N 5) && (decide (N 5 ≤ 3) && (decide (0 ≤ N 6) && (decide (N 6 ≤ 3) && decide ((p.tasks.getD t bl) 9 = 0))))))))))))
theorem eqC_ok {p : PW} {t1 t2 t3 t4 t5 t6 t7 : ByteArray} (h1 : numN t1 = true) (h2 : numOk t2 = true) (h3 : numOk t3 = true) (h4 : numOk t4 = true) (h5 : numOk t5 = true) (h6 : numOk t6 = true) (h7 : numOk t7 = true) (h : eqC p (nat t1) (six t2 t3 t4 t5 t6 t7) = true) :
  BLine p (eqP p (nat t1) (six t2 t3 t4 t5 t6 t7)) [⟨#[101, 113, 117, 105, 112]⟩, t1, t2, t3, t4, t5, t6, t7] := by
 unfold eqC at h
 simp only [Bool.and_eq_true, Bool.or_eq_true, decide_eq_true_eq] at h
 obtain ⟨a1, a2, a3, a4, a5, a6, a7, a8, a9, a10, a11, a12, a13⟩ := h
 obtain ⟨hp, hl⟩ := fit_of a1
 refine bEquip hp hl (fun t ht => ?_) (by simp only [List.map_cons, List.map_nil, (numN_of h1).2]; rfl) a2 a3 (fun k k1 k4 kn => ?_) a7 a8 a9 a10 a11 a12 (by rw [List.getD_eq_getElem?_getD, List.getElem?_eq_getElem a3] at a13; exact a13)
 ·simp only [List.mem_cons, List.not_mem_nil, or_false] at ht
  rcases ht with rfl | rfl | rfl | rfl | rfl | rfl | rfl
  ·exact (numN_of h1).1
  ·exact h2
  ·exact h3
  ·exact h4
  ·exact h5
  ·exact h6
  ·exact h7
 ·have hkk : k = 1 ∨ k = 2 ∨ k = 3 := by omega
  rcases hkk with rfl | rfl | rfl
  ·exact a4.resolve_left kn
  ·exact a5.resolve_left kn
  ·exact a6.resolve_left kn
/-- Which kind a name is. -/
def kIdx (x : ByteArray) : Nat := (knB.map (same x)).idxOf true
/-- What a line does, if all is well. -/
def stepL (p : PW) : List ByteArray → Option PW
 | [x, a, b, c] => if same ⟨#[99, 108, 97, 121]⟩ x && (numN a && (numN b && (numN c && clC p (nat a) (nat b) (nat c)))) then some { p with slots := p.slots.set (nat a) (clk (nat b) (nat c)) } else none
 | [x, a, b, c, d] =>
  if same ⟨#[109, 97, 107, 101]⟩ x then (if numOk b && (numOk c && (numOk d && mkC p (kIdx a) a (Prs.decV b) (Prs.decV c) (Prs.decV d))) then some (mkP p (Prs.decV b) (2 + (kIdx a : Int)) (Prs.decV c) (Prs.decV d)) else none)
  else if numN a && (numN b && (numN c && numN d)) then
   (if same ⟨#[99, 111, 112, 121]⟩ x then (if cpC p (nat a) (nat b) (nat c) (nat d) (p.slots.getD (nat a) nkey) then some { p with slots := p.slots.set (nat b) (kpS (p.slots.getD (nat a) nkey) (Bw.bw 6 ((p.slots.getD (nat a) nkey) 4).toNat (nat c) : Nat) (nat d) (nat a)) } else none)
   else if same ⟨#[101, 110, 116, 101, 114]⟩ x then
    (if etC p (nat a) (nat b) (nat c) (nat d) then some { p with ram := p.ram.set (nat a * 16 + nat b / 16) (32768 + (nat c : Int)) }
    else if epC p (nat a) (nat b) (nat c) (nat d) (p.ram.getD (nat a * 16 + nat b / 16) 0).toNat then some { p with ram := p.ram.set ((p.ram.getD (nat a * 16 + nat b / 16) 0).toNat % 1024 * 16 + nat b % 16) (32768 + (nat d : Int) * 16384 + (nat c : Int)) } else none)
   else none)
  else none
 | [x, a, b, c, d, e, f, g] => if same ⟨#[101, 113, 117, 105, 112]⟩ x && (numN a && (numOk b && (numOk c && (numOk d && (numOk e && (numOk f && (numOk g && eqC p (nat a) (six b c d e f g)))))))) then some (eqP p (nat a) (six b c d e f g)) else none
 | _ => none
theorem stepL_ok {p p' : PW} : ∀ {xs : List ByteArray}, stepL p xs = some p' → BLine p p' xs
 | [x, a, b, c], h => by
  rw [stepL] at h
  split at h
  ·rename_i hc
   simp only [Bool.and_eq_true] at hc
   obtain ⟨h1, h2, h3, h4, h5⟩ := hc
   cases h
   rw [← same_eq h1]
   exact clC_ok h2 h3 h4 h5
  ·cases h
 | [x, a, b, c, d], h => by
  rw [stepL] at h
  split at h
  ·rename_i hx
   split at h
   ·rename_i hc
    simp only [Bool.and_eq_true] at hc
    obtain ⟨h1, h2, h3, h4⟩ := hc
    cases h
    rw [← same_eq hx]
    exact mkC_ok h1 h2 h3 h4
   ·cases h
  ·split at h
   ·rename_i hn
    simp only [Bool.and_eq_true] at hn
    obtain ⟨h1, h2, h3, h4⟩ := hn
    split at h
    ·rename_i hx
     split at h
     ·rename_i hc
      cases h
      rw [← same_eq hx]
      exact cpC_ok h1 h2 h3 h4 hc
     ·cases h
    ·split at h
     ·rename_i hx
      split at h
      ·rename_i hc
       cases h
       rw [← same_eq hx]
       exact etC_ok h1 h2 h3 h4 hc
      ·split at h
       ·rename_i hc
        cases h
        rw [← same_eq hx]
        exact epC_ok h1 h2 h3 h4 hc
       ·cases h
     ·cases h
   ·cases h
 | [x, a, b, c, d, e, f, g], h => by
  rw [stepL] at h
  split at h
  ·rename_i hc
   simp only [Bool.and_eq_true] at hc
   obtain ⟨h1, h2, h3, h4, h5, h6, h7, h8, h9⟩ := hc
   cases h
   rw [← same_eq h1]
   exact eqC_ok h2 h3 h4 h5 h6 h7 h8 h9
  ·cases h
 | [], h => by cases h
 | [_], h => by cases h
 | [_, _], h => by cases h
 | [_, _, _], h => by cases h
 | [_, _, _, _, _, _], h => by cases h
 | [_, _, _, _, _, _, _], h => by cases h
 | _ :: _ :: _ :: _ :: _ :: _ :: _ :: _ :: _ :: _, h => by cases h
/-- The lines behind the first one, done one behind the other. -/
def runL : List (List ByteArray) → PW → Nat → Option PW
 | [], p, _ => some p
 | _ :: _, p, 0 => some p
 | xs :: r, p, n + 1 => match stepL p xs with
  | some q => runL r q n
  | none => none
theorem runL_step : ∀ {xss : List (List ByteArray)} {p p' : PW} {n : Nat} {xs : List ByteArray}, xss[n]? = some xs → runL xss p (n + 1) = some p' → ∃ q, runL xss p n = some q ∧ stepL q xs = some p'
 | [], _, _, _, _, h, _ => by simp at h
 | ys :: r, p, p', 0, xs, h, hr => by
  simp at h
  subst h
  unfold runL at hr
  split at hr
  ·rename_i q hq
   have : q = p' := by cases r <;> (unfold runL at hr; cases hr; rfl)
   subst this
   exact ⟨p, by unfold runL; rfl, hq⟩
  ·cases hr
 | ys :: r, p, p', n + 1, xs, h, hr => by
  simp only [List.getElem?_cons_succ] at h
  unfold runL at hr
  split at hr
  ·rename_i q hq
   obtain ⟨q2, h1, h2⟩ := runL_step h hr
   refine ⟨q2, ?_, h2⟩
   unfold runL
   rw [hq]
   exact h1
  ·cases hr
end Go.Proofs.YtakmaeohhclngaaGreatDoor.Wd
namespace Go.Proofs.YtakmaeohhclngaaGreatDoor.Wd
open Go.RowKit Go.Proofs.YtakmaeohhclngaaGreatDoor.Mem Go.Proofs.YtakmaeohhclngaaGreatDoor.Bw Go.Proofs.YtakmaeohhclngaaGreatDoor.Nums Go.Proofs.YtakmaeohhclngaaGreatDoor.Mmu Go.Proofs.YtakmaeohhclngaaGreatDoor.Hex
theorem runL_all {xss : List (List ByteArray)} {p : PW} : ∀ {n : Nat} {pf : PW}, n ≤ xss.length → runL xss p n = some pf → ∀ m, m ≤ n → ∃ q, runL xss p m = some q
 | 0, pf, _, h, m, hm => by
  obtain rfl : m = 0 := by omega
  exact ⟨pf, h⟩
 | n + 1, pf, hn, h, m, hm => by
  by_cases e : m = n + 1
  ·subst e; exact ⟨pf, h⟩
  ·obtain ⟨q, h1, _⟩ := runL_step (List.getElem?_eq_getElem (show n < xss.length by omega)) h
   exact runL_all (by omega) h1 m (by omega)
/-- Neither of two words. -/
def plainB : List ByteArray → Bool
 | x :: _ => !same x ⟨#[119, 111, 114, 108, 100]⟩ && !same x ⟨#[99, 111, 100, 101]⟩
 | [] => false
/-- The plain worlds of a text, line by line. -/
def worldsOf (ls : List ByteArray) (p1 : PW) (i : Nat) : PW := (runL ((ls.drop 1).map (cutB 32)) p1 (i - 1)).getD p1
theorem reads_of {ls : List ByteArray} {f c : Nat} {zs : List Int} {l : List ByteArray} (n0 : 0 < ls.length) (nn : ls.length ≤ 200) (sz : ls.all (fun t => decide (t.size ≤ 1000)) = true) (e1 : cutB 32 (ls.getD 0 ByteArray.empty) = ⟨#[119, 111, 114, 108, 100]⟩ :: l) (hok : ∀ t ∈ l, numOk t = true) (hl : l.length ≤ 100) (hm : l.map Prs.decV = (f : Int) :: (c : Int) :: zs)
  (num : 1 ≤ f ∧ f ≤ 24 ∧ 1 ≤ c ∧ c ≤ 4 ∧ 1 ≤ zs.length ∧ zs.length ≤ 8 ∧ ∀ z ∈ zs, 0 ≤ z ∧ z ≤ 3) (hp : ((ls.drop 1).map (cutB 32)).all plainB = true) (hr : (runL ((ls.drop 1).map (cutB 32)) (wlP f c zs) (ls.length - 1)).isSome = true) : Reads ls (worldsOf ls (wlP f c zs)) f c zs := by
 obtain ⟨pf, hpf⟩ := Option.isSome_iff_exists.1 hr
 have hlen : ((ls.drop 1).map (cutB 32)).length = ls.length - 1 := by simp
 refine ⟨n0, nn, fun t ht => of_decide_eq_true (List.all_eq_true.1 sz t ht), ⟨l, e1, hok, hl, hm, ?_⟩, num, fun i h1 h2 => ?_⟩
 ·unfold worldsOf
  obtain ⟨q, hq⟩ := runL_all (by rw [hlen]; exact Nat.le_refl _) hpf 0 (by omega)
  cases hx : (ls.drop 1).map (cutB 32) <;> rfl
 ·have hi : i - 1 < ((ls.drop 1).map (cutB 32)).length := by rw [hlen]; omega
  have hg : ((ls.drop 1).map (cutB 32))[i - 1]? = some (cutB 32 (ls.getD i ByteArray.empty)) := by
   rw [List.getElem?_map, List.getElem?_drop, show 1 + (i - 1) = i by omega, List.getElem?_eq_getElem h2, List.getD_eq_getElem?_getD, List.getElem?_eq_getElem h2]
   rfl
  obtain ⟨p2, h3⟩ := runL_all (by rw [hlen]; exact Nat.le_refl _) hpf (i - 1 + 1) (by omega)
  obtain ⟨q, h4, h5⟩ := runL_step hg h3
  have hpl := List.all_eq_true.1 hp _ (List.mem_of_getElem? hg)
  have w1 : worldsOf ls (wlP f c zs) i = q := by unfold worldsOf; rw [h4]; rfl
  have w2 : worldsOf ls (wlP f c zs) (i + 1) = p2 := by unfold worldsOf; rw [show i + 1 - 1 = i - 1 + 1 by omega, h3]; rfl
  rw [w1, w2]
  generalize cutB 32 (ls.getD i ByteArray.empty) = xs at *
  cases xs with
  | nil => unfold plainB at hpl; cases hpl
  | cons x l =>
   unfold plainB at hpl
   simp only [Bool.and_eq_true, Bool.not_eq_true'] at hpl
   exact ⟨x, l, rfl, same_ne hpl.1, same_ne hpl.2, stepL_ok h5⟩
/-- The text. -/
def oneB : ByteArray := ⟨#[119, 111, 114, 108, 100, 32, 50, 52, 32, 50, 32, 48, 10, 99, 108, 97, 121, 32, 49, 32, 49, 32, 50, 48, 10, 109, 97, 107, 101, 32, 110, 111, 100, 101, 32, 49, 32, 49, 32, 50, 10, 109, 97, 107, 101, 32, 115, 112, 97, 99, 101, 32, 49, 32, 49, 32, 51, 10, 109, 97, 107, 101, 32, 116, 97, 98, 108, 101, 32, 49, 32, 49, 32, 52, 10, 109, 97, 107, 101, 32, 112, 97, 103, 101, 32, 49, 32, 52, 32, 53, 10, 109, 97, 107, 101, 32, 116, 97, 115, 107, 32, 49, 32, 50, 32, 57, 10, 109, 97, 107, 101, 32, 100, 111, 111, 114, 32, 49, 32, 49, 32, 49, 49, 10, 109, 97, 107, 101, 32, 98, 101, 108, 108, 32, 49, 32, 49, 32, 49, 50, 10, 99, 111, 112, 121, 32, 49, 49, 32, 49, 54, 32, 55, 32, 53, 10, 99, 111, 112, 121, 32, 49, 50, 32, 49, 55, 32, 55, 32, 50, 10, 99, 111, 112, 121, 32, 49, 48, 32, 49, 56, 32, 55, 32, 48, 10, 99, 111, 112, 121, 32, 55, 32, 49, 57, 32, 51, 32, 48, 10, 99, 111, 112, 121, 32, 51, 32, 50, 48, 32, 55, 32, 48, 10, 99, 111, 112, 121, 32, 52, 32, 50, 49, 32, 55, 32, 48, 10, 99, 111, 112, 121, 32, 50, 32, 50, 50, 32, 55, 32, 48, 10, 99, 111, 112, 121, 32, 57, 32, 50, 51, 32, 54, 32, 48, 10, 101, 110, 116, 101, 114, 32, 50, 32, 48, 32, 51, 32, 48, 10, 101, 110, 116, 101, 114, 32, 50, 32, 48, 32, 52, 32, 48, 10, 101, 110, 116, 101, 114, 32, 50, 32, 49, 32, 53, 32, 48, 10, 101, 110, 116, 101, 114, 32, 50, 32, 50, 32, 54, 32, 49, 10, 101, 113, 117, 105, 112, 32, 56, 32, 48, 32, 50, 32, 45, 32, 48, 32, 49, 32, 48, 10, 101, 113, 117, 105, 112, 32, 57, 32, 49, 32, 50, 32, 49, 48, 32, 49, 32, 50, 32, 48, 10]⟩
/-- Its lines' words. -/
def oneP : PW := worldsOf (Prs.linesB oneB) (wlP 24 2 [0]) (Prs.linesB oneB).length
theorem one_reads : Reads (Prs.linesB oneB) (worldsOf (Prs.linesB oneB) (wlP 24 2 [0])) 24 2 [0] :=
 reads_of (l := [⟨#[50, 52]⟩, ⟨#[50]⟩, ⟨#[48]⟩]) (of_decide_eq_true (by kernel_rfl)) (of_decide_eq_true (by kernel_rfl)) (by kernel_rfl) (by kernel_rfl) (by decide) (by decide) (by kernel_rfl) (by decide) (by kernel_rfl) (by kernel_rfl)
end Go.Proofs.YtakmaeohhclngaaGreatDoor.Wd
