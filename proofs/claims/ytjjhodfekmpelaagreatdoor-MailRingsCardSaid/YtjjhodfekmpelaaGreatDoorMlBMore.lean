/- The rest of MlB: what few laws reach. -/
import Derived.Test.YtjjhodfekmpelaaGreatDoorGLvMore
import Derived.Test.YtjjhodfekmpelaaGreatDoorGRfM2
import Derived.Test.YtjjhodfekmpelaaGreatDoorMlB
namespace Go.Proofs.YtjjhodfekmpelaaGreatDoor.Wd
open Go.RowKit Go.Proofs.YtjjhodfekmpelaaGreatDoor.Mem Go.Proofs.YtjjhodfekmpelaaGreatDoor.Bw Go.Proofs.YtjjhodfekmpelaaGreatDoor.Nums Go.Proofs.YtjjhodfekmpelaaGreatDoor.Mmu
theorem pl_cases (s : Int) : pl s = 0 ∨ (pl s = 7 ∧ (s = 2 ∨ s = 3 ∨ s = 4)) ∨ (pl s = 8 ∧ s = 6) := by
 unfold pl
 by_cases h : s = 2 ∨ s = 3 ∨ s = 4
 ·exact .inr (.inl ⟨if_pos h, h⟩)
 ·rw [if_neg h]
  by_cases h6 : s = 6
  ·exact .inr (.inr ⟨if_pos h6, h6⟩)
  ·exact .inl (if_neg h6)
/-- Who is on a core comes to a line's end: the program's way. -/
theorem stand_eq {p : PW} (h : Snd p) {t a : Nat} (ht : t < p.kinds.length) (hk : p.kinds[t] = 6) (hc : inB t p.cores = true) (s : Int) : sdP p t a s = ssP p t a s := by
 have hl : t < p.tasks.length := by rw [h.lf.tasks]; exact ht
 obtain ⟨h4, h7, _⟩ := core_in h ht hk hc
 unfold sdP ssP
 rw [h4]
 have e : ((lvP p t).task t 9 s).task t 14 a = (({ p with cores := p.cores.map (noT t) } : PW).task t 9 s).task t 14 a := by
  unfold lvP
  rw [h4, h7]
  show ((({ p with cores := p.cores.map (noT t) } : PW).task t 14 (-1)).task t 9 s).task t 14 a = _
  have hl2 : t < (({ p with cores := p.cores.map (noT t) } : PW)).tasks.length := hl
  rw [task_comm _ t 14 9 _ _ hl2 (by decide), task_same _ t 14 _ _ (by rw [PW.task_len]; exact hl2)]
 rw [e]
/-- Ringing. -/
def rgE (p : PW) (b g : Int) : Int := if thE p b 8 = 0 then (if wB g then 0 else 1) else thE p b 8
def rgP (p : PW) (b g : Int) : PW := match p.lines.getD b.toNat [] with
 | [] => { p with bits := p.bits.set b.toNat (bits .or .i64 (p.bits.getD b.toNat 0) g) }
 | z :: l => wnP (((frP p b.toNat z.toNat l).task z.toNat 1 0).task z.toNat 2 g) z.toNat (rdN p z.toNat)
/-- Hearing. -/
def hbP (p : PW) (t b : Int) : PW := if p.bits.getD b.toNat 0 = 0 then ssP p t.toNat b.toNat 6 else { (p.task t.toNat 1 0).task t.toNat 2 (p.bits.getD b.toNat 0) with bits := p.bits.set b.toNat 0 }
/-- Who stands at a bell listens. -/
theorem bell_first {p : PW} (h : Snd p) {a t : Nat} (ha : a < p.kinds.length) (hka : p.kinds[a] = 8) (ht : t < p.kinds.length) (hk : p.kinds[t] = 6) (hat : p.tasks.getD t bl 14 = a) : p.tasks.getD t bl 9 = 6 := by
 obtain ⟨h1, _, _, _, h2⟩ := stands_at h ht hk hat
 have h3 := isB_at ha h1
 rw [hka] at h3
 rcases pl_cases (p.tasks.getD t bl 9) with h4 | ⟨h4, _⟩ | ⟨_, h4⟩
 ·exact absurd h4 h2
 ·omega
 ·exact h4
theorem rdN_hand (p : PW) (t : Nat) (x y : Int) (ht : t < p.tasks.length) : rdN ((p.task t 1 x).task t 2 y) t = rdN p t := by
 unfold rdN
 rw [task_at _ t 2 18 _ (by rw [PW.task_len]; exact ht) (by decide), task_at _ t 1 18 _ ht (by decide), task_at _ t 2 10 _ (by rw [PW.task_len]; exact ht) (by decide), task_at _ t 1 10 _ ht (by decide)]
theorem BoxT.bitsAt {W : World} {wb : Nat} {tag : Nat → Nat} {V : Nat → Value} {p : PW} (h : BoxT W wb tag V p) {g cap : Nat} (e : V 5 = .slice (some ⟨g, 0, none⟩) p.bits.length cap) {i : Nat} (hi : i < p.bits.length) : W.cell? ⟨g, i, none⟩ = some (.int .i64 (p.bits.getD i 0)) ∧ W.frozen? ⟨g, i, none⟩ = false := by
 have h2 := h.o.bits
 rw [e] at h2
 refine ⟨(h2.int hi).trans ?_, h2.frozen i⟩
 rw [List.getD_eq_getElem?_getD, List.getElem?_eq_getElem hi]
 rfl
set_option maxRecDepth 100000 in
set_option maxHeartbeats 4000000 in
theorem ringBell_nil (wb : Nat) (tag : Nat → Nat) (V : Nat → Value) (p : PW) (a : Nat) (g : Int) (W : World) (bt : BoxT W wb tag V p) (hp : p.Fits) (ha : a < p.lines.length) (hb : a < p.bits.length) (hz : p.lines.getD a [] = []) (h1 : 0 ≤ p.bits.getD a 0 ∧ p.bits.getD a 0 < 65536) (h2 : 0 ≤ g ∧ g < 65536) :
  Calls Tryz.prog 45 #[.pointer (some ⟨wb, 0, none⟩), .int .i64 a, .int .i64 g] W fun r W' => r = .returned (.tuple #[]) ∧ ∃ tag', BoxT W' wb tag' V { p with bits := p.bits.set a (bits .or .i64 (p.bits.getD a 0) g) } ∧ Kt tag tag' W W' := by
 have hl4 : (p.lines.length : Int) ≤ 1000 := by have := hp.lines; omega
 have ha2 : (a : Int) < (p.lines.length : Int) := by omega
 have hl5 : (p.bits.length : Int) ≤ 1000 := by have := hp.bits; omega
 have hb2 : (a : Int) < (p.bits.length : Int) := by omega
 obtain ⟨gL, eL⟩ := bt.o.lines.form
 have hLR := bt.o.lines
 rw [eL] at hLR
 obtain ⟨u, cu, hu⟩ := hLR.at ha
 unfold ci at hu
 rw [hz] at hu
 obtain ⟨q, gu, cap, rfl, -⟩ := hu.shape
 simp only [List.length_nil] at cu
 have c4 : W.cell? ⟨wb, 4, none⟩ = some (.slice (some ⟨gL, 0, none⟩) p.lines.length p.lines.length) := by rw [range_cell bt.r (k := 4) rfl, eL]
 obtain ⟨g5, cap5, e5⟩ := bt.o.bits.form (by omega)
 have E5 := hid e5
 have HB := hid bt
 have HBL := hid hb
 obtain ⟨y, hy0⟩ : ∃ y, p.bits.getD a 0 = y := ⟨_, rfl⟩
 rw [hy0] at h1 ⊢
 have HY := hid hy0
 have HBW := hid (fun X => Cpu.bitwise_int 7 (.inr (.inl rfl)) (y) g X h1.1 h1.2 h2.1 h2.2)
 have HA := hid (show ((Bw.bw 7 y.toNat g.toNat : Nat) : Int) = bits .or .i64 (y) g by
  have h := Bw.or_nat y.toNat g.toNat (by omega) (by omega)
  rw [show ((y.toNat : Nat) : Int) = y by omega, show ((g.toNat : Nat) : Int) = g by omega] at h
  exact h.symm)
 rw [HA.out] at HBW
 clear bt hp ha hb hz eL hLR hu h1 h2 e5 hy0 HA
 go_enter Tryz.func45, Tryz.ntmps45
 go_wp2_with fail
 clear cu c4
 have BD : Hid (Below W.heap.size W W.drew) := hid (below_drew W 1)
 have KS := hid (fun X (h : Below W.heap.size W X) => show X.cell? ⟨wb, 5, none⟩ = some (.slice (some ⟨g5, 0, none⟩) p.bits.length cap5) by rw [range_cell (HB.out.below h).r (k := 5) rfl, E5.out])
 have KR := hid (fun X (h : Below W.heap.size W X) => show X.cell? ⟨g5, a, none⟩ = some (.int .i64 y) by rw [← HY.out]; exact ((HB.out.below h).bitsAt E5.out HBL.out).1)
 refine wp_region_F (S := fun X => X.cell? ⟨wb, 5, none⟩ = some (.slice (some ⟨g5, 0, none⟩) p.bits.length cap5)) (R := fun X => X.cell? ⟨g5, a, none⟩ = some (.int .i64 y)) [15] (by kernel_rfl) (KS.out _ BD.out) (KR.out _ BD.out) (fun hS0 hR0 => ?_)
 have hS := hid hS0
 have hR := hid hR0
 clear hS0 hR0
 refine wpAnyF_take (i := 0) (v := .pointer (some ⟨wb, 0, none⟩)) rfl (by kernel_rfl) (by kernel_rfl) (by kernel_rfl) (by kernel_rfl) (fun _ _ _ h => h) (Or.inl ⟨by rfl, fun W h => by clear h; go_simp⟩) hS.out (fun _ => hR.out) ?_
 simp only [jj]
 refine wpAnyF_take (i := 1) (v := .pointer (some ⟨wb, 0, none⟩)) rfl (by kernel_rfl) (by kernel_rfl) (by kernel_rfl) (by kernel_rfl) (fun _ _ _ h => h) (Or.inl ⟨by rfl, fun W h => by clear h; go_simp⟩) hS.out (fun _ => hR.out) ?_
 simp only [jj]
 refine wpAnyF_take (i := 2) (v := .pointer (some ⟨wb, 5, none⟩)) rfl (by kernel_rfl) (by kernel_rfl) (by kernel_rfl) (by kernel_rfl) (fun _ _ _ h => h) (Or.inl ⟨by rfl, fun W h => by clear h; go_simp⟩) hS.out (fun _ => hR.out) ?_
 simp only [jj]
 refine wpAnyF_take (i := 3) (v := .slice (some ⟨g5, 0, none⟩) p.bits.length cap5) rfl (by kernel_rfl) (by kernel_rfl) (by kernel_rfl) (by kernel_rfl) (fun _ _ _ h => h) (Or.inl ⟨by rfl, fun W h => by have h3 := h; clear h; go_simp⟩) hS.out (fun _ => hR.out) ?_
 simp only [jj]
 refine wpAnyF_take (i := 4) (v := .int .i64 a) rfl (by kernel_rfl) (by kernel_rfl) (by kernel_rfl) (by kernel_rfl) (fun _ _ _ h => h) (Or.inl ⟨by rfl, fun W h => by clear h; go_simp⟩) hS.out (fun _ => hR.out) ?_
 simp only [jj]
 refine wpAnyF_take (i := 5) (v := .pointer (some ⟨wb, 0, none⟩)) rfl (by kernel_rfl) (by kernel_rfl) (by kernel_rfl) (by kernel_rfl) (fun _ _ _ h => h) (Or.inl ⟨by rfl, fun W h => by clear h; go_simp⟩) hS.out (fun _ => hR.out) ?_
 simp only [jj]
 refine wpAnyF_take (i := 6) (v := .pointer (some ⟨wb, 0, none⟩)) rfl (by kernel_rfl) (by kernel_rfl) (by kernel_rfl) (by kernel_rfl) (fun _ _ _ h => h) (Or.inl ⟨by rfl, fun W h => by clear h; go_simp⟩) hS.out (fun _ => hR.out) ?_
 simp only [jj]
 refine wpAnyF_take (i := 7) (v := .pointer (some ⟨wb, 5, none⟩)) rfl (by kernel_rfl) (by kernel_rfl) (by kernel_rfl) (by kernel_rfl) (fun _ _ _ h => h) (Or.inl ⟨by rfl, fun W h => by clear h; go_simp⟩) hS.out (fun _ => hR.out) ?_
 simp only [jj]
 refine wpAnyF_take (i := 8) (v := .slice (some ⟨g5, 0, none⟩) p.bits.length cap5) rfl (by kernel_rfl) (by kernel_rfl) (by kernel_rfl) (by kernel_rfl) (fun _ _ _ h => h) (Or.inl ⟨by rfl, fun W h => by have h3 := h; clear h; go_simp⟩) hS.out (fun _ => hR.out) ?_
 simp only [jj]
 refine wpAnyF_take (i := 9) (v := .int .i64 a) rfl (by kernel_rfl) (by kernel_rfl) (by kernel_rfl) (by kernel_rfl) (fun _ _ _ h => h) (Or.inl ⟨by rfl, fun W h => by clear h; go_simp⟩) hS.out (fun _ => hR.out) ?_
 simp only [jj]
 refine wpAnyF_take (i := 10) (v := .pointer (some ⟨g5, a, none⟩)) rfl (by kernel_rfl) (by kernel_rfl) (by kernel_rfl) (by kernel_rfl) (fun _ _ _ h => h) (Or.inl ⟨by rfl, fun W h => by clear h; go_simp⟩) hS.out (fun _ => hR.out) ?_
 simp only [jj]
 refine wpAnyF_takeR (i := 11) (v := .int .i64 y) rfl (by kernel_rfl) (by kernel_rfl) (by kernel_rfl) (by kernel_rfl) (by kernel_rfl) (by kernel_rfl) (fun _ _ _ h => h) (Or.inl ⟨by rfl, fun W h => by have h3 := h.2; clear h; go_simp⟩) hS.out (fun _ => hR.out) ?_
 simp only [jj]
 refine wpAnyF_take (i := 12) (v := .int .i64 g) rfl (by kernel_rfl) (by kernel_rfl) (by kernel_rfl) (by kernel_rfl) (fun _ _ _ h => h) (Or.inl ⟨by rfl, fun W h => by clear h; go_simp⟩) hS.out (fun _ => hR.out) ?_
 simp only [jj]
 refine wpAnyF_ready (rs := [13]) (by kernel_rfl) (by simp) (AllReadyF.cons rfl (fun K hK => ?_) AllReadyF.nil)
 go_simp
 refine (HBW.out _).mono ?_
 rintro q w1 ⟨rfl, rfl⟩
 go_wp2_with fail
 refine hK.out _ _ hS.out (fun _ => hR.out) (fun _ _ => ?_)
 clear hK K
 try simp only [Act.put, jD, jE, jF]
 refine wpAnyF_take (i := 14) (v := .pointer (some ⟨g5, a, none⟩)) rfl (by kernel_rfl) (by kernel_rfl) (by kernel_rfl) (by kernel_rfl) (fun _ _ _ h => h) (Or.inl ⟨by rfl, fun W h => by clear h; go_simp⟩) hS.out (fun _ => hR.out) ?_
 simp only [jj]
 obtain ⟨y5, f5⟩ := (HB.out.below BD.out).bitsAt E5.out HBL.out
 rw [HY.out] at y5
 obtain ⟨b6, k6⟩ := (HB.out.below BD.out).bitsCell E5.out a (bits .or .i64 y g)
 have B6 := hid (show BoxT (W.setCell ⟨g5, a, none⟩ (.int .i64 (bits .or .i64 y g))).drew wb tag V { p with bits := p.bits.set a (bits .or .i64 y g) } from b6)
 have K6 := hid (show Kt tag tag W (W.setCell ⟨g5, a, none⟩ (.int .i64 (bits .or .i64 y g))).drew from Kt.trans (.below BD.out) k6)
 have S6 := hid (show (W.setCell ⟨g5, a, none⟩ (.int .i64 (bits .or .i64 y g))).drew.cell? ⟨wb, 5, none⟩ = some (.slice (some ⟨g5, 0, none⟩) p.bits.length cap5) by rw [range_cell B6.out.r (k := 5) rfl, E5.out])
 clear b6 k6
 refine wpAnyF_ready (rs := [15]) (by kernel_rfl) (by simp) (AllReadyF.cons rfl (fun K hK => ?_) AllReadyF.nil)
 go_simp
 refine hK.out _ _ S6.out (notClean (by kernel_rfl)) (fun _ _ => ?_)
 clear hK K
 try simp only [Act.put]
 refine wpAnyF_done (by kernel_rfl) ?_ _
 generalize World.drew (World.setCell _ _ _) = W6 at *
 clear KS KR BD S6 y5 f5 hS hR
 go_wp2_with fail
 exact bodyPost_ret (results_none rfl _ _ _) rfl ⟨rfl, tag, B6.out, K6.out⟩
set_option maxRecDepth 100000 in
set_option maxHeartbeats 4000000 in
theorem ringBell_cons (wb : Nat) (tag : Nat → Nat) (V : Nat → Value) (p : PW) (a t : Nat) (l : List Int) (g : Int) (W : World) (bt : BoxT W wb tag V p) (hp : p.Fits) (hs : Snd p) (ha : a < p.lines.length) (hz : p.lines.getD a [] = (t : Int) :: l) (ht : t < p.kinds.length) (hk : p.kinds[t] = 6) (h9 : p.tasks.getD t bl 9 = 6) :
  Calls Tryz.prog 45 #[.pointer (some ⟨wb, 0, none⟩), .int .i64 a, .int .i64 g] W fun r W' => r = .returned (.tuple #[]) ∧ ∃ tag', BoxT W' wb tag' V (wnP (((frP p a t l).task t 1 0).task t 2 g) t (rdN p t)) ∧ Kt tag tag' W W' := by
 have htl : t < p.tasks.length := by rw [hs.lf.tasks]; exact ht
 have hl4 : (p.lines.length : Int) ≤ 1000 := by have := hp.lines; omega
 have ha2 : (a : Int) < (p.lines.length : Int) := by omega
 have hll : l.length + 1 ≤ 1000 := by
  have h1 := hp.line _ (List.getElem_mem ha)
  have h2 := hz
  rw [List.getD_eq_getElem?_getD, List.getElem?_eq_getElem ha, Option.getD_some] at h2
  rw [h2] at h1
  exact h1
 obtain ⟨gL, eL⟩ := bt.o.lines.form
 have hLR := bt.o.lines
 rw [eL] at hLR
 obtain ⟨u, cu, hu⟩ := hLR.at ha
 unfold ci at hu
 rw [hz] at hu
 obtain ⟨gu, cap, rfl⟩ := hu.form (by simp)
 simp only [List.length_cons] at cu
 have c4 : W.cell? ⟨wb, 4, none⟩ = some (.slice (some ⟨gL, 0, none⟩) p.lines.length p.lines.length) := by rw [range_cell bt.r (k := 4) rfl, eL]
 have hne : ¬ (((l.length + 1 : Nat) : Int) = 0) := by omega
 have hneb : (((l.length + 1 : Nat) : Int) == 0) = false := by simpa using hne
 have hl5 : ((l.length + 1 : Nat) : Int) ≤ 1000 := by omega
 obtain ⟨r1, r2, r3, r4⟩ := rdN_eq hs ht hk
 have HF := hid (front_yes wb tag V p a false W bt hp ha t l hz htl (by rw [h9]; decide))
 have hpf := fr_fits hp a t l (by omega)
 have HH := hid (fun X tg (h : BoxT X wb tg V (frP p a t l)) => handed_ref wb tg V (frP p a t l) t 0 g X h hpf (by rw [fr_len]; exact htl))
 have HW := hid (fun X tg (h : BoxT X wb tg V (((frP p a t l).task t 1 0).task t 2 g)) => woken_ref wb tg V (((frP p a t l).task t 1 0).task t 2 g) t (rdN p t) X h (tsk_fits (tsk_fits hpf t 1 0) t 2 g) (by rw [PW.task_len, PW.task_len, fr_len]; exact htl) r1 (by rw [hand_at p a t l 0 g 18 htl (by decide) (by decide) (by decide)]; exact r3) (by rw [hand_at p a t l 0 g 10 htl (by decide) (by decide) (by decide)]; exact r4) (by rw [hand_at p a t l 0 g 18 htl (by decide) (by decide) (by decide), hand_at p a t l 0 g 10 htl (by decide) (by decide) (by decide)]; exact r2))
 clear bt hp hs ha hz eL hLR hu hk h9 htl r1 r2 r3 r4 hpf hll
 go_enter Tryz.func45, Tryz.ntmps45
 go_wp2_with fail
 refine HF.out.mono ?_
 rintro r w1 ⟨rfl, tg1, h1, k1⟩
 have B1 := hid h1
 have K1 := hid k1
 clear h1 k1 cu c4 HF
 go_wp2_with fail
 refine (HH.out _ _ B1.out).mono ?_
 rintro r w2 ⟨rfl, h2, k2⟩
 have B2 := hid h2
 have K2 := hid (K1.out.trans k2)
 clear h2 k2 HH
 go_wp2_with fail
 refine (HW.out _ _ B2.out).mono ?_
 rintro r w3 ⟨rfl, tg3, h3, k3⟩
 have B3 := hid h3
 have K3 := hid (K2.out.trans k3)
 clear h3 k3 HW
 go_wp2_with fail
 exact bodyPost_end (results_none rfl _ _ _) rfl ⟨rfl, tg3, B3.out, K3.out⟩
set_option maxRecDepth 100000 in
set_option maxHeartbeats 4000000 in
theorem hearBell_ref (wb : Nat) (tag : Nat → Nat) (V : Nat → Value) (p : PW) (t a : Nat) (W : World) (bt : BoxT W wb tag V p) (hp : p.Fits) (ht : t < p.tasks.length) (ha : a < p.lines.length) (hb : a < p.bits.length) :
  Calls Tryz.prog 47 #[.pointer (some ⟨wb, 0, none⟩), .int .i64 t, .int .i64 a] W fun r W' => r = .returned (.tuple #[]) ∧ ∃ tag', BoxT W' wb tag' V (hbP p t a) ∧ Kt tag tag' W W' := by
 have hl5 : (p.bits.length : Int) ≤ 1000 := by have := hp.bits; omega
 have hb2 : (a : Int) < (p.bits.length : Int) := by omega
 obtain ⟨g5, cap5, e5⟩ := bt.o.bits.form (by omega)
 have E5 := hid e5
 have HBL := hid hb
 have c5 : W.cell? ⟨wb, 5, none⟩ = some (.slice (some ⟨g5, 0, none⟩) p.bits.length cap5) := by rw [range_cell bt.r (k := 5) rfl, e5]
 have x5 := (bt.bitsAt e5 hb).1
 have HPP := hid (show hbP p t a = if p.bits.getD a 0 = 0 then ssP p t a 6 else { (p.task t 1 0).task t 2 (p.bits.getD a 0) with bits := p.bits.set a 0 } by unfold hbP; rw [Int.toNat_natCast, Int.toNat_natCast])
 have HS := hid (stands_ref wb tag V p t a 6 W bt hp ht ha)
 have HH := hid (handed_ref wb tag V p t 0 (p.bits.getD a 0) W bt hp ht)
 generalize p.bits.getD a 0 = y at x5 HPP HH
 clear bt hp ht ha hb e5
 by_cases hy : y = 0
 ·have HR := hid (HPP.out.trans (if_pos hy))
  subst hy
  clear HH HPP
  go_enter Tryz.func47, Tryz.ntmps47
  go_wp2_with fail
  refine HS.out.mono ?_
  rintro r w1 ⟨rfl, tg1, h1, k1⟩
  have B1 := hid h1
  have K1 := hid k1
  clear h1 k1
  go_wp2_with fail
  exact bodyPost_ret (results_none rfl _ _ _) rfl ⟨rfl, tg1, by rw [HR.out]; exact B1.out, K1.out⟩
 ·have HR := hid (HPP.out.trans (if_neg hy))
  have hyb : (y == 0) = false := by simpa using hy
  clear HS HPP hy
  go_enter Tryz.func47, Tryz.ntmps47
  go_wp2_with fail
  refine HH.out.mono ?_
  rintro r w1 ⟨rfl, h1, k1⟩
  have B1 := hid h1
  have K1 := hid k1
  clear h1 k1 HH c5 x5
  have c5 : w1.cell? ⟨wb, 5, none⟩ = some (.slice (some ⟨g5, 0, none⟩) p.bits.length cap5) := by rw [range_cell B1.out.r (k := 5) rfl, E5.out]
  obtain ⟨y5, f5⟩ := B1.out.bitsAt E5.out HBL.out
  obtain ⟨b2, k2⟩ := B1.out.bitsCell E5.out a 0
  have B2 := hid b2
  have K2 := hid (K1.out.trans k2)
  clear b2 k2
  go_wp2_with fail
  exact bodyPost_end (results_none rfl _ _ _) rfl ⟨rfl, tag, by rw [HR.out]; exact B2.out, K2.out⟩
set_option maxRecDepth 100000 in
set_option maxHeartbeats 4000000 in
theorem ring_deed (c1 c2 : Nat) (b g : Int) (p : PW) (hp : p.Fits) (hl : ∀ l ∈ p.tlbs, l.length ≤ 100) (hs : Snd p) : DeedT 96 #[ptr c1, ptr c2] (CapsT [(c1, .int .i64 b), (c2, .int .i64 g)]) eV p (rgP p b g) (rgE p b g) := by
 intro W wb tag V bt hc
 have x1 := (hc (c1, .int .i64 b) (by simp)).1
 have x2 := (hc (c2, .int .i64 g) (by simp)).1
 have HC := hid hc
 have HT := hid (thing_any wb V p b 8 W (bt.view hp hl))
 have HWD := hid (isWord_any g W)
 unfold ptr
 simp only [List.append_toArray, List.cons_append, List.nil_append]
 by_cases h0 : thE p b 8 = 0
 rotate_left
 ·have HE := hid (show rgE p b g = thE p b 8 from if_neg h0)
  rw [eV_n h0] at HT
  have HN := hid h0
  rw [HE.out, eV_n h0]
  generalize thE p b 8 = x at HT HN ⊢
  clear h0 HE bt hp hl hs hc HWD
  go_enter Tryz.func96, Tryz.ntmps96
  go_wp2_with fail
  refine HT.out.mono ?_
  rintro q w1 ⟨rfl, rfl⟩
  go_wp2_with fail
  go_ret
  exact ⟨rfl, tag, Kt.refl _ _, fun h => absurd h HN.out⟩
 have HE0 := hid (show rgE p b g = if wB g then 0 else 1 from if_pos h0)
 rw [h0, eV_0] at HT
 obtain ⟨a, ha, rfl, hka⟩ := thE_in h0
 clear h0
 cases hg : wB g with
 | false =>
  rw [hg, if_neg (by decide)] at HE0
  rw [hg] at HWD
  rw [HE0.out]
  clear bt hp hl hs hc hka hg
  go_enter Tryz.func96, Tryz.ntmps96
  go_wp2_with fail
  refine HT.out.mono ?_
  rintro q w1 ⟨rfl, rfl⟩
  go_wp2_with fail
  refine HWD.out.mono ?_
  rintro q w1 ⟨rfl, rfl⟩
  go_wp2_with fail
  go_ret
  exact ⟨rfl, tag, Kt.refl _ _, fun h => by cases h⟩
 | true =>
 rw [hg, if_pos rfl] at HE0
 rw [hg] at HWD
 rw [HE0.out, eV_0]
 have hal : a < p.lines.length := by rw [hs.lf.lines]; exact ha
 have hab : a < p.bits.length := by rw [hs.lf.bits]; exact ha
 have BN := hid (bal (Below.refl W.heap.size W) (.cells #[.int .i64 6] 3))
 have CN := hid (show IntsIn (W.alloc (.cells #[.int .i64 6] 3)) (.slice (some ⟨W.heap.size, 0, none⟩) 1 1) [6] from ⟨some ⟨W.heap.size, 0, none⟩, W.heap.size, 0, 1, rfl, fun _ => rfl, fun j hj => by
  obtain rfl : j = 0 := by simp at hj; omega
  exact cells_new W #[.int .i64 6] 3 0⟩)
 obtain ⟨zs, hz⟩ : ∃ zs, p.lines.getD a [] = zs := ⟨_, rfl⟩
 cases zs with
 | nil =>
  have hl5 : (p.bits.length : Int) ≤ 1000 := by have := hp.bits; omega
  have hb2 : (a : Int) < (p.bits.length : Int) := by omega
  obtain ⟨g5, cap5, e5⟩ := bt.o.bits.form (by omega)
  have E5 := hid e5
  have HBL := hid hab
  obtain ⟨y, hy0⟩ : ∃ y, p.bits.getD a 0 = y := ⟨_, rfl⟩
  have HY := hid hy0
  have HRR := hid (show rgP p a g = { p with bits := p.bits.set a (bits .or .i64 y g) } by unfold rgP; rw [Int.toNat_natCast, hz, hy0])
  have HF := hid (first_nil wb tag V p a (.slice (some ⟨W.heap.size, 0, none⟩) 1 1) _ (bt.below BN.out) hp hal hz)
  have HBB := hid bt
  clear bt hp hl hs hc hka hg hal hab hz hy0 e5 CN
  go_enter Tryz.func96, Tryz.ntmps96
  go_wp2_with fail
  refine HT.out.mono ?_
  rintro q w1 ⟨rfl, rfl⟩
  go_wp2_with fail
  refine HWD.out.mono ?_
  rintro q w1 ⟨rfl, rfl⟩
  go_wp2_with fail
  refine HF.out.mono ?_
  rintro q Y ⟨rfl, hb⟩
  have BY := hid (HBB.out.below (btr BN.out hb))
  have KY := hid (show Kt tag tag W Y from .below (btr BN.out hb))
  have z1 := (HC.out.kt KY.out (c1, .int .i64 a) (by simp)).1
  clear hb HF BN HBB x1 x2
  go_wp2_with fail
  have BD : Hid (Below Y.heap.size Y Y.drew) := hid (below_drew Y 1)
  have KS := hid (fun X (h : Below Y.heap.size Y X) => show X.cell? ⟨wb, 5, none⟩ = some (.slice (some ⟨g5, 0, none⟩) p.bits.length cap5) ∧ X.cell? ⟨c1, 0, none⟩ = some (.int .i64 a) ∧ X.cell? ⟨c2, 0, none⟩ = some (.int .i64 g) from ⟨by rw [range_cell (BY.out.below h).r (k := 5) rfl, E5.out], (HC.out.kt (KY.out.trans (.below h)) (c1, .int .i64 a) (by simp)).1, (HC.out.kt (KY.out.trans (.below h)) (c2, .int .i64 g) (by simp)).1⟩)
  have KR := hid (fun X (h : Below Y.heap.size Y X) => show X.cell? ⟨g5, a, none⟩ = some (.int .i64 y) by rw [← HY.out]; exact ((BY.out.below h).bitsAt E5.out HBL.out).1)
  refine wp_region_F (S := fun X => X.cell? ⟨wb, 5, none⟩ = some (.slice (some ⟨g5, 0, none⟩) p.bits.length cap5) ∧ X.cell? ⟨c1, 0, none⟩ = some (.int .i64 a) ∧ X.cell? ⟨c2, 0, none⟩ = some (.int .i64 g)) (R := fun X => X.cell? ⟨g5, a, none⟩ = some (.int .i64 y)) [10] (by kernel_rfl) (KS.out _ BD.out) (KR.out _ BD.out) (fun hS0 hR0 => ?_)
  have hS := hid hS0
  have hR := hid hR0
  clear hS0 hR0
  refine wpAnyF_take (i := 0) (v := .pointer (some ⟨wb, 0, none⟩)) rfl (by kernel_rfl) (by kernel_rfl) (by kernel_rfl) (by kernel_rfl) (fun _ _ _ h => h) (Or.inl ⟨by rfl, fun W h => by clear h; go_simp⟩) hS.out (fun _ => hR.out) ?_
  simp only [jj]
  refine wpAnyF_take (i := 1) (v := .pointer (some ⟨wb, 0, none⟩)) rfl (by kernel_rfl) (by kernel_rfl) (by kernel_rfl) (by kernel_rfl) (fun _ _ _ h => h) (Or.inl ⟨by rfl, fun W h => by clear h; go_simp⟩) hS.out (fun _ => hR.out) ?_
  simp only [jj]
  refine wpAnyF_take (i := 2) (v := .pointer (some ⟨wb, 5, none⟩)) rfl (by kernel_rfl) (by kernel_rfl) (by kernel_rfl) (by kernel_rfl) (fun _ _ _ h => h) (Or.inl ⟨by rfl, fun W h => by clear h; go_simp⟩) hS.out (fun _ => hR.out) ?_
  simp only [jj]
  refine wpAnyF_take (i := 3) (v := .slice (some ⟨g5, 0, none⟩) p.bits.length cap5) rfl (by kernel_rfl) (by kernel_rfl) (by kernel_rfl) (by kernel_rfl) (fun _ _ _ h => h) (Or.inl ⟨by rfl, fun W h => by have h3 := h.1; clear h; go_simp⟩) hS.out (fun _ => hR.out) ?_
  simp only [jj]
  refine wpAnyF_take (i := 4) (v := .int .i64 a) rfl (by kernel_rfl) (by kernel_rfl) (by kernel_rfl) (by kernel_rfl) (fun _ _ _ h => h) (Or.inl ⟨by rfl, fun W h => by have h3 := h.2.1; clear h; go_simp⟩) hS.out (fun _ => hR.out) ?_
  simp only [jj]
  refine wpAnyF_take (i := 5) (v := .pointer (some ⟨g5, a, none⟩)) rfl (by kernel_rfl) (by kernel_rfl) (by kernel_rfl) (by kernel_rfl) (fun _ _ _ h => h) (Or.inl ⟨by rfl, fun W h => by clear h; go_simp⟩) hS.out (fun _ => hR.out) ?_
  simp only [jj]
  refine wpAnyF_takeR (i := 6) (v := .int .i64 y) rfl (by kernel_rfl) (by kernel_rfl) (by kernel_rfl) (by kernel_rfl) (by kernel_rfl) (by kernel_rfl) (fun _ _ _ h => h) (Or.inl ⟨by rfl, fun W h => by have h3 := h.2; clear h; go_simp⟩) hS.out (fun _ => hR.out) ?_
  simp only [jj]
  refine wpAnyF_take (i := 7) (v := .int .i64 g) rfl (by kernel_rfl) (by kernel_rfl) (by kernel_rfl) (by kernel_rfl) (fun _ _ _ h => h) (Or.inl ⟨by rfl, fun W h => by have h3 := h.2.2; clear h; go_simp⟩) hS.out (fun _ => hR.out) ?_
  simp only [jj]
  refine wpAnyF_take (i := 8) (v := .int .i64 (bits .or .i64 y g)) rfl (by kernel_rfl) (by kernel_rfl) (by kernel_rfl) (by kernel_rfl) (fun _ _ _ h => h) (Or.inl ⟨by rfl, fun W h => by clear h; go_simp⟩) hS.out (fun _ => hR.out) ?_
  simp only [jj]
  refine wpAnyF_take (i := 9) (v := .pointer (some ⟨g5, a, none⟩)) rfl (by kernel_rfl) (by kernel_rfl) (by kernel_rfl) (by kernel_rfl) (fun _ _ _ h => h) (Or.inl ⟨by rfl, fun W h => by clear h; go_simp⟩) hS.out (fun _ => hR.out) ?_
  simp only [jj]
  obtain ⟨y5, f5⟩ := (BY.out.below BD.out).bitsAt E5.out HBL.out
  rw [HY.out] at y5
  obtain ⟨b6, k6⟩ := (BY.out.below BD.out).bitsCell E5.out a (bits .or .i64 y g)
  have B6 := hid (show BoxT (Y.setCell ⟨g5, a, none⟩ (.int .i64 (bits .or .i64 y g))).drew wb tag V { p with bits := p.bits.set a (bits .or .i64 y g) } from b6)
  have K6 := hid (show Kt tag tag W (Y.setCell ⟨g5, a, none⟩ (.int .i64 (bits .or .i64 y g))).drew from (KY.out.trans (.below BD.out)).trans k6)
  have S6 := hid (show (Y.setCell ⟨g5, a, none⟩ (.int .i64 (bits .or .i64 y g))).drew.cell? ⟨wb, 5, none⟩ = some (.slice (some ⟨g5, 0, none⟩) p.bits.length cap5) ∧ (Y.setCell ⟨g5, a, none⟩ (.int .i64 (bits .or .i64 y g))).drew.cell? ⟨c1, 0, none⟩ = some (.int .i64 a) ∧ (Y.setCell ⟨g5, a, none⟩ (.int .i64 (bits .or .i64 y g))).drew.cell? ⟨c2, 0, none⟩ = some (.int .i64 g) from ⟨by rw [range_cell B6.out.r (k := 5) rfl, E5.out], (HC.out.kt K6.out (c1, .int .i64 a) (by simp)).1, (HC.out.kt K6.out (c2, .int .i64 g) (by simp)).1⟩)
  clear b6 k6
  refine wpAnyF_ready (rs := [10]) (by kernel_rfl) (by simp) (AllReadyF.cons rfl (fun K hK => ?_) AllReadyF.nil)
  go_simp
  refine hK.out _ _ S6.out (notClean (by kernel_rfl)) (fun _ _ => ?_)
  clear hK K
  try simp only [Act.put]
  refine wpAnyF_done (by kernel_rfl) ?_ _
  generalize World.drew (World.setCell _ _ _) = W6 at *
  clear KS KR BD S6 y5 f5 hS hR z1
  go_wp2_with fail
  go_ret
  exact ⟨rfl, tag, K6.out, fun _ => ⟨V, by rw [HRR.out]; exact B6.out⟩⟩
 | cons z l =>
  obtain ⟨t, ht, rfl, hk, hat⟩ := line_first hs hal hz
  have h9 := bell_first hs ha hka ht hk hat
  have htl : t < p.tasks.length := by rw [hs.lf.tasks]; exact ht
  have HF := hid (first_cons wb tag V p a t l (.slice (some ⟨W.heap.size, 0, none⟩) 1 1) 6 _ (bt.below BN.out) hp hal hz htl CN.out)
  rw [h9, if_pos rfl] at HF
  obtain ⟨r1, r2, r3, r4⟩ := rdN_eq hs ht hk
  have HRR := hid (show rgP p a g = wkP ((p.task t 1 0).task t 2 g) t (rdN p t) by
   rw [wake_first hs hal hz ht hk hat 0 g (rdN p t)]
   unfold rgP
   rw [Int.toNat_natCast, hz]
   simp only [Int.toNat_natCast])
  have HH := hid (fun X (h : BoxT X wb tag V p) => handM_any wb tag V p t 0 g X h hp htl)
  have e18 : ((p.task t 1 0).task t 2 g).tasks.getD t bl 18 = p.tasks.getD t bl 18 := by rw [task_at _ t 2 18 _ (by rw [PW.task_len]; exact htl) (by decide), task_at _ t 1 18 _ htl (by decide)]
  have e10 : ((p.task t 1 0).task t 2 g).tasks.getD t bl 10 = p.tasks.getD t bl 10 := by rw [task_at _ t 2 10 _ (by rw [PW.task_len]; exact htl) (by decide), task_at _ t 1 10 _ htl (by decide)]
  have HW := hid (fun X (h : BoxT X wb tag V ((p.task t 1 0).task t 2 g)) => wake_any wb tag V ((p.task t 1 0).task t 2 g) t (rdN p t) X h (tsk_fits (tsk_fits hp t 1 0) t 2 g) (by rw [PW.task_len, PW.task_len]; exact htl) r1 (by rw [e18]; exact r3) (by rw [e10]; exact r4) (by rw [e18, e10]; exact r2))
  have HBB := hid bt
  have ht0 : ¬ ((t : Int) = -1) := by omega
  have ht1 : ((t : Int) == -1) = false := by simp
  clear bt hp hl hs hc hka hg hal hab hz hk hat h9 htl r1 r2 r3 r4 e18 e10 CN
  go_enter Tryz.func96, Tryz.ntmps96
  go_wp2_with fail
  refine HT.out.mono ?_
  rintro q w1 ⟨rfl, rfl⟩
  go_wp2_with fail
  refine HWD.out.mono ?_
  rintro q w1 ⟨rfl, rfl⟩
  go_wp2_with fail
  refine HF.out.mono ?_
  rintro q Y ⟨rfl, hb⟩
  have BY := hid (HBB.out.below (btr BN.out hb))
  have KY := hid (show Kt tag tag W Y from .below (btr BN.out hb))
  have z2 := (HC.out.kt KY.out (c2, .int .i64 g) (by simp)).1
  clear hb HF BN HBB x1 x2
  go_wp2_with fail
  refine (HH.out _ BY.out).mono ?_
  rintro q w2 ⟨rfl, h1, h2⟩
  have B2 := hid h1
  have K2 := hid (KY.out.trans h2)
  clear h1 h2 HH z2
  go_wp2_with fail
  refine (HW.out _ B2.out).mono ?_
  rintro q w3 ⟨rfl, tg3, h1, h2⟩
  have B3 := hid h1
  have K3 := hid (K2.out.trans h2)
  clear h1 h2 HW
  go_wp2_with fail
  go_ret
  exact ⟨rfl, tg3, K3.out, fun _ => ⟨V, by rw [HRR.out]; exact B3.out⟩⟩
end Go.Proofs.YtjjhodfekmpelaaGreatDoor.Wd
