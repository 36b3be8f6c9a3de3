/- A world out of a text: obey; walked. · A world out of a text: the first order; walked. · A world out of a text: obey, ahead of the first order; walked. -/
import Derived.Test.YtkocmkaeaagbaaaGreatDoorQbo
namespace Go.Proofs.YtkocmkaeaagbaaaGreatDoor.Wd
open Go.RowKit Go.Proofs.YtkocmkaeaagbaaaGreatDoor.Mem Go.Proofs.YtkocmkaeaagbaaaGreatDoor.Bw Go.Proofs.YtkocmkaeaagbaaaGreatDoor.Nums Go.Proofs.YtkocmkaeaagbaaaGreatDoor.Hex Go.Proofs.YtkocmkaeaagbaaaGreatDoor.Prs Go.Proofs.YtkocmkaeaagbaaaGreatDoor.Mmu
/-- What stands behind a line's first word. -/
theorem others {w : World} {b cap : Nat} {t0 : ByteArray} {ts : List ByteArray} (hS : StrsAt w b 0 (t0 :: ts)) (hc : ts.length + 1 ≤ cap) : ∃ xo, (if cap = 1 then some (⟨b, 0, none⟩ : Addr) else some ⟨b, 1, none⟩) = some ⟨b, xo, none⟩ ∧ StrsAt w b xo ts := by
 by_cases h : cap = 1
 ·refine ⟨0, if_pos h, fun j hj => ?_⟩
  omega
 ·refine ⟨1, if_neg h, fun j hj => ?_⟩
  have := hS (j + 1) (by simp; omega)
  rw [Nat.zero_add] at this
  rw [show 1 + j = j + 1 by omega]
  exact this
theorem words_size {s : ByteArray} {x : ByteArray} {r : List ByteArray} (h : cutB 32 s = x :: r) : x.size ≤ s.size ∧ (∀ t ∈ r, t.size ≤ s.size) ∧ r.length ≤ s.size := by
 have hm : ∀ t ∈ cutB 32 s, t.size ≤ s.size := fun t ht => by
  unfold cutB at ht
  obtain ⟨l, hl, rfl⟩ := List.mem_map.1 ht
  have := cutL_mem_len 32 s.data.toList l hl
  rw [size_list, size_list]
  simpa using this
 have hl : (cutB 32 s).length ≤ s.size + 1 := by
  have := cutL_len 32 s.data.toList
  rw [← size_list] at this
  simpa only [cutB, List.length_map] using this
 rw [h] at hm hl
 exact ⟨hm x (by simp), fun t ht => hm t (by simp [ht]), by simpa using hl⟩
theorem okJ {k : Int} {n : Nat} (h : okN 115 k n = true) : (n : Int) = k := by
 unfold okN at h
 rw [if_pos rfl] at h
 exact beq_iff_eq.1 h
theorem mcE_old (t : ByteArray) : mcE t true = if t = wdB then 12 else 0 := by unfold mcE; rfl
theorem mcE_new (t : ByteArray) : mcE t false = if t = wdB then 0 else 10 := by unfold mcE; rfl
set_option maxRecDepth 100000 in
set_option maxHeartbeats 16000000 in
theorem obey_old (bb : Nat) (tag : Nat → Nat) (V : Nat → Value) (p : PW) (g c n : Nat) (ls : List ByteArray) (s : ByteArray) (w : World) (h : Bld w bb tag V p (lvS g c ls) n) (hG : Gl w tag) (hL : Lin w tag g c ls) (hg : g < w.heap.size) (hn : n ≤ ls.length) (hs : s.size ≤ 4000) :
  Calls Tryz.prog 18 #[.pointer (some ⟨bb, 0, none⟩), .string s] w fun r w' => DoA w bb tag (lvS g c ls) ls.length n r w' := by
 have SP := hid (split_cap s 32 w (by omega) hG.m)
 obtain ⟨t0, ts, hcut⟩ := cutB_cons s
 rw [hcut] at SP
 obtain ⟨z1, z2, z3⟩ := words_size hcut
 have H := hid h
 have HG := hid hG
 have HL := hid hL
 have GL := hid hg
 have HN := hid hn
 have Z1 := hid (show t0.size ≤ maxLen by unfold maxLen; omega)
 have Z2 := hid (show ∀ t ∈ ts, t.size ≤ maxLen from fun t ht => by have := z2 t ht; unfold maxLen; omega)
 have Z3 := hid (show ts.length ≤ 100000 by omega)
 have hk0 : 0 < p.kinds.length := h.k.lf.k1
 obtain ⟨gk, ck, ek⟩ := h.b.o.kinds.form hk0
 have k1 : w.cell? ⟨bb, 1, none⟩ = some (.slice (some ⟨gk, 0, none⟩) p.kinds.length ck) := by rw [range_cell h.b.r (k := 1) rfl, ek]
 have KK := hid k1
 have K0 := hid hk0
 clear h hG hL hg hn hs hcut z1 z2 z3 hk0 ek k1
 show Calls _ _ _ _ _
 go_enter Tryz.func18, Tryz.ntmps18
 go_wp2_with fail
 refine SP.out.mono ?_
 rintro r w1 ⟨b, cap, rfl, hS, hb, hc⟩
 obtain ⟨xo, hxo, hS2⟩ := others hS hc
 have c0 := hS 0 (by simp)
 rw [List.length_cons] at hc ⊢
 simp only [Nat.zero_add, List.getElem_cons_zero] at c0
 have i0 : (0 : Int) < ((ts.length + 1 : Nat) : Int) := by omega
 have i1 : (1 : Int) ≤ ((ts.length + 1 : Nat) : Int) := by omega
 have i2 : ((ts.length + 1 : Nat) : Int) ≤ (cap : Int) := by omega
 have S1 := hid hS2
 have B1 := hid hb
 have XO := hid hxo
 generalize hlen : ts.length + 1 = L at *
 have LE := hid hlen
 clear hS hS2 hb hxo hlen SP
 go_wp2_with fail
 go_quiet (fail)
 have B2 := hid (below_drewN B1.out nq)
 have S2 := hid (StrsAt.below' S1.out (below_drewN (Below.refl _ _) nq))
 rw [XO.out, show L - 1 = ts.length by have := LE.out; omega]
 generalize w1.drewN nq = w2 at *
 have MC := hid (mayCome_any bb _ _ ck t0 w2 (cell_up KK.out B2.out))
 rw [decide_eq_true K0.out, mcE_old] at MC
 have HC := hid (show ts.length ≤ cap - 1 by have := LE.out; omega)
 clear c0 S1 B1 XO i0 i1 i2 hc LE
 by_cases hw : t0 = wdB
 ·rw [if_pos hw, eV_n (by decide)] at MC
  clear hw
  go_wp2_with fail
  refine MC.out.mono ?_
  rintro r w' ⟨rfl, rfl⟩
  go_wp2_with fail
  go_ret
  exact DoA.no B2.out
 rw [if_neg hw, eV_0] at MC
 have HW := hid hw
 clear hw
 go_wp2_with fail
 refine MC.out.mono ?_
 rintro r w' ⟨rfl, rfl⟩
 clear MC
 go_wp2_with fail
 refine (orders_any w2).mono ?_
 rintro r w3 ⟨⟨b2, f, rfl, hT, hO, -⟩, hb⟩
 have T3 := hid hT
 have O3 := hid (hO t0)
 have B3 := hid (btr B2.out hb)
 have S3 := hid (StrsAt.below' S2.out hb)
 clear hT hO hb S2 B2
 cases hf : f t0 with
 | none =>
  have HF := hid hf
  clear hf
  go_wp2_with (first | ((with_reducible (show wpList _ _ _ (⟨_, Op.lookup _ _ _ _, _, _, _, _⟩ :: _) _ _)); refine wp_look rfl _ _ 93 91 rfl Tryz.underlying93 (z := .agg #[.nilFunc, .nilFunc]) (by kernel_rfl) b2 9 f rfl T3.out t0 rfl Z1.out ?_; rw [HF.out]; simp only [Option.getD_none, Option.isSome_none]))
  go_ret
  exact DoA.no (bal B3.out _)
 | some v =>
  have OV := O3.out v hf
  have HF := hid hf
  clear hf O3
  rcases OV with ⟨e, -⟩ | ⟨-, OV⟩ | ⟨-, rfl⟩ | ⟨-, OV⟩ | ⟨-, OV⟩ | ⟨-, OV⟩ | ⟨-, OV⟩ | ⟨-, OV⟩ | ⟨-, OV⟩
  ·exact absurd e HW.out
  ·obtain ⟨rd, ⟨cb, mb, -, -, rfl, h1, h2⟩, rfl⟩ := OV
   have CF := hid (fun W (hb : Below w3.heap.size w3 W) => (countedF_any _ cb mb b xo (cap - 1) 3 ts W (.inl rfl) (cell_up h1 hb) (cell_up h2 hb) (StrsAt.below' S3.out hb) Z3.out).mono fun _ _ h => And.intro h.1 h.2.2)
   clear h1 h2
   go_wp2_with (first | ((with_reducible (show wpList _ _ _ (⟨_, Op.lookup _ _ _ _, _, _, _, _⟩ :: _) _ _)); refine wp_look rfl _ _ 93 91 rfl Tryz.underlying93 (z := .agg #[.nilFunc, .nilFunc]) (by kernel_rfl) b2 9 f rfl T3.out t0 rfl Z1.out ?_; rw [HF.out]; simp only [Option.getD_some, Option.isSome_some]))
   refine (CF.out _ (bal (Below.refl _ _) _)).mono ?_
   rintro r w4 ⟨hr, hb⟩
   have B4 := hid (btr (bal B3.out _) hb)
   rcases hr with ⟨gz, cz, zs, rfl, -, hgz, hz, hlen, hin⟩ | ⟨e, -, rfl⟩
   ·have RT := hid H.out.retag
    have KT := hid (RT.out.2.trans (Kt.below B4.out))
    have DO := hid (does_clay bb _ V p g c n gz cz ls zs w4 (RT.out.1.below B4.out) (HG.out.kt KT.out) (HL.out.kt KT.out GL.out) HN.out hz (by have := okJ hlen; omega) hin (if_neg (by have := Nat.le_trans (bal B3.out _).size hgz; omega)))
    have cd : w4.cell? ⟨w3.heap.size, 1, none⟩ = some (.func (.func 77) #[] #[]) := cell_up (by exact cells_new w3 _ _ 1) hb
    clear hb hz hgz hlen hin
    go_wp2_with fail
    refine DO.out.mono ?_
    rintro r w5 ⟨ev, tag', rfl, d1, d2, d3⟩
    have D := hid (show DoA w4 bb (tagC tag w.heap.size) (lvS g c ls) ls.length n (.returned ev) w5 from ⟨ev, tag', rfl, d1, d2, d3⟩)
    clear d1 d2 d3 DO
    go_wp2_with fail
    go_ret
    exact DoA.kt KT.out (Nat.le_refl _) id D.out
   ·clear hb
    go_wp2_with fail
    go_ret
    exact DoA.no B4.out
  ·have CF := hid (fun W (hb : Below w3.heap.size w3 W) => bthing_any b xo (cap - 1) ts W (StrsAt.below' S3.out hb) HC.out Z3.out Z2.out)
   go_wp2_with (first | ((with_reducible (show wpList _ _ _ (⟨_, Op.lookup _ _ _ _, _, _, _, _⟩ :: _) _ _)); refine wp_look rfl _ _ 93 91 rfl Tryz.underlying93 (z := .agg #[.nilFunc, .nilFunc]) (by kernel_rfl) b2 9 f rfl T3.out t0 rfl Z1.out ?_; rw [HF.out]; simp only [Option.getD_some, Option.isSome_some]))
   refine (CF.out _ (bal (Below.refl _ _) _)).mono ?_
   rintro r w4 ⟨hr, hb⟩
   have B4 := hid (btr (bal B3.out _) hb)
   rcases hr with ⟨gz, cz, zs, rfl, -, hgz, hz, hlen, hin⟩ | ⟨e, -, rfl⟩
   ·have RT := hid H.out.retag
    have KT := hid (RT.out.2.trans (Kt.below B4.out))
    have DO := hid (does_make bb _ V p g c n gz cz ls zs w4 (RT.out.1.below B4.out) (HG.out.kt KT.out) (HL.out.kt KT.out GL.out) HN.out hz (hlen) hin (if_neg (by have := Nat.le_trans (bal B3.out _).size hgz; omega)))
    have cd : w4.cell? ⟨w3.heap.size, 1, none⟩ = some (.func (.func 79) #[] #[]) := cell_up (by exact cells_new w3 _ _ 1) hb
    clear hb hz hgz hlen hin
    go_wp2_with fail
    refine DO.out.mono ?_
    rintro r w5 ⟨ev, tag', rfl, d1, d2, d3⟩
    have D := hid (show DoA w4 bb (tagC tag w.heap.size) (lvS g c ls) ls.length n (.returned ev) w5 from ⟨ev, tag', rfl, d1, d2, d3⟩)
    clear d1 d2 d3 DO
    go_wp2_with fail
    go_ret
    exact DoA.kt KT.out (Nat.le_refl _) id D.out
   ·clear hb
    go_wp2_with fail
    go_ret
    exact DoA.no B4.out
  ·obtain ⟨rd, ⟨cb, mb, -, -, rfl, h1, h2⟩, rfl⟩ := OV
   have CF := hid (fun W (hb : Below w3.heap.size w3 W) => (countedF_any _ cb mb b xo (cap - 1) 4 ts W (.inl rfl) (cell_up h1 hb) (cell_up h2 hb) (StrsAt.below' S3.out hb) Z3.out).mono fun _ _ h => And.intro h.1 h.2.2)
   clear h1 h2
   go_wp2_with (first | ((with_reducible (show wpList _ _ _ (⟨_, Op.lookup _ _ _ _, _, _, _, _⟩ :: _) _ _)); refine wp_look rfl _ _ 93 91 rfl Tryz.underlying93 (z := .agg #[.nilFunc, .nilFunc]) (by kernel_rfl) b2 9 f rfl T3.out t0 rfl Z1.out ?_; rw [HF.out]; simp only [Option.getD_some, Option.isSome_some]))
   refine (CF.out _ (bal (Below.refl _ _) _)).mono ?_
   rintro r w4 ⟨hr, hb⟩
   have B4 := hid (btr (bal B3.out _) hb)
   rcases hr with ⟨gz, cz, zs, rfl, -, hgz, hz, hlen, hin⟩ | ⟨e, -, rfl⟩
   ·have RT := hid H.out.retag
    have KT := hid (RT.out.2.trans (Kt.below B4.out))
    have DO := hid (does_copy bb _ V p g c n gz cz ls zs w4 (RT.out.1.below B4.out) (HG.out.kt KT.out) (HL.out.kt KT.out GL.out) HN.out hz (by have := okJ hlen; omega) hin (if_neg (by have := Nat.le_trans (bal B3.out _).size hgz; omega)))
    have cd : w4.cell? ⟨w3.heap.size, 1, none⟩ = some (.func (.func 80) #[] #[]) := cell_up (by exact cells_new w3 _ _ 1) hb
    clear hb hz hgz hlen hin
    go_wp2_with fail
    refine DO.out.mono ?_
    rintro r w5 ⟨ev, tag', rfl, d1, d2, d3⟩
    have D := hid (show DoA w4 bb (tagC tag w.heap.size) (lvS g c ls) ls.length n (.returned ev) w5 from ⟨ev, tag', rfl, d1, d2, d3⟩)
    clear d1 d2 d3 DO
    go_wp2_with fail
    go_ret
    exact DoA.kt KT.out (Nat.le_refl _) id D.out
   ·clear hb
    go_wp2_with fail
    go_ret
    exact DoA.no B4.out
  ·obtain ⟨rd, ⟨cb, mb, -, -, rfl, h1, h2⟩, rfl⟩ := OV
   have CF := hid (fun W (hb : Below w3.heap.size w3 W) => (countedF_any _ cb mb b xo (cap - 1) 3 ts W (.inl rfl) (cell_up h1 hb) (cell_up h2 hb) (StrsAt.below' S3.out hb) Z3.out).mono fun _ _ h => And.intro h.1 h.2.2)
   clear h1 h2
   go_wp2_with (first | ((with_reducible (show wpList _ _ _ (⟨_, Op.lookup _ _ _ _, _, _, _, _⟩ :: _) _ _)); refine wp_look rfl _ _ 93 91 rfl Tryz.underlying93 (z := .agg #[.nilFunc, .nilFunc]) (by kernel_rfl) b2 9 f rfl T3.out t0 rfl Z1.out ?_; rw [HF.out]; simp only [Option.getD_some, Option.isSome_some]))
   refine (CF.out _ (bal (Below.refl _ _) _)).mono ?_
   rintro r w4 ⟨hr, hb⟩
   have B4 := hid (btr (bal B3.out _) hb)
   rcases hr with ⟨gz, cz, zs, rfl, -, hgz, hz, hlen, hin⟩ | ⟨e, -, rfl⟩
   ·have RT := hid H.out.retag
    have KT := hid (RT.out.2.trans (Kt.below B4.out))
    have DO := hid (does_put bb _ V p g c n gz cz ls zs w4 (RT.out.1.below B4.out) (HG.out.kt KT.out) (HL.out.kt KT.out GL.out) HN.out hz (by have := okJ hlen; omega) hin (if_neg (by have := Nat.le_trans (bal B3.out _).size hgz; omega)))
    have cd : w4.cell? ⟨w3.heap.size, 1, none⟩ = some (.func (.func 81) #[] #[]) := cell_up (by exact cells_new w3 _ _ 1) hb
    clear hb hz hgz hlen hin
    go_wp2_with fail
    refine DO.out.mono ?_
    rintro r w5 ⟨ev, tag', rfl, d1, d2, d3⟩
    have D := hid (show DoA w4 bb (tagC tag w.heap.size) (lvS g c ls) ls.length n (.returned ev) w5 from ⟨ev, tag', rfl, d1, d2, d3⟩)
    clear d1 d2 d3 DO
    go_wp2_with fail
    go_ret
    exact DoA.kt KT.out (Nat.le_refl _) id D.out
   ·clear hb
    go_wp2_with fail
    go_ret
    exact DoA.no B4.out
  ·obtain ⟨rd, ⟨cb, mb, -, -, rfl, h1, h2⟩, rfl⟩ := OV
   have CF := hid (fun W (hb : Below w3.heap.size w3 W) => (countedF_any _ cb mb b xo (cap - 1) 1 ts W (.inl rfl) (cell_up h1 hb) (cell_up h2 hb) (StrsAt.below' S3.out hb) Z3.out).mono fun _ _ h => And.intro h.1 h.2.2)
   clear h1 h2
   go_wp2_with (first | ((with_reducible (show wpList _ _ _ (⟨_, Op.lookup _ _ _ _, _, _, _, _⟩ :: _) _ _)); refine wp_look rfl _ _ 93 91 rfl Tryz.underlying93 (z := .agg #[.nilFunc, .nilFunc]) (by kernel_rfl) b2 9 f rfl T3.out t0 rfl Z1.out ?_; rw [HF.out]; simp only [Option.getD_some, Option.isSome_some]))
   refine (CF.out _ (bal (Below.refl _ _) _)).mono ?_
   rintro r w4 ⟨hr, hb⟩
   have B4 := hid (btr (bal B3.out _) hb)
   rcases hr with ⟨gz, cz, zs, rfl, -, hgz, hz, hlen, hin⟩ | ⟨e, -, rfl⟩
   ·have RT := hid H.out.retag
    have KT := hid (RT.out.2.trans (Kt.below B4.out))
    have DO := hid (does_code bb _ V p g c n gz cz ls zs w4 (RT.out.1.below B4.out) (HG.out.kt KT.out) (HL.out.kt KT.out GL.out) HN.out hz (by have := okJ hlen; omega) hin (if_neg (by have := Nat.le_trans (bal B3.out _).size hgz; omega)))
    have cd : w4.cell? ⟨w3.heap.size, 1, none⟩ = some (.func (.func 82) #[] #[]) := cell_up (by exact cells_new w3 _ _ 1) hb
    clear hb hz hgz hlen hin
    go_wp2_with fail
    refine DO.out.mono ?_
    rintro r w5 ⟨ev, tag', rfl, d1, d2, d3⟩
    have D := hid (show DoA w4 bb (tagC tag w.heap.size) (lvS g c ls) ls.length n (.returned ev) w5 from ⟨ev, tag', rfl, d1, d2, d3⟩)
    clear d1 d2 d3 DO
    go_wp2_with fail
    go_ret
    exact DoA.kt KT.out (Nat.le_refl _) id D.out
   ·clear hb
    go_wp2_with fail
    go_ret
    exact DoA.no B4.out
  ·obtain ⟨rd, ⟨cb, mb, -, -, rfl, h1, h2⟩, rfl⟩ := OV
   have CF := hid (fun W (hb : Below w3.heap.size w3 W) => (countedF_any _ cb mb b xo (cap - 1) 4 ts W (.inl rfl) (cell_up h1 hb) (cell_up h2 hb) (StrsAt.below' S3.out hb) Z3.out).mono fun _ _ h => And.intro h.1 h.2.2)
   clear h1 h2
   go_wp2_with (first | ((with_reducible (show wpList _ _ _ (⟨_, Op.lookup _ _ _ _, _, _, _, _⟩ :: _) _ _)); refine wp_look rfl _ _ 93 91 rfl Tryz.underlying93 (z := .agg #[.nilFunc, .nilFunc]) (by kernel_rfl) b2 9 f rfl T3.out t0 rfl Z1.out ?_; rw [HF.out]; simp only [Option.getD_some, Option.isSome_some]))
   refine (CF.out _ (bal (Below.refl _ _) _)).mono ?_
   rintro r w4 ⟨hr, hb⟩
   have B4 := hid (btr (bal B3.out _) hb)
   rcases hr with ⟨gz, cz, zs, rfl, -, hgz, hz, hlen, hin⟩ | ⟨e, -, rfl⟩
   ·have RT := hid H.out.retag
    have KT := hid (RT.out.2.trans (Kt.below B4.out))
    have DO := hid (does_enter bb _ V p g c n gz cz ls zs w4 (RT.out.1.below B4.out) (HG.out.kt KT.out) (HL.out.kt KT.out GL.out) HN.out hz (by have := okJ hlen; omega) hin (if_neg (by have := Nat.le_trans (bal B3.out _).size hgz; omega)))
    have cd : w4.cell? ⟨w3.heap.size, 1, none⟩ = some (.func (.func 83) #[] #[]) := cell_up (by exact cells_new w3 _ _ 1) hb
    clear hb hz hgz hlen hin
    go_wp2_with fail
    refine DO.out.mono ?_
    rintro r w5 ⟨ev, tag', rfl, d1, d2, d3⟩
    have D := hid (show DoA w4 bb (tagC tag w.heap.size) (lvS g c ls) ls.length n (.returned ev) w5 from ⟨ev, tag', rfl, d1, d2, d3⟩)
    clear d1 d2 d3 DO
    go_wp2_with fail
    go_ret
    exact DoA.kt KT.out (Nat.le_refl _) id D.out
   ·clear hb
    go_wp2_with fail
    go_ret
    exact DoA.no B4.out
  ·obtain ⟨rd, ⟨cb, mb, -, -, rfl, h1, h2⟩, rfl⟩ := OV
   have CF := hid (fun W (hb : Below w3.heap.size w3 W) => (countedF_any _ cb mb b xo (cap - 1) 7 ts W (.inl rfl) (cell_up h1 hb) (cell_up h2 hb) (StrsAt.below' S3.out hb) Z3.out).mono fun _ _ h => And.intro h.1 h.2.2)
   clear h1 h2
   go_wp2_with (first | ((with_reducible (show wpList _ _ _ (⟨_, Op.lookup _ _ _ _, _, _, _, _⟩ :: _) _ _)); refine wp_look rfl _ _ 93 91 rfl Tryz.underlying93 (z := .agg #[.nilFunc, .nilFunc]) (by kernel_rfl) b2 9 f rfl T3.out t0 rfl Z1.out ?_; rw [HF.out]; simp only [Option.getD_some, Option.isSome_some]))
   refine (CF.out _ (bal (Below.refl _ _) _)).mono ?_
   rintro r w4 ⟨hr, hb⟩
   have B4 := hid (btr (bal B3.out _) hb)
   rcases hr with ⟨gz, cz, zs, rfl, -, hgz, hz, hlen, hin⟩ | ⟨e, -, rfl⟩
   ·have RT := hid H.out.retag
    have KT := hid (RT.out.2.trans (Kt.below B4.out))
    have DO := hid (does_equip bb _ V p g c n gz cz ls zs w4 (RT.out.1.below B4.out) (HG.out.kt KT.out) (HL.out.kt KT.out GL.out) HN.out hz (by have := okJ hlen; omega) hin (if_neg (by have := Nat.le_trans (bal B3.out _).size hgz; omega)))
    have cd : w4.cell? ⟨w3.heap.size, 1, none⟩ = some (.func (.func 84) #[] #[]) := cell_up (by exact cells_new w3 _ _ 1) hb
    clear hb hz hgz hlen hin
    go_wp2_with fail
    refine DO.out.mono ?_
    rintro r w5 ⟨ev, tag', rfl, d1, d2, d3⟩
    have D := hid (show DoA w4 bb (tagC tag w.heap.size) (lvS g c ls) ls.length n (.returned ev) w5 from ⟨ev, tag', rfl, d1, d2, d3⟩)
    clear d1 d2 d3 DO
    go_wp2_with fail
    go_ret
    exact DoA.kt KT.out (Nat.le_refl _) id D.out
   ·clear hb
    go_wp2_with fail
    go_ret
    exact DoA.no B4.out
  ·obtain ⟨rd, ⟨cb, mb, -, -, rfl, h1, h2⟩, rfl⟩ := OV
   have CF := hid (fun W (hb : Below w3.heap.size w3 W) => (countedF_any _ cb mb b xo (cap - 1) 1 ts W (.inl rfl) (cell_up h1 hb) (cell_up h2 hb) (StrsAt.below' S3.out hb) Z3.out).mono fun _ _ h => And.intro h.1 h.2.2)
   clear h1 h2
   go_wp2_with (first | ((with_reducible (show wpList _ _ _ (⟨_, Op.lookup _ _ _ _, _, _, _, _⟩ :: _) _ _)); refine wp_look rfl _ _ 93 91 rfl Tryz.underlying93 (z := .agg #[.nilFunc, .nilFunc]) (by kernel_rfl) b2 9 f rfl T3.out t0 rfl Z1.out ?_; rw [HF.out]; simp only [Option.getD_some, Option.isSome_some]))
   refine (CF.out _ (bal (Below.refl _ _) _)).mono ?_
   rintro r w4 ⟨hr, hb⟩
   have B4 := hid (btr (bal B3.out _) hb)
   rcases hr with ⟨gz, cz, zs, rfl, -, hgz, hz, hlen, hin⟩ | ⟨e, -, rfl⟩
   ·have RT := hid H.out.retag
    have KT := hid (RT.out.2.trans (Kt.below B4.out))
    have DO := hid (does_start bb _ V p g c n gz cz ls zs w4 (RT.out.1.below B4.out) (HG.out.kt KT.out) (HL.out.kt KT.out GL.out) HN.out hz (by have := okJ hlen; omega) hin (if_neg (by have := Nat.le_trans (bal B3.out _).size hgz; omega)))
    have cd : w4.cell? ⟨w3.heap.size, 1, none⟩ = some (.func (.func 85) #[] #[]) := cell_up (by exact cells_new w3 _ _ 1) hb
    clear hb hz hgz hlen hin
    go_wp2_with fail
    refine DO.out.mono ?_
    rintro r w5 ⟨ev, tag', rfl, d1, d2, d3⟩
    have D := hid (show DoA w4 bb (tagC tag w.heap.size) (lvS g c ls) ls.length n (.returned ev) w5 from ⟨ev, tag', rfl, d1, d2, d3⟩)
    clear d1 d2 d3 DO
    go_wp2_with fail
    go_ret
    exact DoA.kt KT.out (Nat.le_refl _) id D.out
   ·clear hb
    go_wp2_with fail
    go_ret
    exact DoA.no B4.out
end Go.Proofs.YtkocmkaeaagbaaaGreatDoor.Wd
namespace Go.Proofs.YtkocmkaeaagbaaaGreatDoor.Wd
open Go.RowKit Go.Proofs.YtkocmkaeaagbaaaGreatDoor.Mem Go.Proofs.YtkocmkaeaagbaaaGreatDoor.Bw Go.Proofs.YtkocmkaeaagbaaaGreatDoor.Nums Go.Proofs.YtkocmkaeaagbaaaGreatDoor.Hex Go.Proofs.YtkocmkaeaagbaaaGreatDoor.Prs Go.Proofs.YtkocmkaeaagbaaaGreatDoor.Mmu
def oneB : ByteArray := ⟨#[119, 111, 114, 108, 100, 32, 50, 32, 49, 32, 48]⟩
theorem one_cut : cutB 32 oneB = [wdB, ⟨#[50]⟩, ⟨#[49]⟩, ⟨#[48]⟩] := by kernel_rfl
theorem one_nb : (nbV ⟨#[50]⟩ = (2, true) ∧ nbV ⟨#[49]⟩ = (1, true)) ∧ nbV ⟨#[48]⟩ = (0, true) := ⟨⟨by kernel_rfl, by kernel_rfl⟩, by kernel_rfl⟩
/-- What the first order's reader answers. -/
def Rd3 (w w' : World) (ts : List ByteArray) (r : Ending) : Prop := (∃ g c, r = .returned (.tuple #[.slice (some ⟨g, 0, none⟩) ts.length c, .nilIface]) ∧ ts.length ≤ c ∧ w.heap.size ≤ g ∧ IntsAt w' g 0 (ts.map fun t => (nbV t).1) ∧ 3 ≤ ts.length) ∨ ∃ e, r = .returned (.tuple #[.slice none 0 0, .iface 29 (.int .i64 e)]) ∧ ((∃ t ∈ ts, (nbV t).2 = false) ∨ ts.length < 3)
set_option maxRecDepth 100000 in
set_option maxHeartbeats 2000000 in
theorem counted3 (cb mb xb xo cap : Nat) (ts : List ByteArray) (w : World) (h1 : w.cell? ⟨cb, 0, none⟩ = some (.func (.func 112) #[] #[.pointer (some ⟨mb, 0, none⟩)])) (h2 : w.cell? ⟨mb, 0, none⟩ = some (.int .i64 3)) (hS : StrsAt w xb xo ts) (hl : ts.length ≤ 100000) :
  Calls Tryz.prog 150 #[.slice (some ⟨xb, xo, none⟩) ts.length cap, .pointer (some ⟨cb, 0, none⟩)] w fun r w' => Rd3 w w' ts r ∧ Below w.heap.size w w' := by
 have NA := hid (bootNumbers_any xb xo cap ts w hS hl)
 have H1 := hid h1
 have H2 := hid h2
 clear hS h1 h2
 have hl2 : (ts.length : Int) ≤ 100000 := by omega
 go_enter Tryz.func150, Tryz.ntmps150
 go_wp2_with fail
 refine NA.out.mono ?_
 rintro r w1 ⟨hb, h⟩
 have B1 := hid hb
 have HA := hid h
 have c1 := cell_up H1.out hb
 have FT := hid (fits_any 112 mb ts.length 3 w1 (.inr rfl) (cell_up H2.out hb))
 clear hb h NA H1 H2
 rcases HA.out with ⟨g, c, rfl, a0, a1, a2, a3⟩ | ⟨rfl, hx⟩
 ·have X0 := hid a0
  have X1 := hid a1
  have X2 := hid a2
  clear a0 a1 a2 a3 HA
  have HO := hid (show okN 112 3 ts.length = decide ((3 : Int) ≤ (ts.length : Int)) from if_neg (by decide))
  by_cases h3 : 3 ≤ ts.length
  ·rw [HO.out, decide_eq_true (by omega)] at FT
   have H3 := hid h3
   clear h3
   go_wp2_with fail
   refine FT.out.mono ?_
   rintro r w2 ⟨rfl, rfl⟩
   go_wp2_with fail
   go_ret2
   exact ⟨Or.inl ⟨g, c, rfl, X0.out, X1.out, X2.out, H3.out⟩, B1.out⟩
  ·rw [HO.out, decide_eq_false (by omega)] at FT
   have H3 := hid h3
   clear h3
   go_wp2_with fail
   refine FT.out.mono ?_
   rintro r w2 ⟨rfl, rfl⟩
   go_wp2_with fail
   go_ret2
   exact ⟨Or.inr ⟨10, rfl, .inr (by have := H3.out; omega)⟩, B1.out⟩
 ·have HX := hid hx
  clear HA hx
  go_wp2_with fail
  go_ret2
  exact ⟨Or.inr ⟨1, rfl, .inl HX.out⟩, B1.out⟩
end Go.Proofs.YtkocmkaeaagbaaaGreatDoor.Wd
namespace Go.Proofs.YtkocmkaeaagbaaaGreatDoor.Wd
open Go.RowKit Go.Proofs.YtkocmkaeaagbaaaGreatDoor.Mem Go.Proofs.YtkocmkaeaagbaaaGreatDoor.Bw Go.Proofs.YtkocmkaeaagbaaaGreatDoor.Nums Go.Proofs.YtkocmkaeaagbaaaGreatDoor.Hex Go.Proofs.YtkocmkaeaagbaaaGreatDoor.Prs Go.Proofs.YtkocmkaeaagbaaaGreatDoor.Mmu
theorem rd_one {ts : List ByteArray} (h : ts = [⟨#[50]⟩, ⟨#[49]⟩, ⟨#[48]⟩]) : (ts.map fun t => (nbV t).1) = [2, 1, 0] ∧ ¬ ((∃ t ∈ ts, (nbV t).2 = false) ∨ ts.length < 3) := by
 obtain ⟨⟨h1, h2⟩, h3⟩ := one_nb
 subst h
 refine ⟨by simp [h1, h2, h3], ?_⟩
 rintro (⟨t, ht, e⟩ | e)
 ·simp at ht
  rcases ht with rfl | rfl | rfl
  ·rw [h1] at e; cases e
  ·rw [h2] at e; cases e
  ·rw [h3] at e; cases e
 ·simp at e
set_option maxRecDepth 100000 in
set_option maxHeartbeats 16000000 in
theorem obey_new (bb : Nat) (g c n : Nat) (ls : List ByteArray) (s : ByteArray) (w : World) (h : Bz w bb (lvS g c ls) n) (hG : Gl w (tg1 bb)) (hs : s.size ≤ 4000) :
  Calls Tryz.prog 18 #[.pointer (some ⟨bb, 0, none⟩), .string s] w fun r w' => DoA w bb (tg1 bb) (lvS g c ls) ls.length n r w' ∧ Gd (s = oneB) r := by
 have SP := hid (split_cap s 32 w (by omega) hG.m)
 obtain ⟨t0, ts, hcut⟩ := cutB_cons s
 rw [hcut] at SP
 obtain ⟨z1, z2, z3⟩ := words_size hcut
 have ON := hid (show s = oneB → t0 = wdB ∧ ts = [⟨#[50]⟩, ⟨#[49]⟩, ⟨#[48]⟩] from fun e => by rw [e, one_cut] at hcut; exact ⟨(List.cons.inj hcut).1.symm, (List.cons.inj hcut).2.symm⟩)
 have H := hid h
 have Z1 := hid (show t0.size ≤ maxLen by unfold maxLen; omega)
 have Z3 := hid (show ts.length ≤ 100000 by omega)
 have KK := hid (show w.cell? ⟨bb, 1, none⟩ = some (.slice none 0 0) from range_cell h.r (k := 1) rfl)
 clear h hG hs hcut z1 z2 z3
 go_enter Tryz.func18, Tryz.ntmps18
 go_wp2_with fail
 refine SP.out.mono ?_
 rintro r w1 ⟨b, cap, rfl, hS, hb, hc⟩
 obtain ⟨xo, hxo, hS2⟩ := others hS hc
 have c0 := hS 0 (by simp)
 rw [List.length_cons] at hc ⊢
 simp only [Nat.zero_add, List.getElem_cons_zero] at c0
 have i0 : (0 : Int) < ((ts.length + 1 : Nat) : Int) := by omega
 have i1 : (1 : Int) ≤ ((ts.length + 1 : Nat) : Int) := by omega
 have i2 : ((ts.length + 1 : Nat) : Int) ≤ (cap : Int) := by omega
 have S1 := hid hS2
 have B1 := hid hb
 have XO := hid hxo
 generalize hlen : ts.length + 1 = L at *
 have LE := hid hlen
 clear hS hS2 hb hxo hlen SP
 go_wp2_with fail
 go_quiet (fail)
 have B2 := hid (below_drewN B1.out nq)
 have S2 := hid (StrsAt.below' S1.out (below_drewN (Below.refl _ _) nq))
 rw [XO.out, show L - 1 = ts.length by have := LE.out; omega]
 generalize w1.drewN nq = w2 at *
 have MC := hid (mayCome_any bb _ _ 0 t0 w2 (cell_up KK.out B2.out))
 rw [decide_eq_false (by decide), mcE_new] at MC
 clear c0 S1 B1 XO i0 i1 i2 hc LE
 by_cases hw : t0 = wdB
 rotate_left
 ·rw [if_neg hw, eV_n (by decide)] at MC
  have HW := hid hw
  clear hw
  go_wp2_with fail
  refine MC.out.mono ?_
  rintro r w' ⟨rfl, rfl⟩
  go_wp2_with fail
  go_ret
  exact ⟨DoA.no B2.out, gd_no (fun e => HW.out (ON.out e).1)⟩
 rw [if_pos hw, eV_0] at MC
 have HW := hid hw
 clear hw
 go_wp2_with fail
 refine MC.out.mono ?_
 rintro r w' ⟨rfl, rfl⟩
 clear MC
 go_wp2_with fail
 refine (orders_any w2).mono ?_
 rintro r w3 ⟨⟨b2, f, rfl, hT, hO, hne⟩, hb⟩
 have T3 := hid hT
 have O3 := hid (hO t0)
 have NE := hid (show f t0 ≠ none by rw [HW.out]; exact hne)
 have B3 := hid (btr B2.out hb)
 have S3 := hid (StrsAt.below' S2.out hb)
 clear hT hO hb S2 B2 hne
 cases hf : f t0 with
 | none => exact absurd hf NE.out
 | some v =>
  have OV := O3.out v hf
  have HF := hid hf
  clear hf O3 NE
  rw [HW.out] at OV
  rcases OV with ⟨-, OV⟩ | ⟨e, -⟩ | ⟨e, -⟩ | ⟨e, -⟩ | ⟨e, -⟩ | ⟨e, -⟩ | ⟨e, -⟩ | ⟨e, -⟩ | ⟨e, -⟩
  rotate_left
  all_goals try (exact absurd e (by decide))
  obtain ⟨rd, ⟨cb, mb, -, -, rfl, h1, h2⟩, rfl⟩ := OV
  have CF := hid (fun W (hb : Below w3.heap.size w3 W) => counted3 cb mb b xo (cap - 1) ts W (cell_up h1 hb) (cell_up h2 hb) (StrsAt.below' S3.out hb) Z3.out)
  clear h1 h2
  go_wp2_with (first | ((with_reducible (show wpList _ _ _ (⟨_, Op.lookup _ _ _ _, _, _, _, _⟩ :: _) _ _)); refine wp_look rfl _ _ 93 91 rfl Tryz.underlying93 (z := .agg #[.nilFunc, .nilFunc]) (by kernel_rfl) b2 9 f rfl T3.out t0 rfl Z1.out ?_; rw [HF.out]; simp only [Option.getD_some, Option.isSome_some]))
  refine (CF.out _ (bal (Below.refl _ _) _)).mono ?_
  rintro r w4 ⟨hr, hb⟩
  have B4 := hid (btr (bal B3.out _) hb)
  rcases hr with ⟨gz, cz, rfl, hcz, hgz, hz, hlen⟩ | ⟨e, rfl, hbad⟩
  ·obtain ⟨x, y, zs, hzs⟩ : ∃ x y zs, (ts.map fun t => (nbV t).1) = x :: y :: zs := by
    have hl2 : 3 ≤ (ts.map fun t => (nbV t).1).length := by rw [List.length_map]; exact hlen
    match hm : ts.map fun t => (nbV t).1, hl2 with
    | x :: y :: zs, _ => exact ⟨x, y, zs, rfl⟩
   have hl3 : ts.length = zs.length + 2 := by have := congrArg List.length hzs; simpa using this
   have OG := hid (show s = oneB → newG x y zs from fun e => by
    have e2 := (rd_one (ON.out e).2).1
    rw [hzs] at e2
    simp at e2
    exact e2)
   rw [hzs] at hz
   have DO := hid (bbegin_any bb (lvS g c ls) n ls.length gz cz ts.length x y zs w4 (H.out.below B4.out) (hz 0 (by simp)) (hz 1 (by simp)) (fun j hj => by have := hz (j + 2) (by simp; omega); rw [show 2 + j = 0 + (j + 2) by omega]; exact this) hl3 (by omega) (by have := Z3.out; omega) hcz)
   have cd : w4.cell? ⟨w3.heap.size, 1, none⟩ = some (.func (.func 75) #[] #[]) := cell_up (by exact cells_new w3 _ _ 1) hb
   clear hb hz hgz hlen hcz hl3 hzs
   go_wp2_with fail
   refine DO.out.mono ?_
   rintro r w5 ⟨⟨ev, tag', rfl, d1, d2, d3⟩, d4⟩
   have D := hid (show DoA w4 bb (tg1 bb) (lvS g c ls) ls.length n (.returned ev) w5 from ⟨ev, tag', rfl, d1, d2, d3⟩)
   have E := hid d4
   clear d1 d2 d3 d4 DO
   go_wp2_with fail
   go_ret
   exact ⟨DoA.pre D.out B4.out, fun e => E.out (OG.out e)⟩
  ·have HB := hid hbad
   clear hb hbad
   go_wp2_with fail
   go_ret
   exact ⟨DoA.no B4.out, gd_no (fun e => (rd_one (ON.out e).2).2 HB.out)⟩
end Go.Proofs.YtkocmkaeaagbaaaGreatDoor.Wd
