/- Reading instructions: a line, labels, isa.Parse; walked. (From the texts of stage 1.) -/
import Derived.Test.YtkocmkaeaagbaaaGreatDoorQbg
namespace Go.Proofs.YtkocmkaeaagbaaaGreatDoor.Prs
open Go.RowKit Go.Maps Go.Proofs.YtkocmkaeaagbaaaGreatDoor.Mem Go.Proofs.YtkocmkaeaagbaaaGreatDoor.Bw Go.Proofs.YtkocmkaeaagbaaaGreatDoor.Nums Go.Proofs.YtkocmkaeaagbaaaGreatDoor.Wd Go.Proofs.YtkocmkaeaagbaaaGreatDoor.Hex Go.Proofs.YtkocmkaeaagbaaaGreatDoor.Isa Go.Proofs.YtkocmkaeaagbaaaGreatDoor.Txt Go.Proofs.YtkocmkaeaagbaaaGreatDoor.Prs
def insA (q : Int × Int × Int × Int) : Value := .agg #[.int .i64 q.1, .int .i64 q.2.1, .int .i64 q.2.2.1, .int .i64 q.2.2.2]
theorem NamesAt.below {w w' : World} (h : NamesAt w) (hb : Below w.heap.size w w') : NamesAt w' := fun k hk => cellB (h k hk) hb
theorem cutB_cons (s : ByteArray) : ∃ x r, cutB 32 s = x :: r := by
 have : cutB 32 s ≠ [] := by unfold cutB; simp [cutL_ne]
 cases h : cutB 32 s with
 | nil => exact absurd h this
 | cons x r => exact ⟨x, r, rfl⟩
theorem line_op {f m : ByteArray → Int × Int} {x : ByteArray} {r : List ByteArray} (h : opN x = 15) : lineR f m (x :: r) = (13, 0, 0, 0, 0) := by rw [lineR, if_pos h]
theorem line_err {f m : ByteArray → Int × Int} {x : ByteArray} {r : List ByteArray} {o : Nat} {G : Got} (ho : opN x = o) (h : o ≠ 15) (hG : partsR f m (IP.hA o) (IP.hB o) (IP.hC o) r = G) (he : G.err ≠ 0) : lineR f m (x :: r) = (G.err, 0, 0, 0, 0) := by
 rw [lineR, ho, if_neg h, hG, if_pos he]
theorem line_left {f m : ByteArray → Int × Int} {x : ByteArray} {r : List ByteArray} {o : Nat} {G : Got} (ho : opN x = o) (h : o ≠ 15) (hG : partsR f m (IP.hA o) (IP.hB o) (IP.hC o) r = G) (he : G.err = 0) (hl : G.left ≠ []) : lineR f m (x :: r) = (1, 0, 0, 0, 0) := by
 rw [lineR, ho, if_neg h, hG, if_neg (by simpa using he), if_pos hl]
theorem line_ok {f m : ByteArray → Int × Int} {x : ByteArray} {r : List ByteArray} {o : Nat} {G : Got} (ho : opN x = o) (h : o ≠ 15) (hG : partsR f m (IP.hA o) (IP.hB o) (IP.hC o) r = G) (he : G.err = 0) (hl : G.left = []) : lineR f m (x :: r) = (0, (o : Int), G.a, G.b, G.i) := by
 rw [lineR, ho, if_neg h, hG, if_neg (by simpa using he), if_neg (by simpa using hl)]
set_option maxHeartbeats 4000000 in
theorem parseLine_any (s : ByteArray) (b n : Nat) (D : DataW Unit) (w : World) (hD : MapAt w b n D) (hM : MLok w) (hN : NamesAt w) (hs : s.size ≤ 100000) :
  Calls Tryz.prog 202 #[.string s, .map (some b)] w fun e w' => e = .returned (.tuple #[insA (insR D s).2, errV (insR D s).1]) ∧ Below w.heap.size w w' := by
 have hbw : b < w.heap.size := hD.lt
 have hGw : 3 < w.heap.size := by obtain ⟨_, h⟩ := hM; exact World.block_lt_of_cell? _ _ h
 have HD := hid hD
 have HM := hid hM
 have HN := hid hN
 have HS := hid hs
 obtain ⟨x, rs, hx⟩ := cutB_cons s
 have HX := hid hx
 have HI := hid (show insR D s = lineR regV (immR D) (x :: rs) by unfold insR; rw [hx])
 clear hD hM hN hs hx
 go_enter Tryz.func202, Tryz.ntmps202
 go_wp2_with fail
 have z0 : (w.alloc (.cells #[.int .i64 0, .int .i64 0, .int .i64 0, .int .i64 0] 83)).heap.size = w.heap.size + 1 := by simp
 refine (wordsOf_any s _ HS.out).mono ?_
 rintro e w2 ⟨rfl, hb2, hl2, hs2⟩
 rw [z0] at hl2 hs2
 rw [HX.out] at hl2
 rw [z0]
 have c2 := cells_next (cells_new w #[.int .i64 0, .int .i64 0, .int .i64 0, .int .i64 0] 83) (by rw [z0]; omega) hb2
 have f2 : ∀ o, w2.frozen? ⟨w.heap.size, o, none⟩ = false := fun o => (hb2.frozen (p := ⟨w.heap.size, o, none⟩) (by rw [z0]; show w.heap.size < _; omega)).trans (World.frozen?_alloc_at _ _ _ _ rfl)
 have B2 := hid (btr (bal (Below.refl _ _) _) hb2)
 have L2 := hid hl2
 clear hb2 hl2 z0
 go_wp2_with (go_at_call 230; refine (next_some (w.heap.size + 1 + 1) (w.heap.size + 1) (w.heap.size + 1) x rs _ (HM.out.below B2.out) (by omega) (by omega) (by omega) L2.out).mono ?_; rintro e w3 ⟨rfl, hb3, hl3, hs3, hx3, ho3⟩)
 have c3 : ∀ o, w3.cell? ⟨w.heap.size, o, none⟩ = (#[.int .i64 0, .int .i64 0, .int .i64 0, .int .i64 0] : Array Value)[o]? := fun o => ((hb3.cell (p := ⟨w.heap.size, o, none⟩) (by show w.heap.size < _; omega))).trans (c2 o)
 have f3 : ∀ o, w3.frozen? ⟨w.heap.size, o, none⟩ = false := fun o => ((hb3.frozen (p := ⟨w.heap.size, o, none⟩) (by show w.heap.size < _; omega))).trans (f2 o)
 have B3 := hid (B2.out.trans (hb3.mono (by omega)))
 have L3 := hid hl3
 clear hb3 hl3 ho3 hx3 c2 f2
 refine (opOf_any x _ (HN.out.below B3.out)).mono ?_
 rintro e w4 ⟨rfl, hb4⟩
 have c4 := cells_next c3 (by omega) hb4
 have f4 : ∀ o, w4.frozen? ⟨w.heap.size, o, none⟩ = false := fun o => ((hb4.frozen (p := ⟨w.heap.size, o, none⟩) (by show w.heap.size < _; omega))).trans (f3 o)
 have B4 := hid (btr B3.out hb4)
 have L4 := hid (L3.out.keep hb4 (by omega) (by omega))
 have hs4 : w.heap.size + 3 ≤ w4.heap.size := by have := hb4.size; omega
 clear hb4 c3 f3
 generalize hop : opN x = op
 have HO := hid hop
 unfold opV
 rw [hop]
 clear hop
 have HO15 := opN_le x
 rw [HO.out] at HO15
 by_cases h15 : op = 15
 ·have HV := hid (HI.out.trans (line_op (HO.out.trans h15)))
  rw [if_pos h15]
  clear h15 HO15
  go_wp2_with fail
  have q := four_set (v0 := .int .i64 0) (v1 := .int .i64 0) (v2 := .int .i64 0) (v3 := .int .i64 0) c4
  exact bodyPost_ret (v := .tuple #[insA (0, 0, 0, 0), errV 13]) (by simp [results, Tryz.results202, go_sem, q 0, q 1, q 2, q 3, insA, errV]) rfl ⟨by rw [HV.out], bset (bset (bset (bset B4.out (Nat.le_refl _) _) (Nat.le_refl _) _) (Nat.le_refl _) _) (Nat.le_refl _) _⟩
 ·rw [if_neg h15]
  have ci4 := cells_new w4 #[.int .i64 (op : Int), .int .i64 0, .int .i64 0, .int .i64 0] 83
  have N4 := hid (show Below w4.heap.size w4 (w4.alloc (.cells #[.int .i64 (op : Int), .int .i64 0, .int .i64 0, .int .i64 0] 83)) from bal (Below.refl _ _) _)
  have fi4 : ∀ o, (w4.alloc (.cells #[.int .i64 (op : Int), .int .i64 0, .int .i64 0, .int .i64 0] 83)).frozen? ⟨w4.heap.size, o, none⟩ = false := fun o => World.frozen?_alloc_at _ _ _ _ rfl
  have z5 : (w4.alloc (.cells #[.int .i64 (op : Int), .int .i64 0, .int .i64 0, .int .i64 0] 83)).heap.size = w4.heap.size + 1 := by simp
  have c5 := cells_next c4 (by omega) N4.out
  have f5 : ∀ o, (w4.alloc (.cells #[.int .i64 (op : Int), .int .i64 0, .int .i64 0, .int .i64 0] 83)).frozen? ⟨w.heap.size, o, none⟩ = false := fun o => ((N4.out.frozen (p := ⟨w.heap.size, o, none⟩) (by show w.heap.size < _; omega))).trans (f4 o)
  have B5 := hid (btr B4.out N4.out)
  have L5 := hid (L4.out.keep N4.out (by omega) (by omega))
  have HP := hid (parseParts_any op w4.heap.size (w.heap.size + 1 + 1) (w.heap.size + 1) b n (w.heap.size + 1) D rs _ ci4 fi4 L5.out (HM.out.below B5.out) (HD.out.below B5.out) (by omega) (by omega) (by omega) (by omega) (by omega) (by omega) (by omega) (by omega) (by omega) (by omega) (by omega))
  clear N4 ci4 fi4 L5
  go_wp2_with fail
  refine HP.out.mono ?_
  rintro e w6 ⟨rfl, hb6, hG6⟩
  clear HP
  have c6 : ∀ o, w6.cell? ⟨w.heap.size, o, none⟩ = (#[.int .i64 0, .int .i64 0, .int .i64 0, .int .i64 0] : Array Value)[o]? := fun o => ((hb6.cell (p := ⟨w.heap.size, o, none⟩) (by show w.heap.size < _; omega))).trans (c5 o)
  have f6 : ∀ o, w6.frozen? ⟨w.heap.size, o, none⟩ = false := fun o => ((hb6.frozen (p := ⟨w.heap.size, o, none⟩) (by show w.heap.size < _; omega))).trans (f5 o)
  have B6 := hid (B5.out.trans (hb6.mono (by omega)))
  have z6 : w4.heap.size < w6.heap.size := by have := hb6.size; omega
  clear hb6 c5 f5 c4 f4 z5
  generalize hGG : partsR regV (immR D) (IP.hA op) (IP.hB op) (IP.hC op) rs = G at hG6 ⊢
  have HQ := hid hGG
  clear hGG
  by_cases he : G.err = 0
  ·obtain ⟨hL6, hc6⟩ := hG6 he
   clear hG6
   rw [he, errV_zero]
   have HE := hid he
   have L6 := hid hL6
   clear he hL6
   cases hl : G.left with
   | nil =>
    rw [hl] at L6
    have HV := hid (HI.out.trans (line_ok HO.out h15 HQ.out HE.out hl))
    clear hl h15
    go_wp2_with (go_at_call 230; refine (next_none _ _ _ L6.out).mono ?_; rintro e w7 ⟨rfl, rfl⟩)
    have q := four_set (v0 := .int .i64 (op : Int)) (v1 := .int .i64 G.a) (v2 := .int .i64 G.b) (v3 := .int .i64 G.i) c6
    exact bodyPost_ret (v := .tuple #[insA (op, G.a, G.b, G.i), .nilIface]) (by simp [results, Tryz.results202, go_sem, q 0, q 1, q 2, q 3, insA]) rfl ⟨by rw [HV.out]; rfl, bset (bset (bset (bset B6.out (Nat.le_refl _) _) (Nat.le_refl _) _) (Nat.le_refl _) _) (Nat.le_refl _) _⟩
   | cons y ys =>
    rw [hl] at L6
    have HV := hid (HI.out.trans (line_left HO.out h15 HQ.out HE.out (by rw [hl]; simp)))
    clear hl h15
    go_wp2_with (go_at_call 230; refine (next_some _ _ (w.heap.size + 1) y ys _ (HM.out.below B6.out) (by omega) (by omega) (by omega) L6.out).mono ?_; rintro e w7 ⟨rfl, hb7, hl7, hs7, hx7, ho7⟩; have c7 : ∀ o, w7.cell? ⟨w.heap.size, o, none⟩ = (#[.int .i64 0, .int .i64 0, .int .i64 0, .int .i64 0] : Array Value)[o]? := fun o => ((hb7.cell (p := ⟨w.heap.size, o, none⟩) (by show w.heap.size < _; omega))).trans (c6 o); have f7 : ∀ o, w7.frozen? ⟨w.heap.size, o, none⟩ = false := fun o => ((hb7.frozen (p := ⟨w.heap.size, o, none⟩) (by show w.heap.size < _; omega))).trans (f6 o); have B7 := hid (B6.out.trans (hb7.mono (by omega))); clear hb7 hl7 hs7 hx7 ho7)
    have q := four_set (v0 := .int .i64 0) (v1 := .int .i64 0) (v2 := .int .i64 0) (v3 := .int .i64 0) c7
    exact bodyPost_ret (v := .tuple #[insA (0, 0, 0, 0), errV 1]) (by simp [results, Tryz.results202, go_sem, q 0, q 1, q 2, q 3, insA, errV]) rfl ⟨by rw [HV.out], bset (bset (bset (bset B7.out (Nat.le_refl _) _) (Nat.le_refl _) _) (Nat.le_refl _) _) (Nat.le_refl _) _⟩
  ·clear hG6
   have HV := hid (HI.out.trans (line_err HO.out h15 HQ.out he))
   rw [errV_ne he]
   clear h15
   go_wp2_with fail
   have q := four_set (v0 := .int .i64 0) (v1 := .int .i64 0) (v2 := .int .i64 0) (v3 := .int .i64 0) c6
   exact bodyPost_ret (v := .tuple #[insA (0, 0, 0, 0), .iface 29 (.int .i64 G.err)]) (by simp [results, Tryz.results202, go_sem, q 0, q 1, q 2, q 3, insA]) rfl ⟨by rw [HV.out, errV_ne he], bset (bset (bset (bset B6.out (Nat.le_refl _) _) (Nat.le_refl _) _) (Nat.le_refl _) _) (Nat.le_refl _) _⟩
theorem labN_size (t : ByteArray) : (labN t).size ≤ t.size := by
 have h1 : (labN t).size = (Lib.trimSuffix t.data.toList [58]).length := by simp [labN, ByteArray.size]
 rw [h1, size_list]
 unfold Lib.trimSuffix
 split
 ·rw [List.length_take]; omega
 ·exact Nat.le_refl _
/-- What is known of a line that is right, or of the first that is not. -/
theorem labE_zero {D : DataW Unit} {t : ByteArray} (h : labE D t = 0) : labB t = false ∨ (labB t = true ∧ nameB' (labN t) = true ∧ Maps.has D (str (labN t)) = false) := by
 unfold labE at h
 cases h1 : labB t with
 | false => exact .inl rfl
 | true =>
  rw [h1, if_pos rfl] at h
  cases h2 : nameB' (labN t) with
  | false => rw [h2, if_neg (by decide)] at h; exact absurd h (by decide)
  | true =>
   rw [h2, if_pos rfl] at h
   cases h3 : Maps.has D (str (labN t)) with
   | false => exact .inr ⟨rfl, rfl, rfl⟩
   | true => rw [h3, if_pos rfl] at h; exact absurd h (by decide)
theorem labE_not {D : DataW Unit} {t : ByteArray} (h : labE D t ≠ 0) : (labB t = true ∧ nameB' (labN t) = false ∧ labE D t = 11) ∨ (labB t = true ∧ nameB' (labN t) = true ∧ Maps.has D (str (labN t)) = true ∧ labE D t = 12) := by
 unfold labE at h ⊢
 cases h1 : labB t with
 | false => rw [h1, if_neg (by decide)] at h; exact absurd rfl h
 | true =>
  rw [h1, if_pos rfl] at h
  cases h2 : nameB' (labN t) with
  | false => exact .inl ⟨rfl, rfl, by rw [if_pos rfl, if_neg (by decide)]⟩
  | true =>
   rw [h2, if_pos rfl] at h
   cases h3 : Maps.has D (str (labN t)) with
   | false => rw [h3, if_neg (by decide)] at h; exact absurd rfl h
   | true => exact .inr ⟨rfl, rfl, rfl, by rw [if_pos rfl, if_pos rfl, if_pos rfl]⟩
theorem step_no {q : DataW Unit × Nat} {t : ByteArray} (h : labB t = false) : step q t = (q.1, q.2 + 1) := by unfold step; rw [if_neg (by rw [h]; decide)]
theorem step_yes {q : DataW Unit × Nat} {t : ByteArray} (h : labB t = true) : step q t = (q.1.put (str (labN t)) (.lit (.int .i64 (2 * (q.2 : Int)))), q.2) := by unfold step; rw [if_pos h]
theorem trim_any (t : ByteArray) (w : World) (hs : t.size ≤ 100000) :
  Calls Tryz.prog 217 #[.string t, .string ⟨#[58]⟩] w fun e w' => e = .returned (.string (labN t)) ∧ w = w' :=
 (Tryz.strings_TrimSuffix t ⟨#[58]⟩ w (by omega)).mono fun _ _ h => ⟨h.1, h.2.symm⟩
set_option maxHeartbeats 4000000 in
theorem findLabels_any (ls : List ByteArray) (lb cap m : Nat) (w : World) (hS : StrsAt w lb 0 ls) (hl : ls.length ≤ 100001) (hz : ∀ t ∈ ls, t.size ≤ 100000) (hm : m ≤ ls.length)
  (hv : ∀ j (h : j < ls.length), j < m → labE (upTo ls j).1 ls[j] = 0) (hx : ∀ h : m < ls.length, labE (upTo ls m).1 ls[m] ≠ 0) :
  Calls Tryz.prog 200 #[.slice (some ⟨lb, 0, none⟩) ls.length cap] w fun e w' => Below w.heap.size w w' ∧
   ((m = ls.length ∧ e = .returned (.tuple #[.map (some w.heap.size), .int .i64 (upTo ls m).2, .nilIface]) ∧ MapAt w' w.heap.size m (upTo ls m).1) ∨
    (∃ (h : m < ls.length) (ev : Value), e = .returned (.tuple #[.map none, .int .i64 0, ev]) ∧ Tells w' ev (labE (upTo ls m).1 ls[m]) m)) := by
 have HS := hid hS
 have HZ := hid hz
 have HV := hid hv
 have HX := hid hx
 clear hS hz hv hx
 have hmm := @run_makeMap Tryz.prog
 go_enter Tryz.func200, Tryz.ntmps200
 go_wp2_with fail
 go_loopw [6, 15] (fun v i wr => ∃ k : Nat, k ≤ m ∧ i = .int .i64 k ∧ v = .int .i64 (upTo ls k).2 ∧ MapAt wr w.heap.size k (upTo ls k).1 ∧ Below w.heap.size w wr) (fun _ i _ => ls.length - (intOf i).toNat)
 case atStart => exact ⟨0, by omega, rfl, rfl, World.ownsMap_made _ _ _ _, bal (Below.refl _ _) _⟩
 case round =>
  obtain ⟨k, hk, rfl, rfl, hM, hB⟩ := hrel
  have HM := hid hM
  have HB := hid hB
  clear hM hB
  have hn := upTo_le ls k
  by_cases hlt : k < ls.length
  ·have hlt2 : (k : Int) < (ls.length : Int) := by omega
   have hc := (HS.out.below HB.out) k hlt
   rw [Nat.zero_add] at hc
   have hts := HZ.out ls[k] (List.getElem_mem hlt)
   have HU := hid (upTo_succ ls k hlt)
   have HV1 := hid (HV.out k hlt)
   have HX1 := hid (show k = m → labE (upTo ls k).1 ls[k] ≠ 0 from fun e => by subst e; exact HX.out hlt)
   have HE1 := hid (show ∀ e : k = m, ∀ h : m < ls.length, labE (upTo ls m).1 ls[m] = labE (upTo ls k).1 ls[k] from fun e h => by subst e; rfl)
   generalize ls[k] = t at hc hts HU HV1 HX1 HE1
   generalize upTo ls k = q at hn HM HU HV1 HX1 HE1 ⊢
   by_cases hkm : k < m
   ·have hE := labE_zero (HV1.out hkm)
    rcases hE with hE | ⟨hE1, hE2, hE3⟩
    ·go_wp2_with fail
     refine (isLabel_any t _ hts).mono ?_
     rintro e w1 ⟨rfl, hb1⟩
     have M1 := hid (HM.out.below hb1)
     have B1 := hid (btr HB.out hb1)
     clear hb1
     rw [hE]
     go_wp2_with fail
     refine ⟨⟨k + 1, by omega, by go_num, ?_, ?_, B1.out⟩, by simp [intOf]; omega⟩
     ·rw [HU.out, step_no hE]; go_num
     ·rw [HU.out, step_no hE]; exact World.ownsMap.mono M1.out (by omega)
    ·go_wp2_with fail
     refine (isLabel_any t _ hts).mono ?_
     rintro e w1 ⟨rfl, hb1⟩
     have M1 := hid (HM.out.below hb1)
     have B1 := hid (btr HB.out hb1)
     clear hb1
     rw [hE1]
     go_wp2_with fail
     refine (trim_any t _ hts).mono ?_
     rintro e w' ⟨rfl, rfl⟩
     go_wp2_with fail
     refine (isName_any _ _).mono ?_
     rintro e w2 ⟨rfl, hb2⟩
     have M2 := hid (M1.out.below hb2)
     have B2 := hid (btr B1.out hb2)
     have HK := hid (key_of (labN t) (by have := labN_size t; omega))
     clear hb2
     rw [hE2]
     go_wp2_with (first | (at_lookup; refine wpList_lookup_own_ok_int _ rfl _ _ 120 rfl 9 3 .i64 law Tryz.underlying120 Tryz.underlying3 (zeroE _) w.heap.size k q.1 rfl M2.out _ _ rfl HK.out ?_; intro c hat hwc; clear hat) | (at_mapUpdate; refine wpList_mapUpdate_own _ rfl _ _ _ 120 rfl 9 3 law Tryz.underlying120 _ w.heap.size k q.1 rfl M2.out (by unfold maxLen; omega) _ _ _ rfl rfl HK.out _ [] (plainElem_int Tryz.underlying3 (a := 2 * (q.2 : Int)) (WalkArith.wf_i64 (by omega))) ?_; intro w3 hown3 hgrow3))
     have B3 := hid (B2.out.grown hgrow3 (by have := B2.out.size; omega) (fun j hj => by cases hj; exact Nat.le_refl _))
     refine ⟨⟨k + 1, by omega, by go_num, ?_, ?_, B3.out⟩, by simp [intOf]; omega⟩
     ·rw [HU.out, step_yes hE1]
     ·rw [HU.out, step_yes hE1]; exact hown3
   ·obtain rfl : k = m := by omega
    have hE := labE_not (HX1.out rfl)
    rcases hE with ⟨hE1, hE2, hE9⟩ | ⟨hE1, hE2, hE3, hE9⟩
    ·go_wp2_with fail
     refine (isLabel_any t _ hts).mono ?_
     rintro e w1 ⟨rfl, hb1⟩
     have M1 := hid (HM.out.below hb1)
     have B1 := hid (btr HB.out hb1)
     clear hb1
     rw [hE1]
     go_wp2_with fail
     refine (trim_any t _ hts).mono ?_
     rintro e w' ⟨rfl, rfl⟩
     go_wp2_with fail
     refine (isName_any _ _).mono ?_
     rintro e w2 ⟨rfl, hb2⟩
     have M2 := hid (M1.out.below hb2)
     have B2 := hid (btr B1.out hb2)
     have HK := hid (key_of (labN t) (by have := labN_size t; omega))
     clear hb2
     rw [hE2]
     go_wp2_with fail
     go_ret3
     refine ⟨bal B2.out _, .inr ⟨hlt, _, rfl, ?_⟩⟩
     rw [HE1.out (by trivial) hlt, hE9]
     refine .inr (.inr ⟨w2.heap.size, 0, rfl, World.cell?_alloc_at _ _ _ _ rfl, ?_⟩)
     rw [World.cell?_alloc_at _ _ _ _ rfl]
     rfl
    ·go_wp2_with fail
     refine (isLabel_any t _ hts).mono ?_
     rintro e w1 ⟨rfl, hb1⟩
     have M1 := hid (HM.out.below hb1)
     have B1 := hid (btr HB.out hb1)
     clear hb1
     rw [hE1]
     go_wp2_with fail
     refine (trim_any t _ hts).mono ?_
     rintro e w' ⟨rfl, rfl⟩
     go_wp2_with fail
     refine (isName_any _ _).mono ?_
     rintro e w2 ⟨rfl, hb2⟩
     have M2 := hid (M1.out.below hb2)
     have B2 := hid (btr B1.out hb2)
     have HK := hid (key_of (labN t) (by have := labN_size t; omega))
     clear hb2
     rw [hE2]
     go_wp2_with (at_lookup; refine wpList_lookup_own_ok_int _ rfl _ _ 120 rfl 9 3 .i64 law Tryz.underlying120 Tryz.underlying3 (zeroE _) w.heap.size k q.1 rfl M2.out _ _ rfl HK.out ?_; intro c hat hwc; clear hat)
     go_ret3
     refine ⟨bal B2.out _, .inr ⟨hlt, _, rfl, ?_⟩⟩
     rw [HE1.out (by trivial) hlt, hE9]
     refine .inr (.inr ⟨w2.heap.size, 0, rfl, World.cell?_alloc_at _ _ _ _ rfl, ?_⟩)
     rw [World.cell?_alloc_at _ _ _ _ rfl]
     rfl
  ·obtain rfl : k = ls.length := by omega
   obtain rfl : m = ls.length := by omega
   have hge : ¬ ((ls.length : Int) < (ls.length : Int)) := by omega
   go_wp2_with fail
   go_ret3
   exact ⟨HB.out, .inl ⟨rfl, HM.out⟩⟩
theorem infoIns : (Tryz.prog.info? 83).map (fun i => (i.zero, i.size, i.bytes)) = some (some (.agg #[.int .i64 0, .int .i64 0, .int .i64 0, .int .i64 0]), 4, 32) := by kernel_rfl
def cells4 (l : List (Int × Int × Int × Int)) : List Value := l.flatMap fun q => [.int .i64 q.1, .int .i64 q.2.1, .int .i64 q.2.2.1, .int .i64 q.2.2.2]
theorem cells4_at (l : List (Int × Int × Int × Int)) (j : Nat) (h : j < l.length) : (cells4 l)[j * 4]? = some (.int .i64 l[j].1) ∧ (cells4 l)[j * 4 + 1]? = some (.int .i64 l[j].2.1) ∧ (cells4 l)[j * 4 + 2]? = some (.int .i64 l[j].2.2.1) ∧ (cells4 l)[j * 4 + 3]? = some (.int .i64 l[j].2.2.2) := by
 induction l generalizing j with
 | nil => simp at h
 | cons q l ih =>
  have e : cells4 (q :: l) = .int .i64 q.1 :: .int .i64 q.2.1 :: .int .i64 q.2.2.1 :: .int .i64 q.2.2.2 :: cells4 l := rfl
  rw [e]
  cases j with
  | zero => exact ⟨rfl, rfl, rfl, rfl⟩
  | succ j =>
   have := ih j (by simpa using h)
   have e2 : (j + 1) * 4 = j * 4 + 4 := by omega
   rw [e2]
   exact this
theorem cells4_snoc (l : List (Int × Int × Int × Int)) (q : Int × Int × Int × Int) : cells4 (l ++ [q]) = cells4 l ++ [.int .i64 q.1, .int .i64 q.2.1, .int .i64 q.2.2.1, .int .i64 q.2.2.2] := by
 unfold cells4
 rw [List.flatMap_append]
 rfl
theorem four_new (W : World) (a b c d : Value) (e : TypeId) : ∀ (j : Nat) (x : Value), [a, b, c, d][j]? = some x → (W.alloc (.cells #[a, b, c, d] e)).cell? ((⟨W.heap.size, 0, none⟩ : Addr).add j) = some x := by
 intro j x h
 rw [show (⟨W.heap.size, 0, none⟩ : Addr).add j = ⟨W.heap.size, j, none⟩ from by unfold Addr.add; split <;> simp_all, World.cell?_alloc_at _ _ _ _ rfl]
 rw [← h]
 simp
theorem four_cell (a b c d : Int) : ∀ x ∈ [Value.int .i64 a, .int .i64 b, .int .i64 c, .int .i64 d], x.oneCell' = true := by
 intro x hx
 simp at hx
 rcases hx with rfl | rfl | rfl | rfl <;> rfl
/-- A list of instructions as a slice. -/
def Rows4 (w : World) (v : Value) (l : List (Int × Int × Int × Int)) : Prop := ∃ p cap, v = .slice p l.length cap ∧ l.length ≤ 100001 ∧ (l ≠ [] → ∃ b, p = some ⟨b, 0, none⟩ ∧ InsAt w b 0 l)
theorem Rows4.below {w w' : World} {v : Value} {l : List (Int × Int × Int × Int)} (h : Rows4 w v l) (hb : Below w.heap.size w w') : Rows4 w' v l := by
 obtain ⟨p, cap, h1, h2, h3⟩ := h
 refine ⟨p, cap, h1, h2, fun hl => ?_⟩
 obtain ⟨b, h4, h5⟩ := h3 hl
 exact ⟨b, h4, h5.below hb⟩
theorem Rows4.nil (w : World) : Rows4 w (.slice none 0 0) [] := ⟨none, 0, rfl, by simp, fun h => absurd rfl h⟩
theorem own_rows {w : World} {B : Nat} {v : Value} {l : List (Int × Int × Int × Int)} (h : w.ownsRow B 83 4 v l.length (cells4 l)) (hl : l.length ≤ 100001) : Rows4 w v l ∧ ∃ p n cap, v = .slice p n cap ∧ ∀ b, v.ownBlock = some b → B ≤ b := by
 rcases h.2 with ⟨rfl, h1⟩ | ⟨g, cap, cur, rfl, h1, _⟩
 ·rw [List.length_eq_zero_iff.1 h1]
  exact ⟨Rows4.nil w, none, 0, 0, rfl, fun b e => by cases e⟩
 ·refine ⟨⟨some ⟨g, 0, none⟩, cap, rfl, hl, fun _ => ⟨g, rfl, fun j hj => ?_⟩⟩, _, _, _, rfl, fun b e => by cases e; exact h1⟩
  obtain ⟨e0, e1, e2, e3⟩ := cells4_at l j hj
  simp only [Nat.zero_add]
  rw [h.cellAt (j * 4) (by omega), h.cellAt (j * 4 + 1) (by omega), h.cellAt (j * 4 + 2) (by omega), h.cellAt (j * 4 + 3) (by omega)]
  exact ⟨e0, e1, e2, e3⟩
theorem codeL_len (D : DataW Unit) (ls : List ByteArray) (k : Nat) : (codeL D (ls.take k)).length ≤ k := by
 unfold codeL
 have := List.length_filterMap_le (fun t => if labB t = true then none else some (insR D t).2) (ls.take k)
 rw [List.length_take] at this
 omega
theorem four_new' (W : World) (n : Nat) (hn : n = W.heap.size) (a b c d : Value) (e : TypeId) : ∀ (j : Nat) (x : Value), [a, b, c, d][j]? = some x → (W.alloc (.cells #[a, b, c, d] e)).cell? ((⟨n, 0, none⟩ : Addr).add j) = some x := by
 subst hn
 exact four_new W a b c d e
theorem tells_fault {w : World} {ev : Value} {n : Int} {m : Nat} (h : Tells w ev n m) : ∃ b o, ev = .iface 96 (.pointer (some ⟨b, o, none⟩)) := by
 rcases h with ⟨_, _, h⟩ | ⟨_, h⟩ | ⟨b, o, h, _⟩
 ·omega
 ·omega
 ·exact ⟨b, o, h⟩
theorem parse_long (s : ByteArray) (w : World) (h : 4000 < s.size) :
  Calls Tryz.prog 173 #[.string s] w fun e w' => e = .returned (.tuple #[.slice none 0 0, .iface 29 (.int .i64 2)]) ∧ Below w.heap.size w w' := by
 have h2 : 4000 < (s.size : Int) := by omega
 go_enter Tryz.func173, Tryz.ntmps173
 go_wp2_with fail
 go_ret2
 exact ⟨rfl, Below.refl _ _⟩
/-- What a text's lines come to: the first line that is not right as a label, then the first that is not right as an instruction. -/
structure Ends (ls : List ByteArray) (m m2 : Nat) : Prop where
 hm : m ≤ ls.length
 hv : ∀ j (h : j < ls.length), j < m → labE (upTo ls j).1 ls[j] = 0
 hx : ∀ h : m < ls.length, labE (upTo ls m).1 ls[m] ≠ 0
 hm2 : m2 ≤ ls.length
 hv2 : ∀ j (h : j < ls.length), j < m2 → lineE (upTo ls ls.length).1 ls[j] = 0
 hx2 : ∀ h : m2 < ls.length, lineE (upTo ls ls.length).1 ls[m2] ≠ 0
theorem lineE_zero {D : DataW Unit} {t : ByteArray} (h : lineE D t = 0) : labB t = true ∨ (labB t = false ∧ (insR D t).1 = 0) := by
 unfold lineE at h
 cases h1 : labB t with
 | true => exact .inl rfl
 | false => rw [h1, if_neg (by decide)] at h; exact .inr ⟨rfl, h⟩
theorem lineE_not {D : DataW Unit} {t : ByteArray} (h : lineE D t ≠ 0) : labB t = false ∧ (insR D t).1 ≠ 0 ∧ lineE D t = (insR D t).1 := by
 unfold lineE at h ⊢
 cases h1 : labB t with
 | true => rw [h1, if_pos rfl] at h; exact absurd rfl h
 | false => rw [h1, if_neg (by decide)] at h; exact ⟨rfl, h, by rw [if_neg (by decide)]⟩
/-- What isa.Parse answers. -/
def Parsed (ls : List ByteArray) (m m2 : Nat) (w' : World) (v ev : Value) : Prop :=
 (∃ h : m < ls.length, v = .slice none 0 0 ∧ Tells w' ev (labE (upTo ls m).1 ls[m]) m) ∨
 (m = ls.length ∧ 40 < (upTo ls ls.length).2 ∧ v = .slice none 0 0 ∧ Tells w' ev 2 (-1)) ∨
 (m = ls.length ∧ ¬ 40 < (upTo ls ls.length).2 ∧ ∃ h : m2 < ls.length, v = .slice none 0 0 ∧ Tells w' ev (lineE (upTo ls ls.length).1 ls[m2]) m2) ∨
 (m = ls.length ∧ ¬ 40 < (upTo ls ls.length).2 ∧ m2 = ls.length ∧ ev = .nilIface ∧ Rows4 w' v (codeL (upTo ls ls.length).1 ls))
set_option maxRecDepth 100000 in
set_option maxHeartbeats 8000000 in
theorem parse_some (s : ByteArray) (m m2 : Nat) (w : World) (hM : MLok w) (hN : NamesAt w) (h40 : s.size ≤ 4000) (hE : Ends (linesB s) m m2) (hl : (linesB s).length ≤ 100001) (hz : ∀ t ∈ linesB s, t.size ≤ 100000) :
  Calls Tryz.prog 173 #[.string s] w fun e w' => ∃ v ev, e = .returned (.tuple #[v, ev]) ∧ Below w.heap.size w w' ∧ Parsed (linesB s) m m2 w' v ev := by
 obtain ⟨i0, hi, hz0, hz1, hz2⟩ := info_parts infoIns
 have h4i : ¬ (4000 : Int) < (s.size : Int) := by omega
 have HM := hid hM
 have HN := hid hN
 have HE := hid hE
 have HZ := hid hz
 have HL := hid (linesOf_any s w (by omega) hM)
 clear hM hN hE hz h40
 generalize linesB s = ls at *
 go_enter Tryz.func173, Tryz.ntmps173
 go_wp2_with fail
 refine HL.out.mono ?_
 rintro e w1 ⟨lb, lc, rfl, hS, hb1⟩
 have S1 := hid hS
 have B1 := hid hb1
 clear hS hb1 HL
 go_wp2_with fail
 refine (findLabels_any ls lb lc m w1 S1.out hl HZ.out HE.out.hm HE.out.hv HE.out.hx).mono ?_
 rintro e w2 ⟨hb2, hd⟩
 have B2 := hid (btr B1.out hb2)
 have S2 := hid (S1.out.below hb2)
 have hw12 : w1.heap.size ≤ w2.heap.size := hb2.size
 clear hb2
 rcases hd with ⟨hmm, rfl, hD⟩ | ⟨hmm, ev, rfl, hT⟩
 ·subst hmm
  have D2 := hid hD
  have hbm : w1.heap.size < w2.heap.size := hD.lt
  clear hD
  have hq : (upTo ls ls.length).2 ≤ ls.length := upTo_le ls ls.length
  by_cases hn : (40 : Int) < ((upTo ls ls.length).2 : Int)
  ·have HQ := hid (show 40 < (upTo ls ls.length).2 by omega)
   go_wp2_with fail
   go_ret2
   exact ⟨_, _, rfl, B2.out, .inr (.inl ⟨rfl, HQ.out, rfl, .inr (.inl ⟨rfl, rfl⟩)⟩)⟩
  ·have HQ := hid (show ¬ 40 < (upTo ls ls.length).2 by omega)
   have HV2 := hid HE.out.hv2
   have HX2 := hid HE.out.hx2
   have hm2 := HE.out.hm2
   clear HE
   go_wp2_with fail
   go_loopw [8, 33] (fun v i wr => ∃ k : Nat, k ≤ m2 ∧ i = .int .i64 k ∧ wr.ownsRow w2.heap.size 83 4 v (codeL (upTo ls ls.length).1 (ls.take k)).length (cells4 (codeL (upTo ls ls.length).1 (ls.take k))) ∧ Below w2.heap.size w2 wr) (fun _ i _ => ls.length - (intOf i).toNat)
   case atStart => exact ⟨0, by omega, rfl, by simpa [codeL, cells4] using World.ownsRow_nil w2 w2.heap.size 83 4, Below.refl _ _⟩
   case round =>
    obtain ⟨k, hk, rfl, hO, hB⟩ := hrel
    have HO := hid hO
    have HB := hid hB
    clear hO hB
    have hcl := codeL_len (upTo ls ls.length).1 ls k
    by_cases hlt : k < ls.length
    ·have hlt2 : (k : Int) < (ls.length : Int) := by omega
     have hc := (S2.out.below HB.out) k hlt
     rw [Nat.zero_add] at hc
     have hts := HZ.out ls[k] (List.getElem_mem hlt)
     have HTK := hid (List.take_succ_eq_append_getElem hlt)
     have HV1 := hid (HV2.out k hlt)
     have HX1 := hid (show k = m2 → lineE (upTo ls ls.length).1 ls[k] ≠ 0 from fun e => by subst e; exact HX2.out hlt)
     have HE1 := hid (show ∀ e : k = m2, ∀ h : m2 < ls.length, lineE (upTo ls ls.length).1 ls[m2] = lineE (upTo ls ls.length).1 ls[k] from fun e h => by subst e; rfl)
     generalize ls[k] = t at hc hts HTK HV1 HX1 HE1
     go_wp2_with fail
     refine (isLabel_any t _ hts).mono ?_
     rintro e w3 ⟨rfl, hb3⟩
     have O3 := hid (own_below HO.out hb3)
     have B3 := hid (HB.out.trans (hb3.mono HB.out.size))
     clear hb3
     cases hL : labB t with
     | true =>
      have hkm : k < m2 := by
       by_cases h : k < m2
       ·exact h
       ·have := lineE_not (HX1.out (by omega))
        rw [hL] at this
        cases this.1
      go_wp2_with fail
      refine ⟨⟨k + 1, by omega, by go_num, ?_, B3.out⟩, by simp [intOf]; omega⟩
      rw [HTK.out, codeL_snoc, if_pos hL, List.append_nil]
      exact O3.out
     | false =>
      have HLB := hid hL
      clear hL
      go_wp2_with fail
      refine (parseLine_any t w1.heap.size ls.length (upTo ls ls.length).1 w3 (D2.out.keep B3.out hbm) (HM.out.below (B2.out.trans (B3.out.mono B2.out.size))) (HN.out.below (B2.out.trans (B3.out.mono B2.out.size))) hts).mono ?_
      rintro e w4 ⟨rfl, hb4⟩
      have O4 := hid (own_below O3.out hb4)
      have B4 := hid (B3.out.trans (hb4.mono B3.out.size))
      clear hb4
      generalize hqq : insR (upTo ls ls.length).1 t = qq
      obtain ⟨er, qo, qa, qb, qi⟩ := qq
      have HQQ := hid hqq
      clear hqq
      by_cases hkm : k < m2
      ·have he : er = 0 := by
        rcases lineE_zero (HV1.out hkm) with h | ⟨_, h⟩
        ·rw [HLB.out] at h; cases h
        ·rw [HQQ.out] at h; exact h
       subst he
       rw [errV_zero]
       unfold insA
       go_wp2_with (at_builtin; refine wpList_append_own _ rfl _ _ 76 rfl w2.heap.size 83 i0 (.agg #[.int .i64 0, .int .i64 0, .int .i64 0, .int .i64 0]) 4 32 Tryz.underlying76 hi hz0 hz1 hz2 rfl (by decide) _ _ _ rfl ((O4.out.alloc _).alloc _) ⟨w4.heap.size + 1, 0, none⟩ 1 1 [.int .i64 qo, .int .i64 qa, .int .i64 qb, .int .i64 qi] rfl rfl ?c1 (four_cell _ _ _ _) ?c3 ?c4 ?c5 ?_)
       case c1 => exact four_new' _ _ (by simp) _ _ _ _ _
       case c3 => unfold maxLen; omega
       case c4 => omega
       case c5 => have := B4.out.size; simp; omega
       intro v' w5 hown' hgrow _
       have B5 := hid (((B4.out.alloc B4.out.size _).alloc (by have := B4.out.size; simp; omega) _).grown hgrow (by have := B4.out.size; simp; omega) (fun k hk => (O4.out.lt k hk).1))
       have O5 := hid hown'
       clear hown' hgrow
       go_wp2_with fail
       refine ⟨⟨k + 1, by omega, by go_num, ?_, B5.out⟩, by simp [intOf]; omega⟩
       rw [HTK.out, codeL_snoc, if_neg (by rw [HLB.out]; decide), HQQ.out, cells4_snoc, List.length_append]
       exact O5.out
      ·obtain rfl : k = m2 := by omega
       have hx := lineE_not (HX1.out (by trivial))
       rw [HQQ.out] at hx
       have he : er ≠ 0 := hx.2.1
       have HEL := hid hx.2.2
       clear hx
       rw [errV_ne he]
       unfold insA
       go_wp2_with fail
       go_ret2
       refine ⟨_, _, rfl, B2.out.trans ((bal (bal (Below.refl _ _) _) _).mono ?_ |> fun h => (B4.out.mono B2.out.size).trans h), .inr (.inr (.inl ⟨rfl, HQ.out, hlt, rfl, ?_⟩))⟩
       ·have := B4.out.size; have := B2.out.size; omega
       ·rw [HE1.out (by trivial) hlt, HEL.out]
        refine .inr (.inr ⟨w4.heap.size + 1, 0, rfl, World.cell?_alloc_at _ _ _ _ (by simp), ?_⟩)
        rw [World.cell?_alloc_at _ _ _ _ (by simp)]
        rfl
    ·obtain rfl : k = ls.length := by omega
     obtain rfl : m2 = ls.length := by omega
     have hge : ¬ ((ls.length : Int) < (ls.length : Int)) := by omega
     have O := HO.out
     rw [List.take_length] at O hcl
     have HR := hid (own_rows O (by omega)).1
     clear O
     go_wp2_with fail
     go_ret2
     exact ⟨_, _, rfl, B2.out.trans (HB.out.mono B2.out.size), .inr (.inr (.inr ⟨rfl, HQ.out, rfl, rfl, HR.out⟩))⟩
 ·have HT := hid hT
  obtain ⟨fb, fo, rfl⟩ := tells_fault hT
  clear hT
  go_wp2_with fail
  go_ret2
  exact ⟨_, _, rfl, B2.out, .inl ⟨hmm, rfl, HT.out⟩⟩
theorem Rows4.far {w : World} {v : Value} {l : List (Int × Int × Int × Int)} (h : Rows4 w v l) {B i : Nat} (hB : ∀ b, v.ownBlock = some b → B ≠ b) (u : Value) : Rows4 (w.setCell ⟨B, i, none⟩ u) v l := by
 obtain ⟨p, cap, h1, h2, h3⟩ := h
 refine ⟨p, cap, h1, h2, fun hl => ?_⟩
 obtain ⟨b, h4, h5⟩ := h3 hl
 have hne : B ≠ b := hB b (by rw [h1, h4]; rfl)
 refine ⟨b, h4, fun j hj => ?_⟩
 obtain ⟨e0, e1, e2, e3⟩ := h5 j hj
 refine ⟨?_, ?_, ?_, ?_⟩
 ·rw [World.cell?_setCell_other _ _ _ _ (fun e => hne (congrArg Addr.block e))]; exact e0
 ·rw [World.cell?_setCell_other _ _ _ _ (fun e => hne (congrArg Addr.block e))]; exact e1
 ·rw [World.cell?_setCell_other _ _ _ _ (fun e => hne (congrArg Addr.block e))]; exact e2
 ·rw [World.cell?_setCell_other _ _ _ _ (fun e => hne (congrArg Addr.block e))]; exact e3
theorem linesB_mem (s : ByteArray) (t : ByteArray) (h : t ∈ linesB s) : t.size ≤ s.size := by
 have h1 : t ∈ cutB 10 s := by
  unfold linesB at h
  split at h
  ·exact List.dropLast_subset _ h
  ·exact h
 unfold cutB at h1
 obtain ⟨l, hl, rfl⟩ := List.mem_map.1 h1
 have := cutL_mem_len 10 s.data.toList l hl
 simp only [ByteArray.size, List.size_toArray]
 rw [← size_list] at this
 exact this
theorem linesB_len (s : ByteArray) : (linesB s).length ≤ s.size + 1 := by
 have h1 : (cutB 10 s).length ≤ s.size + 1 := by
  have := cutL_len 10 s.data.toList
  rw [← size_list] at this
  simpa only [cutB, List.length_map] using this
 unfold linesB
 split
 ·rw [List.length_dropLast]; omega
 ·exact h1
theorem ends_of (ls : List ByteArray) : ∃ m m2, Ends ls m m2 := by
 obtain ⟨m, a1, a2, a3⟩ := first_not ls.length (fun j => ∀ h : j < ls.length, labE (upTo ls j).1 ls[j] = 0)
 obtain ⟨m2, b1, b2, b3⟩ := first_not ls.length (fun j => ∀ h : j < ls.length, lineE (upTo ls ls.length).1 ls[j] = 0)
 exact ⟨m, m2, a1, fun j h hj => a2 j hj h, fun h e => a3 h (fun _ => e), b1, fun j h hj => b2 j hj h, fun h e => b3 h (fun _ => e)⟩
end Go.Proofs.YtkocmkaeaagbaaaGreatDoor.Prs
