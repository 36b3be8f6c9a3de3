/- isa.parseLine, walked. -/
import Derived.Test.YtfpkbfhaipgibaaDoorPrsParts
namespace Go.Proofs.YtfpkbfhaipgibaaDoor.Prs
open Go.RowKit Go.Maps Go.Proofs.YtfpkbfhaipgibaaDoor.Mem Go.Proofs.YtfpkbfhaipgibaaDoor.Hex Go.Proofs.YtfpkbfhaipgibaaDoor.Txt Go.Proofs.YtfpkbfhaipgibaaDoor.Isa

theorem parseParts_any (op : Int) (ib m r b n B : Nat) (D : DataW Unit) (ws : List ByteArray) (w : World)
    (ci : ∀ o, w.cell? ⟨ib, o, none⟩ = (#[.int .i64 op, .int .i64 0, .int .i64 0, .int .i64 0] : Array Value)[o]?) (fi : ∀ o, w.frozen? ⟨ib, o, none⟩ = false)
    (hl : LeftAt w m r ws) (hM : MLok w) (hD : MapAt w b n D) (hmr : m ≠ r) (him : ib ≠ m) (hir : ib ≠ r) (hbB : b < B) (hB : B ≤ ib) (hmB : B ≤ m) (hrB : B ≤ r) (hG : 3 < B) (hib : ib < w.heap.size) (hmw : m < w.heap.size) (hrw : r < w.heap.size) :
    Calls Tryd.prog 82 #[.pointer (some ⟨ib, 0, none⟩), nextV m r, .map (some b)] w fun e w' => PartsDone op ib m r B (partsR regV (immR D) (IP.hA op) (IP.hB op) (IP.hC op) ws) w w' e := by
  rcases shapes op with ⟨h1, h2, h3⟩ | ⟨h1, h2, h3⟩ | ⟨h1, h2, h3⟩ | ⟨h1, h2, h3⟩ | ⟨h1, h2, h3⟩
  all_goals rw [h1, h2, h3]
  · exact parseParts_fff op ib m r b n B D ws w h1 h2 h3 ci fi hl hM hD hmr him hir hbB hB hmB hrB hG hib hmw hrw
  · exact parseParts_tft op ib m r b n B D ws w h1 h2 h3 ci fi hl hM hD hmr him hir hbB hB hmB hrB hG hib hmw hrw
  · exact parseParts_ttt op ib m r b n B D ws w h1 h2 h3 ci fi hl hM hD hmr him hir hbB hB hmB hrB hG hib hmw hrw
  · exact parseParts_fft op ib m r b n B D ws w h1 h2 h3 ci fi hl hM hD hmr him hir hbB hB hmB hrB hG hib hmw hrw
  · exact parseParts_ttf op ib m r b n B D ws w h1 h2 h3 ci fi hl hM hD hmr him hir hbB hB hmB hrB hG hib hmw hrw
def insA (q : Int × Int × Int × Int) : Value := .agg #[.int .i64 q.1, .int .i64 q.2.1, .int .i64 q.2.2.1, .int .i64 q.2.2.2]
theorem NamesAt.below {w w' : World} (h : NamesAt w) (hb : Below w.heap.size w w') : NamesAt w' := fun k hk => cellB (h k hk) hb
theorem cutB_cons (s : ByteArray) : ∃ x r, cutB 32 s = x :: r := by
  have : cutB 32 s ≠ [] := by unfold cutB; simp [cutL_ne]
  cases h : cutB 32 s with
  | nil => exact absurd h this
  | cons x r => exact ⟨x, r, rfl⟩
theorem line_op {f m : ByteArray → Int × Int} {x : ByteArray} {r : List ByteArray} (h : opN x = 15) : lineR f m (x :: r) = (13, 0, 0, 0, 0) := by rw [lineR, if_pos h]
theorem line_err {f m : ByteArray → Int × Int} {x : ByteArray} {r : List ByteArray} {o : Nat} {G : Got} (ho : opN x = o) (h : o ≠ 15) (hG : partsR f m (IP.hA o) (IP.hB o) (IP.hC o) r = G) (he : G.err ≠ 0) : lineR f m (x :: r) = (G.err, 0, 0, 0, 0) := by
  rw [lineR, ho, if_neg h, hG, if_pos he]
theorem line_left {f m : ByteArray → Int × Int} {x : ByteArray} {r : List ByteArray} {o : Nat} {G : Got} (ho : opN x = o) (h : o ≠ 15) (hG : partsR f m (IP.hA o) (IP.hB o) (IP.hC o) r = G) (he : G.err = 0) (hl : G.left ≠ []) : lineR f m (x :: r) = (1, 0, 0, 0, 0) := by
  rw [lineR, ho, if_neg h, hG, if_neg (by simpa using he), if_pos hl]
theorem line_ok {f m : ByteArray → Int × Int} {x : ByteArray} {r : List ByteArray} {o : Nat} {G : Got} (ho : opN x = o) (h : o ≠ 15) (hG : partsR f m (IP.hA o) (IP.hB o) (IP.hC o) r = G) (he : G.err = 0) (hl : G.left = []) : lineR f m (x :: r) = (0, (o : Int), G.a, G.b, G.i) := by
  rw [lineR, ho, if_neg h, hG, if_neg (by simpa using he), if_neg (by simpa using hl)]
set_option maxHeartbeats 4000000 in
theorem parseLine_any (s : ByteArray) (b n : Nat) (D : DataW Unit) (w : World) (hD : MapAt w b n D) (hM : MLok w) (hN : NamesAt w) (hs : s.size ≤ 100000) :
    Calls Tryd.prog 44 #[.string s, .map (some b)] w fun e w' => e = .returned (.tuple #[insA (insR D s).2, errV (insR D s).1]) ∧ Below w.heap.size w w' := by
  have hbw : b < w.heap.size := hD.lt
  have hGw : 3 < w.heap.size := by obtain ⟨_, h⟩ := hM; exact World.block_lt_of_cell? _ _ h
  have HD := hid hD
  have HM := hid hM
  have HN := hid hN
  have HS := hid hs
  obtain ⟨x, rs, hx⟩ := cutB_cons s
  have HX := hid hx
  have HI := hid (show insR D s = lineR regV (immR D) (x :: rs) by unfold insR; rw [hx])
  clear hD hM hN hs hx
  go_enter Tryd.func44, Tryd.ntmps44
  go_wp2_with fail
  have z0 : (w.alloc (.cells #[.int .i64 0, .int .i64 0, .int .i64 0, .int .i64 0] 34)).heap.size = w.heap.size + 1 := by simp
  refine (wordsOf_any s _ HS.out).mono ?_
  rintro e w2 ⟨rfl, hb2, hl2, hs2⟩
  rw [z0] at hl2 hs2
  rw [HX.out] at hl2
  rw [z0]
  have c2 := cells_next (cells_new w #[.int .i64 0, .int .i64 0, .int .i64 0, .int .i64 0] 34) (by rw [z0]; omega) hb2
  have f2 : ∀ o, w2.frozen? ⟨w.heap.size, o, none⟩ = false := fun o => (hb2.frozen (p := ⟨w.heap.size, o, none⟩) (by rw [z0]; show w.heap.size < _; omega)).trans (World.frozen?_alloc_at _ _ _ _ rfl)
  have B2 := hid (btr (bal (Below.refl _ _) _) hb2)
  have L2 := hid hl2
  clear hb2 hl2 z0
  go_wp2_with (go_at_call 99; refine (next_some (w.heap.size + 1 + 1) (w.heap.size + 1) (w.heap.size + 1) x rs _ (HM.out.below B2.out) (by omega) (by omega) (by omega) L2.out).mono ?_; rintro e w3 ⟨rfl, hb3, hl3, hs3, hx3, ho3⟩)
  have c3 : ∀ o, w3.cell? ⟨w.heap.size, o, none⟩ = (#[.int .i64 0, .int .i64 0, .int .i64 0, .int .i64 0] : Array Value)[o]? := fun o => ((hb3.cell (p := ⟨w.heap.size, o, none⟩) (by show w.heap.size < _; omega))).trans (c2 o)
  have f3 : ∀ o, w3.frozen? ⟨w.heap.size, o, none⟩ = false := fun o => ((hb3.frozen (p := ⟨w.heap.size, o, none⟩) (by show w.heap.size < _; omega))).trans (f2 o)
  have B3 := hid (B2.out.trans (hb3.mono (by omega)))
  have L3 := hid hl3
  clear hb3 hl3 ho3 hx3 c2 f2
  refine (opOf_any x _ (HN.out.below B3.out)).mono ?_
  rintro e w4 ⟨rfl, hb4⟩
  have c4 := cells_next c3 (by omega) hb4
  have f4 : ∀ o, w4.frozen? ⟨w.heap.size, o, none⟩ = false := fun o => ((hb4.frozen (p := ⟨w.heap.size, o, none⟩) (by show w.heap.size < _; omega))).trans (f3 o)
  have B4 := hid (btr B3.out hb4)
  have L4 := hid (L3.out.keep hb4 (by omega) (by omega))
  have hs4 : w.heap.size + 3 ≤ w4.heap.size := by have := hb4.size; omega
  clear hb4 c3 f3
  generalize hop : opN x = op
  have HO := hid hop
  unfold opV
  rw [hop]
  clear hop
  have HO15 := opN_le x
  rw [HO.out] at HO15
  by_cases h15 : op = 15
  · have HV := hid (HI.out.trans (line_op (HO.out.trans h15)))
    rw [if_pos h15]
    clear h15 HO15
    go_wp2_with fail
    have q := four_set (v0 := .int .i64 0) (v1 := .int .i64 0) (v2 := .int .i64 0) (v3 := .int .i64 0) c4
    exact bodyPost_ret (v := .tuple #[insA (0, 0, 0, 0), errV 13]) (by simp [results, Tryd.results44, go_sem, q 0, q 1, q 2, q 3, insA, errV]) rfl ⟨by rw [HV.out], bset (bset (bset (bset B4.out (Nat.le_refl _) _) (Nat.le_refl _) _) (Nat.le_refl _) _) (Nat.le_refl _) _⟩
  · rw [if_neg h15]
    have ci4 := cells_new w4 #[.int .i64 (op : Int), .int .i64 0, .int .i64 0, .int .i64 0] 34
    have N4 := hid (show Below w4.heap.size w4 (w4.alloc (.cells #[.int .i64 (op : Int), .int .i64 0, .int .i64 0, .int .i64 0] 34)) from bal (Below.refl _ _) _)
    have fi4 : ∀ o, (w4.alloc (.cells #[.int .i64 (op : Int), .int .i64 0, .int .i64 0, .int .i64 0] 34)).frozen? ⟨w4.heap.size, o, none⟩ = false := fun o => World.frozen?_alloc_at _ _ _ _ rfl
    have z5 : (w4.alloc (.cells #[.int .i64 (op : Int), .int .i64 0, .int .i64 0, .int .i64 0] 34)).heap.size = w4.heap.size + 1 := by simp
    have c5 := cells_next c4 (by omega) N4.out
    have f5 : ∀ o, (w4.alloc (.cells #[.int .i64 (op : Int), .int .i64 0, .int .i64 0, .int .i64 0] 34)).frozen? ⟨w.heap.size, o, none⟩ = false := fun o => ((N4.out.frozen (p := ⟨w.heap.size, o, none⟩) (by show w.heap.size < _; omega))).trans (f4 o)
    have B5 := hid (btr B4.out N4.out)
    have L5 := hid (L4.out.keep N4.out (by omega) (by omega))
    have HP := hid (parseParts_any op w4.heap.size (w.heap.size + 1 + 1) (w.heap.size + 1) b n (w.heap.size + 1) D rs _ ci4 fi4 L5.out (HM.out.below B5.out) (HD.out.below B5.out) (by omega) (by omega) (by omega) (by omega) (by omega) (by omega) (by omega) (by omega) (by omega) (by omega) (by omega))
    clear N4 ci4 fi4 L5
    go_wp2_with fail
    refine HP.out.mono ?_
    rintro e w6 ⟨rfl, hb6, hG6⟩
    clear HP
    have c6 : ∀ o, w6.cell? ⟨w.heap.size, o, none⟩ = (#[.int .i64 0, .int .i64 0, .int .i64 0, .int .i64 0] : Array Value)[o]? := fun o => ((hb6.cell (p := ⟨w.heap.size, o, none⟩) (by show w.heap.size < _; omega))).trans (c5 o)
    have f6 : ∀ o, w6.frozen? ⟨w.heap.size, o, none⟩ = false := fun o => ((hb6.frozen (p := ⟨w.heap.size, o, none⟩) (by show w.heap.size < _; omega))).trans (f5 o)
    have B6 := hid (B5.out.trans (hb6.mono (by omega)))
    have z6 : w4.heap.size < w6.heap.size := by have := hb6.size; omega
    clear hb6 c5 f5 c4 f4 z5
    generalize hGG : partsR regV (immR D) (IP.hA op) (IP.hB op) (IP.hC op) rs = G at hG6 ⊢
    have HQ := hid hGG
    clear hGG
    by_cases he : G.err = 0
    · obtain ⟨hL6, hc6⟩ := hG6 he
      clear hG6
      rw [he, errV_zero]
      have HE := hid he
      have L6 := hid hL6
      clear he hL6
      cases hl : G.left with
      | nil =>
        rw [hl] at L6
        have HV := hid (HI.out.trans (line_ok HO.out h15 HQ.out HE.out hl))
        clear hl h15
        go_wp2_with (go_at_call 99; refine (next_none _ _ _ L6.out).mono ?_; rintro e w7 ⟨rfl, rfl⟩)
        have q := four_set (v0 := .int .i64 (op : Int)) (v1 := .int .i64 G.a) (v2 := .int .i64 G.b) (v3 := .int .i64 G.i) c6
        exact bodyPost_ret (v := .tuple #[insA (op, G.a, G.b, G.i), .nilIface]) (by simp [results, Tryd.results44, go_sem, q 0, q 1, q 2, q 3, insA]) rfl ⟨by rw [HV.out]; rfl, bset (bset (bset (bset B6.out (Nat.le_refl _) _) (Nat.le_refl _) _) (Nat.le_refl _) _) (Nat.le_refl _) _⟩
      | cons y ys =>
        rw [hl] at L6
        have HV := hid (HI.out.trans (line_left HO.out h15 HQ.out HE.out (by rw [hl]; simp)))
        clear hl h15
        go_wp2_with (go_at_call 99; refine (next_some _ _ (w.heap.size + 1) y ys _ (HM.out.below B6.out) (by omega) (by omega) (by omega) L6.out).mono ?_; rintro e w7 ⟨rfl, hb7, hl7, hs7, hx7, ho7⟩; have c7 : ∀ o, w7.cell? ⟨w.heap.size, o, none⟩ = (#[.int .i64 0, .int .i64 0, .int .i64 0, .int .i64 0] : Array Value)[o]? := fun o => ((hb7.cell (p := ⟨w.heap.size, o, none⟩) (by show w.heap.size < _; omega))).trans (c6 o); have f7 : ∀ o, w7.frozen? ⟨w.heap.size, o, none⟩ = false := fun o => ((hb7.frozen (p := ⟨w.heap.size, o, none⟩) (by show w.heap.size < _; omega))).trans (f6 o); have B7 := hid (B6.out.trans (hb7.mono (by omega))); clear hb7 hl7 hs7 hx7 ho7)
        have q := four_set (v0 := .int .i64 0) (v1 := .int .i64 0) (v2 := .int .i64 0) (v3 := .int .i64 0) c7
        exact bodyPost_ret (v := .tuple #[insA (0, 0, 0, 0), errV 1]) (by simp [results, Tryd.results44, go_sem, q 0, q 1, q 2, q 3, insA, errV]) rfl ⟨by rw [HV.out], bset (bset (bset (bset B7.out (Nat.le_refl _) _) (Nat.le_refl _) _) (Nat.le_refl _) _) (Nat.le_refl _) _⟩
    · clear hG6
      have HV := hid (HI.out.trans (line_err HO.out h15 HQ.out he))
      rw [errV_ne he]
      clear h15
      go_wp2_with fail
      have q := four_set (v0 := .int .i64 0) (v1 := .int .i64 0) (v2 := .int .i64 0) (v3 := .int .i64 0) c6
      exact bodyPost_ret (v := .tuple #[insA (0, 0, 0, 0), .iface 23 (.int .i64 G.err)]) (by simp [results, Tryd.results44, go_sem, q 0, q 1, q 2, q 3, insA]) rfl ⟨by rw [HV.out, errV_ne he], bset (bset (bset (bset B6.out (Nat.le_refl _) _) (Nat.le_refl _) _) (Nat.le_refl _) _) (Nat.le_refl _) _⟩
end Go.Proofs.YtfpkbfhaipgibaaDoor.Prs
