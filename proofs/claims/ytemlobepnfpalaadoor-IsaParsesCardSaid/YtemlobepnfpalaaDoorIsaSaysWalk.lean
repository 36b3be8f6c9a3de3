/- keyholdlaw.IsaSays, walked. -/
import Derived.Test.YtemlobepnfpalaaDoorDecWalk
import Derived.Test.YtemlobepnfpalaaDoorRefIns
import Derived.Test.YtemlobepnfpalaaDoorTell
namespace Go.Proofs.YtemlobepnfpalaaDoor.Isa
open Go.RowKit Go.Proofs.YtemlobepnfpalaaDoor.Mem

/-- A world in which the first new block still holds what it was given, and errors.errorType its handle. -/
structure KW (w : World) (arr : Array Value) (W : World) : Prop where
  bel : Below w.heap.size w W
  lt : w.heap.size < W.heap.size
  cell : ∀ o, W.cell? ⟨w.heap.size, o, none⟩ = arr[o]?
  et : ETok W
  gl : 1 < w.heap.size
theorem KW.next {w W W' : World} {arr : Array Value} (h : KW w arr W) (hb : Below W.heap.size W W') : KW w arr W' :=
  ⟨btr h.bel hb, Nat.lt_of_lt_of_le h.lt hb.size, fun o => (hb.cell (p := ⟨w.heap.size, o, none⟩) h.lt).trans (h.cell o), h.et.below hb, h.gl⟩
theorem KW.al {w W : World} {arr : Array Value} (h : KW w arr W) (o : Obj) : KW w arr (W.alloc o) := h.next (bal (Below.refl _ _) o)
theorem KW.start {w : World} (arr : Array Value) (t : TypeId) (hg : ETok w) : KW w arr (w.alloc (.cells arr t)) :=
  ⟨bal (Below.refl _ _) _, by simp, fun o => World.cell?_alloc_at _ _ _ _ rfl, hg.alloc _, hg.lt⟩
theorem err_any (n : Int) (w : World) :
    Calls Tryd.prog 15 #[.int .i64 n] w fun e w' => e = .returned (.agg #[.int .i64 n, .int .i64 (-1)]) ∧ Below w.heap.size w w' := by
  go_enter Tryd.func15, Tryd.ntmps15
  go_wp2
  refine bodyPost_ret (v := .agg #[.int .i64 n, .int .i64 (-1)]) (by simp [results, Tryd.results15, go_sem]) rfl ⟨rfl, ?_⟩
  exact bal (Below.refl _ _) _
theorem insMay_ok (o a b i : Int) (w : World) (h : Hid (IP.may o a b i = 0)) :
    Calls Tryd.prog 25 #[.agg #[.int .i64 o, .int .i64 a, .int .i64 b, .int .i64 i]] w
      fun e w' => e = .returned (.int .i64 0) ∧ Below w.heap.size w w' := by
  have c := insMay_any o a b i w
  rw [h.out] at c
  exact c
theorem tdiv256 (x : Int) : (0 ≤ x → x.tdiv 256 = x / 256) ∧ (x < 0 → x.tdiv 256 = -((-x) / 256)) :=
  ⟨fun h => Int.tdiv_eq_ediv_of_nonneg h, fun h => by
    have e : x.tdiv 256 = -((-x).tdiv 256) := by rw [Int.neg_tdiv, Int.neg_neg]
    rw [e, Int.tdiv_eq_ediv_of_nonneg (by omega)]⟩
theorem tdiv16 (x : Int) : (0 ≤ x → x.tdiv 16 = x / 16) ∧ (x < 0 → x.tdiv 16 = -((-x) / 16)) :=
  ⟨fun h => Int.tdiv_eq_ediv_of_nonneg h, fun h => by
    have e : x.tdiv 16 = -((-x).tdiv 16) := by rw [Int.neg_tdiv, Int.neg_neg]
    rw [e, Int.tdiv_eq_ediv_of_nonneg (by omega)]⟩
theorem tdiv_fits (x : Int) (hx : -9223372036854775808 ≤ x ∧ x ≤ 9223372036854775807) : wrap64 (x.tdiv 256) = x.tdiv 256 ∧ wrap64 (x.tdiv 16) = x.tdiv 16 := by
  have a := tdiv256 x
  have b := tdiv16 x
  generalize x.tdiv 256 = p at *
  generalize x.tdiv 16 = q at *
  rw [wrap64, wrap64]
  rcases Int.lt_or_le x 0 with h | h
  · have := a.2 h; have := b.2 h; constructor <;> omega
  · have := a.1 h; have := b.1 h; constructor <;> omega
theorem dec_of_word {x y : Int} (hw : IP.word x y) : dO x = x / 256 ∧ dA x = x / 16 % 16 ∧ dB x = x % 16 ∧ dY y = IP.dI y := by
  obtain ⟨x0, x1, y0, y1⟩ := hw
  have f := tdiv_fits x (by omega)
  unfold dO dA dB dY IP.dI
  rw [f.1, f.2, (tdiv256 x).1 x0, (tdiv16 x).1 x0, Int.tmod_eq_emod_of_nonneg (by omega), Int.tmod_eq_emod_of_nonneg x0]
  refine ⟨rfl, rfl, rfl, ?_⟩
  split
  · rw [wrap64]; omega
  · rfl
/-- The two answers on two numbers agree, where there is an instruction .. -/
theorem both_yes (x y : Int) (w : World) (hw : IP.word x y) (hm : IP.may (x / 256) (x / 16 % 16) (x % 16) (IP.dI y) = 0) :
    (Calls Tryd.prog 30 #[.agg #[.int .i64 x, .int .i64 y]] w
      fun e w' => e = .returned (.tuple #[.agg #[.int .i64 (x / 256), .int .i64 (x / 16 % 16), .int .i64 (x % 16), .int .i64 (IP.dI y)], .nilIface]) ∧ Below w.heap.size w w') ∧
    (Calls Tryd.prog 29 #[.agg #[.int .i64 x, .int .i64 y]] w
      fun e w' => e = .returned (.tuple #[.agg #[.int .i64 (x / 256), .int .i64 (x / 16 % 16), .int .i64 (x % 16), .int .i64 (IP.dI y)], .bool true]) ∧ Below w.heap.size w w') := by
  obtain ⟨e1, e2, e3, e4⟩ := dec_of_word hw
  have c := decode_any x y w
  have r := insOf_word x y w hw
  have hd := IP.dec_yes hw
  unfold decV at c
  rw [e1, e2, e3, e4, if_pos ⟨hm, hd⟩] at c
  rw [hm] at r
  exact ⟨c, r⟩
/-- .. and where there is none. -/
theorem both_no (x y : Int) (w : World) (hx : -9223372036854775808 ≤ x ∧ x ≤ 9223372036854775807) (hy : -9223372036854775808 ≤ y ∧ y ≤ 9223372036854775807)
    (hn : ¬ (IP.word x y ∧ IP.may (x / 256) (x / 16 % 16) (x % 16) (IP.dI y) = 0)) :
    (Calls Tryd.prog 30 #[.agg #[.int .i64 x, .int .i64 y]] w
      fun e w' => e = .returned (.tuple #[.agg #[.int .i64 0, .int .i64 0, .int .i64 0, .int .i64 0], .iface 22 (.int .i64 1)]) ∧ Below w.heap.size w w') ∧
    ∃ p q r s : Int, Calls Tryd.prog 29 #[.agg #[.int .i64 x, .int .i64 y]] w
      fun e w' => e = .returned (.tuple #[.agg #[.int .i64 p, .int .i64 q, .int .i64 r, .int .i64 s], .bool false]) ∧ Below w.heap.size w w' := by
  have c := decode_any x y w
  by_cases hw : IP.word x y
  · have hm : IP.may (x / 256) (x / 16 % 16) (x % 16) (IP.dI y) ≠ 0 := fun h => hn ⟨hw, h⟩
    obtain ⟨e1, e2, e3, e4⟩ := dec_of_word hw
    have r := insOf_word x y w hw
    unfold decV at c
    rw [e1, e2, e3, e4, if_neg (fun h => hm h.1)] at c
    rw [show (IP.may (x / 256) (x / 16 % 16) (x % 16) (IP.dI y) == 0) = false from beq_eq_false_iff_ne.2 hm] at r
    exact ⟨c, _, _, _, _, r⟩
  · obtain ⟨q1, q2⟩ := tdiv_fits x hx
    have q3 : dY y = IP.dI y := by
      unfold dY IP.dI
      split
      · rw [wrap64]; omega
      · rfl
    have q : ¬ (IP.may (dO x) (dA x) (dB x) (dY y) = 0 ∧ IP.c0 (dO x) (dA x) (dB x) = x ∧ IP.c1 (dY y) = y) := by
      unfold dO dA dB
      rw [q1, q2, q3]
      exact fun h => IP.dec_no hw h.1 h.2
    rw [decV_no q] at c
    exact ⟨c, _, _, _, _, insOf_no x y w hw⟩
theorem KW.set {w W : World} {arr : Array Value} (h : KW w arr W) {b o : Nat} (hb : w.heap.size < b) (v : Value) : KW w arr (W.setCell ⟨b, o, none⟩ v) :=
  ⟨bset h.bel (Nat.le_of_lt hb) v, by rw [show (W.setCell ⟨b, o, none⟩ v).heap.size = W.heap.size from by simp [World.setCell]]; exact h.lt, cells_far h.cell (by omega) v,
    (World.cell?_setCell_other W _ _ _ (by intro e; cases e; have := h.gl; omega)).trans h.et, h.gl⟩
theorem size_two (W : World) (a b : Addr) (v u : Value) : ((W.setCell a v).setCell b u).heap.size = W.heap.size := by simp [World.setCell]
set_option maxHeartbeats 2000000 in
theorem isaSays_any (o a b i x y : Int) (w : World) (hg : ETok w) (hx : -9223372036854775808 ≤ x ∧ x ≤ 9223372036854775807) (hy : -9223372036854775808 ≤ y ∧ y ≤ 9223372036854775807) :
    Calls Tryd.prog 6 #[.agg #[.int .i64 o, .int .i64 a, .int .i64 b, .int .i64 i], .int .i64 x, .int .i64 y] w
      fun e w' => e = .returned (.bool true) ∧ Below w.heap.size w w' := by
  have K0 := KW.start #[.int .i64 o, .int .i64 a, .int .i64 b, .int .i64 i] 61 hg
  have arr := arr2_neq
  by_cases hk : IP.may o a b i = 0
  · have HK := hid hk
    have T1 : ∀ W, Tells W .nilIface 0 (-1) := fun W => .inl ⟨rfl, rfl, rfl⟩
    clear hk hg
    go_enter Tryd.func6, Tryd.ntmps6
    go_wp2_with fail
    refine (insMay_ok _ _ _ _ _ HK).mono ?_
    rintro e w1 ⟨rfl, hb⟩
    have K1 := K0.next hb
    clear hb K0
    have k1 := K1.lt
    have c1 := K1.cell
    go_wp2_with fail
    refine (codeOf_ok _ _ _ _ _ HK.out).mono ?_
    rintro e w2 ⟨rfl, hb⟩
    obtain ⟨hcc, hzz⟩ := bcell hb
    have K2 := ((((K1.al _).next hb).set (o := 0) k1 (.int .i64 (IP.c0 o a b))).set (o := 1) k1 (.int .i64 (IP.c1 i)))
    have q2 := two_set (v0 := .int .i64 (IP.c0 o a b)) (v1 := .int .i64 (IP.c1 i)) (cells_next (cells_new w1 #[.int .i64 0, .int .i64 0] 63) (by simp) hb)
    have s1 : w1.heap.size < w2.heap.size := by have := hb.size; simp at this; omega
    have s0 : w.heap.size < w2.heap.size := by omega
    have c2 := K2.cell
    clear hb K1 c1
    go_wp2_with fail
    refine (encode_ok _ _ _ _ _ HK.out).mono ?_
    rintro e w3 ⟨rfl, hb⟩
    have K3 := K2.next hb
    have q3 := cells_next q2 (by rw [size_two]; exact s1) hb
    have s3 : w1.heap.size < w3.heap.size := by have := hb.size; rw [size_two] at this; omega
    clear hb K2 q2 c2 hcc hzz
    have c3 := K3.cell
    have l3 := K3.lt
    go_wp2_with fail
    refine (check_ok _ _ _ _ _ HK).mono ?_
    rintro e w4 ⟨rfl, hb⟩
    have K4 := (K3.al _).next hb
    have q4 := cells_next (cells_alloc q3 s3 _) (by simp; omega) hb
    have p4 := cells_next (cells_new w3 #[.int .i64 (IP.c0 o a b), .int .i64 (IP.c1 i)] 63) (by simp) hb
    have s4 : w1.heap.size < w4.heap.size := by have := hb.size; simp at this; omega
    have r4 : w3.heap.size < w4.heap.size := by have := hb.size; simp at this; omega
    clear hb K3 q3 c3
    go_wp2_with fail
    refine (err_any _ _).mono ?_
    rintro e w5 ⟨rfl, hb⟩
    have K5 := K4.next hb
    have q5 := cells_next q4 s4 hb
    have p5 := cells_next p4 r4 hb
    have s5 : w1.heap.size < w5.heap.size := by have := hb.size; omega
    have r5 : w3.heap.size < w5.heap.size := by have := hb.size; omega
    clear hb K4 q4 p4
    go_wp2_with fail
    refine (is_yes _ _ _ _ K5.et (T1 _)).mono ?_
    rintro e w6 ⟨rfl, hb⟩
    have K6 := K5.next hb
    have q6 := cells_next q5 s5 hb
    have p6 := cells_next p5 r5 hb
    have s6 : w1.heap.size < w6.heap.size := by have := hb.size; omega
    have r6 : w3.heap.size < w6.heap.size := by have := hb.size; omega
    clear hb K5 q5 p5
    go_wp2_with fail
    refine (err_any _ _).mono ?_
    rintro e w7 ⟨rfl, hb⟩
    have K7 := K6.next hb
    have q7 := cells_next q6 s6 hb
    have p7 := cells_next p6 r6 hb
    have s7 : w1.heap.size < w7.heap.size := by have := hb.size; omega
    have r7 : w3.heap.size < w7.heap.size := by have := hb.size; omega
    clear hb K6 q6 p6
    go_wp2_with fail
    refine (is_yes _ _ _ _ K7.et (T1 _)).mono ?_
    rintro e w8 ⟨rfl, hb⟩
    have K8 := K7.next hb
    have q8 := cells_next q7 s7 hb
    have p8 := cells_next p7 r7 hb
    have s8 : w1.heap.size < w8.heap.size := by have := hb.size; omega
    have r8 : w3.heap.size < w8.heap.size := by have := hb.size; omega
    clear hb K7 q7 p7
    by_cases hu : IP.word x y ∧ IP.may (x / 256) (x / 16 % 16) (x % 16) (IP.dI y) = 0
    · have HU := hid hu
      have T2 : ∀ W, Tells W .nilIface 0 (-1) := fun W => .inl ⟨rfl, rfl, rfl⟩
      clear hu
      go_wp2_with fail
      refine ((both_yes x y _ HU.out.1 HU.out.2).2).mono ?_
      rintro e w9 ⟨rfl, hb⟩
      have K9 := K8.next hb
      clear hb K8
      go_wp2_with fail
      refine ((both_yes x y _ HU.out.1 HU.out.2).1).mono ?_
      rintro e w10 ⟨rfl, hb⟩
      have K10 := (K9.al _).next hb
      have u10 := cells_next (cells_new w9 #[.int .i64 (x / 256), .int .i64 (x / 16 % 16), .int .i64 (x % 16), .int .i64 (IP.dI y)] 61) (by simp) hb
      have z10 : w9.heap.size < w10.heap.size := by have := hb.size; simp at this; omega
      clear hb K9
      go_wp2_with fail
      refine (err_any _ _).mono ?_
      rintro e w11 ⟨rfl, hb⟩
      have K11 := (K10.al _).next hb
      have u11 := cells_next (cells_alloc u10 z10 _) (by simp; omega) hb
      have x11 := cells_next (cells_new w10 #[.int .i64 (x / 256), .int .i64 (x / 16 % 16), .int .i64 (x % 16), .int .i64 (IP.dI y)] 61) (by simp) hb
      have z11 : w9.heap.size < w11.heap.size := by have := hb.size; simp at this; omega
      have y11 : w10.heap.size < w11.heap.size := by have := hb.size; simp at this; omega
      clear hb K10 u10
      go_wp2_with fail
      refine (is_yes _ _ _ _ K11.et (T2 _)).mono ?_
      rintro e w12 ⟨rfl, hb⟩
      have K12 := K11.next hb
      have u12 := cells_next u11 z11 hb
      have x12 := cells_next x11 y11 hb
      clear hb K11 u11 x11
      go_wp2_with fail
      go_ret
      exact ⟨rfl, K12.bel⟩
    · have HU := hid hu
      have T2 : ∀ W, Tells W (.iface 22 (.int .i64 1)) 1 (-1) := fun W => .inr (.inl ⟨rfl, rfl⟩)
      clear hu
      go_wp2_with fail
      obtain ⟨p, q, r, s, hv⟩ := (both_no x y w8 hx hy HU.out).2
      refine hv.mono ?_
      clear hv
      rintro e w9 ⟨rfl, hb⟩
      have K9 := K8.next hb
      clear hb K8
      go_wp2_with fail
      refine ((both_no x y _ hx hy HU.out).1).mono ?_
      rintro e w10 ⟨rfl, hb⟩
      have K10 := (K9.al _).next hb
      have u10 := cells_next (cells_new w9 #[.int .i64 0, .int .i64 0, .int .i64 0, .int .i64 0] 61) (by simp) hb
      have z10 : w9.heap.size < w10.heap.size := by have := hb.size; simp at this; omega
      clear hb K9
      go_wp2_with fail
      refine (err_any _ _).mono ?_
      rintro e w11 ⟨rfl, hb⟩
      have K11 := (K10.al _).next hb
      have u11 := cells_next (cells_alloc u10 z10 _) (by simp; omega) hb
      have x11 := cells_next (cells_new w10 #[.int .i64 0, .int .i64 0, .int .i64 0, .int .i64 0] 61) (by simp) hb
      have z11 : w9.heap.size < w11.heap.size := by have := hb.size; simp at this; omega
      have y11 : w10.heap.size < w11.heap.size := by have := hb.size; simp at this; omega
      clear hb K10 u10
      go_wp2_with fail
      refine (is_yes _ _ _ _ K11.et (T2 _)).mono ?_
      rintro e w12 ⟨rfl, hb⟩
      have K12 := K11.next hb
      have u12 := cells_next u11 z11 hb
      have x12 := cells_next x11 y11 hb
      clear hb K11 u11 x11
      go_wp2_with fail
      go_ret
      exact ⟨rfl, K12.bel⟩
  · have HK : Hid (IP.may o a b i ≠ 0) := hk
    have T1 : ∀ W, Tells W (.iface 22 (.int .i64 (IP.may o a b i))) (IP.may o a b i) (-1) := fun W => .inr (.inl ⟨rfl, rfl⟩)
    have hne : (IP.may o a b i == 0) = false := beq_eq_false_iff_ne.2 hk
    clear hk hg
    go_enter Tryd.func6, Tryd.ntmps6
    go_wp2_with fail
    refine (insMay_any _ _ _ _ _).mono ?_
    rintro e w1 ⟨rfl, hb⟩
    have K1 := K0.next hb
    clear hb K0
    have k1 := K1.lt
    have c1 := K1.cell
    go_wp2_with fail
    refine (encode_no _ _ _ _ _ HK.out).mono ?_
    rintro e w3 ⟨rfl, hb⟩
    have K3 := (K1.al _).next hb
    have q3 := cells_next (cells_new w1 #[.int .i64 0, .int .i64 0] 63) (by simp) hb
    have s3 : w1.heap.size < w3.heap.size := by have := hb.size; simp at this; omega
    clear hb K1 c1
    have c3 := K3.cell
    have l3 := K3.lt
    go_wp2_with fail
    refine (check_no _ _ _ _ _ HK).mono ?_
    rintro e w4 ⟨rfl, hb⟩
    have K4 := (K3.al _).next hb
    have q4 := cells_next (cells_alloc q3 s3 _) (by simp; omega) hb
    have p4 := cells_next (cells_new w3 #[.int .i64 0, .int .i64 0] 63) (by simp) hb
    have s4 : w1.heap.size < w4.heap.size := by have := hb.size; simp at this; omega
    have r4 : w3.heap.size < w4.heap.size := by have := hb.size; simp at this; omega
    clear hb K3 q3 c3
    go_wp2_with fail
    refine (err_any _ _).mono ?_
    rintro e w5 ⟨rfl, hb⟩
    have K5 := K4.next hb
    have q5 := cells_next q4 s4 hb
    have p5 := cells_next p4 r4 hb
    have s5 : w1.heap.size < w5.heap.size := by have := hb.size; omega
    have r5 : w3.heap.size < w5.heap.size := by have := hb.size; omega
    clear hb K4 q4 p4
    go_wp2_with fail
    refine (is_yes _ _ _ _ K5.et (T1 _)).mono ?_
    rintro e w6 ⟨rfl, hb⟩
    have K6 := K5.next hb
    have q6 := cells_next q5 s5 hb
    have p6 := cells_next p5 r5 hb
    have s6 : w1.heap.size < w6.heap.size := by have := hb.size; omega
    have r6 : w3.heap.size < w6.heap.size := by have := hb.size; omega
    clear hb K5 q5 p5
    go_wp2_with fail
    refine (err_any _ _).mono ?_
    rintro e w7 ⟨rfl, hb⟩
    have K7 := K6.next hb
    have q7 := cells_next q6 s6 hb
    have p7 := cells_next p6 r6 hb
    have s7 : w1.heap.size < w7.heap.size := by have := hb.size; omega
    have r7 : w3.heap.size < w7.heap.size := by have := hb.size; omega
    clear hb K6 q6 p6
    go_wp2_with fail
    refine (is_yes _ _ _ _ K7.et (T1 _)).mono ?_
    rintro e w8 ⟨rfl, hb⟩
    have K8 := K7.next hb
    have q8 := cells_next q7 s7 hb
    have p8 := cells_next p7 r7 hb
    have s8 : w1.heap.size < w8.heap.size := by have := hb.size; omega
    have r8 : w3.heap.size < w8.heap.size := by have := hb.size; omega
    clear hb K7 q7 p7
    by_cases hu : IP.word x y ∧ IP.may (x / 256) (x / 16 % 16) (x % 16) (IP.dI y) = 0
    · have HU := hid hu
      have T2 : ∀ W, Tells W .nilIface 0 (-1) := fun W => .inl ⟨rfl, rfl, rfl⟩
      clear hu
      go_wp2_with fail
      refine ((both_yes x y _ HU.out.1 HU.out.2).2).mono ?_
      rintro e w9 ⟨rfl, hb⟩
      have K9 := K8.next hb
      clear hb K8
      go_wp2_with fail
      refine ((both_yes x y _ HU.out.1 HU.out.2).1).mono ?_
      rintro e w10 ⟨rfl, hb⟩
      have K10 := (K9.al _).next hb
      have u10 := cells_next (cells_new w9 #[.int .i64 (x / 256), .int .i64 (x / 16 % 16), .int .i64 (x % 16), .int .i64 (IP.dI y)] 61) (by simp) hb
      have z10 : w9.heap.size < w10.heap.size := by have := hb.size; simp at this; omega
      clear hb K9
      go_wp2_with fail
      refine (err_any _ _).mono ?_
      rintro e w11 ⟨rfl, hb⟩
      have K11 := (K10.al _).next hb
      have u11 := cells_next (cells_alloc u10 z10 _) (by simp; omega) hb
      have x11 := cells_next (cells_new w10 #[.int .i64 (x / 256), .int .i64 (x / 16 % 16), .int .i64 (x % 16), .int .i64 (IP.dI y)] 61) (by simp) hb
      have z11 : w9.heap.size < w11.heap.size := by have := hb.size; simp at this; omega
      have y11 : w10.heap.size < w11.heap.size := by have := hb.size; simp at this; omega
      clear hb K10 u10
      go_wp2_with fail
      refine (is_yes _ _ _ _ K11.et (T2 _)).mono ?_
      rintro e w12 ⟨rfl, hb⟩
      have K12 := K11.next hb
      have u12 := cells_next u11 z11 hb
      have x12 := cells_next x11 y11 hb
      clear hb K11 u11 x11
      go_wp2_with fail
      go_ret
      exact ⟨rfl, K12.bel⟩
    · have HU := hid hu
      have T2 : ∀ W, Tells W (.iface 22 (.int .i64 1)) 1 (-1) := fun W => .inr (.inl ⟨rfl, rfl⟩)
      clear hu
      go_wp2_with fail
      obtain ⟨p, q, r, s, hv⟩ := (both_no x y w8 hx hy HU.out).2
      refine hv.mono ?_
      clear hv
      rintro e w9 ⟨rfl, hb⟩
      have K9 := K8.next hb
      clear hb K8
      go_wp2_with fail
      refine ((both_no x y _ hx hy HU.out).1).mono ?_
      rintro e w10 ⟨rfl, hb⟩
      have K10 := (K9.al _).next hb
      have u10 := cells_next (cells_new w9 #[.int .i64 0, .int .i64 0, .int .i64 0, .int .i64 0] 61) (by simp) hb
      have z10 : w9.heap.size < w10.heap.size := by have := hb.size; simp at this; omega
      clear hb K9
      go_wp2_with fail
      refine (err_any _ _).mono ?_
      rintro e w11 ⟨rfl, hb⟩
      have K11 := (K10.al _).next hb
      have u11 := cells_next (cells_alloc u10 z10 _) (by simp; omega) hb
      have x11 := cells_next (cells_new w10 #[.int .i64 0, .int .i64 0, .int .i64 0, .int .i64 0] 61) (by simp) hb
      have z11 : w9.heap.size < w11.heap.size := by have := hb.size; simp at this; omega
      have y11 : w10.heap.size < w11.heap.size := by have := hb.size; simp at this; omega
      clear hb K10 u10
      go_wp2_with fail
      refine (is_yes _ _ _ _ K11.et (T2 _)).mono ?_
      rintro e w12 ⟨rfl, hb⟩
      have K12 := K11.next hb
      have u12 := cells_next u11 z11 hb
      have x12 := cells_next x11 y11 hb
      clear hb K11 u11 x11
      go_wp2_with fail
      go_ret
      exact ⟨rfl, K12.bel⟩
end Go.Proofs.YtemlobepnfpalaaDoor.Isa
