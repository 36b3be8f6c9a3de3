/- word.Unhex, walked. -/
import Derived.Test.YtemlobepnfpalaaDoorUnhexRef
namespace Go.Proofs.YtemlobepnfpalaaDoor.Hex
open Go.RowKit Go.Proofs.YtemlobepnfpalaaDoor.Mem Go.Proofs.YtemlobepnfpalaaDoor.Isa Go.Proofs.YtemlobepnfpalaaDoor.Txt

/-- The library's variable internal/bytealg.MaxLen holds some number. -/
def MLok (w : World) : Prop := ∃ m, w.cell? ⟨3, 0, none⟩ = some (.int .i64 m)
theorem MLok.below {w w' : World} (h : MLok w) (hb : Below w.heap.size w w') : MLok w' := by
  obtain ⟨m, hm⟩ := h
  exact ⟨m, cellB hm hb⟩
theorem split_any (s : ByteArray) (c : UInt8) (w : World) (hs : s.size ≤ 100000) (hM : MLok w) :
    Calls Tryd.prog 42 #[.string s, .string ⟨#[c]⟩] w fun e w' => ∃ b cap, e = .returned (.slice (some ⟨b, 0, none⟩) (cutB c s).length cap) ∧ StrsAt w' b 0 (cutB c s) ∧ Below w.heap.size w w' := by
  obtain ⟨m, hm⟩ := hM
  refine (Tryd.strings_Split s ⟨#[c]⟩ m w (by omega) hm (Nat.le_refl 1)).mono ?_
  rintro e w' ⟨rfl, rfl⟩
  refine ⟨w.heap.size, Lib.countB s ⟨#[c]⟩ + 1, by rw [← cutB_len], fun j hj => ?_, bal (Below.refl _ _) _⟩
  rw [Nat.zero_add, World.cell?_alloc_at _ _ _ _ rfl, splitB_cut]
  simp [List.getElem?_eq_getElem hj]
theorem split_cap (s : ByteArray) (c : UInt8) (w : World) (hs : s.size ≤ 100000) (hM : MLok w) :
    Calls Tryd.prog 42 #[.string s, .string ⟨#[c]⟩] w fun e w' => ∃ b cap, e = .returned (.slice (some ⟨b, 0, none⟩) (cutB c s).length cap) ∧ StrsAt w' b 0 (cutB c s) ∧ Below w.heap.size w w' ∧ (cutB c s).length ≤ cap := by
  obtain ⟨m, hm⟩ := hM
  refine (Tryd.strings_Split s ⟨#[c]⟩ m w (by omega) hm (Nat.le_refl 1)).mono ?_
  rintro e w' ⟨rfl, rfl⟩
  refine ⟨w.heap.size, Lib.countB s ⟨#[c]⟩ + 1, by rw [← cutB_len], fun j hj => ?_, bal (Below.refl _ _) _, by rw [← cutB_len]; exact Nat.le_refl _⟩
  rw [Nat.zero_add, World.cell?_alloc_at _ _ _ _ rfl, splitB_cut]
  simp [List.getElem?_eq_getElem hj]
theorem unhex_long (s : ByteArray) (w : World) (h : 4000 < s.size) :
    Calls Tryd.prog 23 #[.string s] w fun e w' => e = .returned (.tuple #[.slice none 0 0, .iface 22 (.int .i64 2)]) ∧ Below w.heap.size w w' := by
  have h2 : 4000 < (s.size : Int) := by omega
  go_enter Tryd.func23, Tryd.ntmps23
  go_wp2_with fail
  go_ret2
  exact ⟨rfl, Below.refl _ _⟩
theorem is_empty {s : ByteArray} (h : s.size = 0) : s.toList.isEmpty = true := by
  rw [List.isEmpty_iff, ByteArray.toList_eq, ← List.length_eq_zero_iff]
  exact h
theorem unhex_nil (s : ByteArray) (w : World) (h : s.size = 0) :
    Calls Tryd.prog 23 #[.string s] w fun e w' => e = .returned (.tuple #[.slice none 0 0, .nilIface]) ∧ Below w.heap.size w w' := by
  have he := is_empty h
  go_enter Tryd.func23, Tryd.ntmps23
  go_wp2_with fail
  go_ret2
  exact ⟨rfl, Below.refl _ _⟩
theorem unhexOf_long (s : ByteArray) (w : World) (h : 4000 < s.size) :
    Calls Tryd.prog 22 #[.string s] w fun e w' => e = .returned (.tuple #[.slice none 0 0, .agg #[.int .i64 2, .int .i64 (-1)]]) ∧ Below w.heap.size w w' := by
  have h2 : 4000 < (s.size : Int) := by omega
  go_enter Tryd.func22, Tryd.ntmps22
  go_wp2_with fail
  refine (err_any _ _).mono ?_
  rintro e w1 ⟨rfl, hb1⟩
  have c1 := cells_next (cells_new w #[.int .i64 0, .int .i64 0] 41) (by simp) hb1
  have f1 : ∀ o, w1.frozen? ⟨w.heap.size, o, none⟩ = false := fun o => (hb1.frozen (p := ⟨w.heap.size, o, none⟩) (by simp)).trans (World.frozen?_alloc_at _ _ _ _ rfl)
  have B1 := hid (btr (bal (Below.refl _ _) _) hb1)
  clear hb1
  go_wp2_with fail
  have q := two_set (v0 := .int .i64 2) (v1 := .int .i64 (-1)) c1
  exact bodyPost_ret (v := .tuple #[.slice none 0 0, .agg #[.int .i64 2, .int .i64 (-1)]]) (by simp [results, Tryd.results22, go_sem, q 0, q 1]) rfl ⟨rfl, bset (bset B1.out (Nat.le_refl _) _) (Nat.le_refl _) _⟩
theorem unhexOf_nil (s : ByteArray) (w : World) (h : s.size = 0) :
    Calls Tryd.prog 22 #[.string s] w fun e w' => e = .returned (.tuple #[.slice none 0 0, .agg #[.int .i64 0, .int .i64 (-1)]]) ∧ Below w.heap.size w w' := by
  have he := is_empty h
  go_enter Tryd.func22, Tryd.ntmps22
  go_wp2_with fail
  refine (fine_any _).mono ?_
  rintro e w1 ⟨rfl, hb1⟩
  have c1 := cells_next (cells_new w #[.int .i64 0, .int .i64 0] 41) (by simp) hb1
  have f1 : ∀ o, w1.frozen? ⟨w.heap.size, o, none⟩ = false := fun o => (hb1.frozen (p := ⟨w.heap.size, o, none⟩) (by simp)).trans (World.frozen?_alloc_at _ _ _ _ rfl)
  have B1 := hid (btr (bal (Below.refl _ _) _) hb1)
  clear hb1
  go_wp2_with fail
  have q := two_set (v0 := .int .i64 0) (v1 := .int .i64 (-1)) c1
  exact bodyPost_ret (v := .tuple #[.slice none 0 0, .agg #[.int .i64 0, .int .i64 (-1)]]) (by simp [results, Tryd.results22, go_sem, q 0, q 1]) rfl ⟨rfl, bset (bset B1.out (Nat.le_refl _) _) (Nat.le_refl _) _⟩
set_option maxHeartbeats 4000000 in
theorem unhex_some (s : ByteArray) (m : Nat) (w : World) (hM : MLok w) (hs : s.size ≤ 4000) (h0 : s.size ≠ 0) (hm : m ≤ (cutB 32 s).length) (hv : ∀ j (h : j < (cutB 32 s).length), j < m → wordB (cutB 32 s)[j] = true) (hx : ∀ h : m < (cutB 32 s).length, wordB (cutB 32 s)[m] = false) :
    Calls Tryd.prog 23 #[.string s] w fun e w' => ∃ v ev, e = .returned (.tuple #[v, ev]) ∧ Below w.heap.size w w' ∧
      ((m = (cutB 32 s).length ∧ ev = .nilIface ∧ ∃ b cap, v = .slice (some ⟨b, 0, none⟩) (nums (cutB 32 s)).length cap ∧ IntsAt w' b 0 (nums (cutB 32 s))) ∨ (m < (cutB 32 s).length ∧ Tells w' ev 1 m ∧ v = .slice none 0 0)) := by
  obtain ⟨i0, hi, hz0, hz1, hz2⟩ := info_parts infoInt
  have HV := hid hv
  have HX := hid hx
  clear hv hx
  have HC := hid (split_any s 32 w (by omega) hM)
  have hll : (cutB 32 s).length ≤ 4001 := by
    have := cutL_len 32 s.data.toList
    rw [← size_list] at this
    simp only [cutB, List.length_map]
    omega
  have HNE := hid (show (cutB 32 s) ≠ [] by unfold cutB; simp [cutL_ne])
  generalize cutB 32 s = zs at *
  have hs2 : ¬ (4000 < (s.size : Int)) := by omega
  have he := not_empty h0
  clear h0
  go_enter Tryd.func23, Tryd.ntmps23
  go_wp2_with fail
  refine HC.out.mono ?_
  rintro e w2 ⟨lb, lc, rfl, hS, hb2⟩
  have S2 := hid hS
  have B2 := hid hb2
  clear hS hb2
  go_wp2_with fail
  go_loopw [4, 18] (fun v i wr => ∃ k : Nat, k ≤ m ∧ i = .int .i64 k ∧ wr.ownsRow w2.heap.size 3 1 v k (ints (nums (zs.take k))) ∧ Below w2.heap.size w2 wr) (fun _ i _ => zs.length - (intOf i).toNat)
  case atStart => exact ⟨0, by omega, rfl, World.ownsRow_nil _ _ _ _, Below.refl _ _⟩
  case round =>
    obtain ⟨k, hk, rfl, hO, hB⟩ := hrel
    have HO := hid hO
    have HB := hid hB
    have SR := hid (S2.out.below hB)
    clear hO hB
    by_cases hlt : k < zs.length
    · have hlt2 : (k : Int) < (zs.length : Int) := by omega
      have hc := SR.out k hlt
      rw [Nat.zero_add] at hc
      have HQ := hid (List.take_succ_eq_append_getElem hlt)
      have HV1 := hid (HV.out k hlt)
      have HX1 := hid (show k = m → wordB zs[k] = false by rintro rfl; exact HX.out hlt)
      generalize zs[k] = t at hc HQ HV1 HX1
      go_wp2_with fail
      refine (readWord_any t _).mono ?_
      rintro e w4 ⟨rfl, hb4⟩
      have B4 := hid (HB.out.trans (hb4.mono HB.out.size))
      have O4 := hid (Bld.own_below HO.out hb4)
      clear hb4
      by_cases hkm : k < m
      · rw [rwV_yes (HV1.out hkm)]
        go_wp2_with (at_builtin; refine wpList_append_own _ rfl _ _ 48 rfl w2.heap.size 3 i0 (.int .i64 0) 1 8 Tryd.underlying48 hi hz0 hz1 hz2 rfl (by decide) _ _ _ rfl (O4.out.alloc _) ⟨w4.heap.size, 0, none⟩ 1 1 [.int .i64 (num t.data.toList)] rfl rfl (one_new _ _ _) (one_cell _ rfl) ?c3 ?c4 ?c5 ?_)
        case c3 => unfold maxLen; omega
        case c4 => omega
        case c5 => have := B4.out.size; simp; omega
        intro v' w5 hown' hgrow _
        have B5 := hid ((bal B4.out _).grown hgrow (by have := B4.out.size; simp; omega) (fun k hk => (O4.out.lt k hk).1))
        have O5 := hid hown'
        clear hown' hgrow
        go_wp2_with fail
        refine ⟨⟨k + 1, by omega, by go_num, ?_, B5.out⟩, by simp [intOf]; omega⟩
        rw [HQ.out]
        have e := O5.out
        simpa [nums, ints] using e
      · obtain rfl : k = m := by omega
        rw [rwV_no (HX1.out rfl)]
        go_wp2_with fail
        go_ret2
        refine ⟨_, _, rfl, bal (B2.out.trans (B4.out.mono B2.out.size)) _, .inr ⟨hlt, .inr (.inr ⟨w4.heap.size, 0, rfl, World.cell?_alloc_at _ _ _ _ rfl, ?_⟩), rfl⟩⟩
        rw [World.cell?_alloc_at _ _ _ _ rfl]
        rfl
    · obtain rfl : k = zs.length := by omega
      have hge : ¬ ((zs.length : Int) < (zs.length : Int)) := by omega
      have HKM := hid (show m = zs.length by omega)
      have O := HO.out
      rw [List.take_length] at O
      obtain ⟨rb, rc, hv5, hI⟩ : ∃ b cap, u4 = .slice (some ⟨b, 0, none⟩) (nums zs).length cap ∧ IntsAt wr b 0 (nums zs) := by
        rcases O.2 with ⟨_, h1⟩ | ⟨g, cap, cur, hu, hgb, _⟩
        · exact absurd (List.length_eq_zero_iff.1 h1) HNE.out
        · refine ⟨g, cap, by rw [hu]; simp [nums], fun j hj => ?_⟩
          have hj2 : j < zs.length := by simpa [nums] using hj
          rw [hu] at O
          rw [Nat.zero_add, O.cellAt j (by omega)]
          simp [ints, List.getElem?_eq_getElem hj]
      subst hv5
      have HI := hid hI
      clear O hI
      go_wp2_with fail
      go_ret2
      exact ⟨_, _, rfl, B2.out.trans (HB.out.mono B2.out.size), .inl ⟨HKM.out, rfl, rb, ⟨rc, rfl⟩, HI.out⟩⟩
/-- A list of numbers as a slice; none has no memory. -/
def Lists (w : World) (v : Value) (l : List Int) : Prop := (v = .slice none 0 0 ∧ l = []) ∨ (l ≠ [] ∧ l.length ≤ 100000 ∧ ∃ b cap, v = .slice (some ⟨b, 0, none⟩) l.length cap ∧ IntsAt w b 0 l)
theorem Lists.below {w w' : World} {v : Value} {l : List Int} (h : Lists w v l) (hb : Below w.heap.size w w') : Lists w' v l := by
  rcases h with h | ⟨h1, h2, b, cap, h3, h4⟩
  · exact .inl h
  · exact .inr ⟨h1, h2, b, cap, h3, h4.below hb⟩
theorem Lists.far {w : World} {v : Value} {l : List Int} (h : Lists w v l) {B i : Nat} (hB : ∀ b, v.ownBlock = some b → B ≠ b) (u : Value) : Lists (w.setCell ⟨B, i, none⟩ u) v l := by
  rcases h with h | ⟨h1, h2, b, cap, h3, h4⟩
  · exact .inl h
  · exact .inr ⟨h1, h2, b, cap, h3, h4.far (hB b (by rw [h3]; rfl)) u⟩
theorem same_any (v v2 : Value) (l : List Int) (w : World) (h1 : Lists w v l) (h2 : Lists w v2 l) :
    Calls Tryd.prog 24 #[v, v2] w fun e w' => e = .returned (.bool true) ∧ Below w.heap.size w w' := by
  rcases h1 with ⟨rfl, rfl⟩ | ⟨a1, a2, b, cap, rfl, a3⟩
  · rcases h2 with ⟨rfl, _⟩ | ⟨c1, _⟩
    · exact same_nil w
    · exact absurd rfl c1
  · rcases h2 with ⟨_, c1⟩ | ⟨_, _, b2, cap2, rfl, c3⟩
    · exact absurd c1 a1
    · exact same_yes l b 0 cap b2 0 cap2 w a3 c3 a2
theorem first_no (f : ByteArray → Bool) (zs : List ByteArray) : ∃ m, m ≤ zs.length ∧ (∀ j (h : j < zs.length), j < m → f zs[j] = true) ∧ (∀ h : m < zs.length, f zs[m] = false) := by
  induction zs with
  | nil => exact ⟨0, by simp, fun j h => by simp at h, fun h => by simp at h⟩
  | cons q zs ih =>
    by_cases hq : f q = true
    · obtain ⟨m, h1, h2, h3⟩ := ih
      refine ⟨m + 1, by simpa using h1, fun j hj hjm => ?_, fun h => ?_⟩
      · cases j with
        | zero => exact hq
        | succ j => exact h2 j (by simpa using hj) (by omega)
      · exact h3 (by simpa using h)
    · exact ⟨0, by omega, fun j _ h => by omega, fun _ => by simpa using hq⟩
theorem cut_size (s : ByteArray) (h : s.size ≤ 4000) : (cutB 32 s).length ≤ 4001 := by
  have := cutL_len 32 s.data.toList
  rw [← size_list] at this
  simp only [cutB, List.length_map]
  omega
theorem nums_ne (s : ByteArray) : nums (cutB 32 s) ≠ [] := by
  unfold nums cutB
  simp [cutL_ne]
/-- Both sides answer one list and one error. -/
theorem unhex_both (s : ByteArray) (hs : s.size ≤ 1500 ∨ 4000 < s.size) : ∃ (x y : Int) (l : List Int),
    (∀ w, Calls Tryd.prog 22 #[.string s] w fun e w' => ∃ v, e = .returned (.tuple #[v, .agg #[.int .i64 x, .int .i64 y]]) ∧ Below w.heap.size w w' ∧ Lists w' v l ∧ (∀ b, v.ownBlock = some b → w.heap.size ≤ b)) ∧
    (∀ w, MLok w → Calls Tryd.prog 23 #[.string s] w fun e w' => ∃ v ev, e = .returned (.tuple #[v, ev]) ∧ Below w.heap.size w w' ∧ Lists w' v l ∧ Tells w' ev x y) := by
  rcases hs with hs | hs
  · by_cases h0 : s.size = 0
    · refine ⟨0, -1, [], fun w => (unhexOf_nil s w h0).mono ?_, fun w _ => (unhex_nil s w h0).mono ?_⟩
      · rintro e w' ⟨rfl, hb⟩
        exact ⟨_, rfl, hb, .inl ⟨rfl, rfl⟩, fun b h => by cases h⟩
      · rintro e w' ⟨rfl, hb⟩
        exact ⟨_, _, rfl, hb, .inl ⟨rfl, rfl⟩, .inl ⟨rfl, rfl, rfl⟩⟩
    · obtain ⟨m, hm, hv, hx⟩ := first_no wordB (cutB 32 s)
      have hl := cut_size s (by omega)
      have hne := nums_ne s
      have hnl : (nums (cutB 32 s)).length ≤ 100000 := by simp only [nums, List.length_map]; omega
      by_cases hmm : m = (cutB 32 s).length
      · refine ⟨0, -1, nums (cutB 32 s), fun w => (unhexOf_some s m w (by omega) h0 hm hv hx).mono ?_, fun w hM => (unhex_some s m w hM (by omega) h0 hm hv hx).mono ?_⟩
        · rintro e w' ⟨v, x, y, rfl, hb, h⟩
          rcases h with ⟨_, rfl, rfl, b, cap, rfl, h1, h2⟩ | ⟨h1, _⟩
          · exact ⟨_, rfl, hb, .inr ⟨hne, hnl, b, cap, rfl, h2⟩, fun b' h => by cases h; exact h1⟩
          · omega
        · rintro e w' ⟨v, ev, rfl, hb, h⟩
          rcases h with ⟨_, rfl, b, cap, rfl, h2⟩ | ⟨h1, _⟩
          · exact ⟨_, _, rfl, hb, .inr ⟨hne, hnl, b, cap, rfl, h2⟩, .inl ⟨rfl, rfl, rfl⟩⟩
          · omega
      · refine ⟨1, m, [], fun w => (unhexOf_some s m w (by omega) h0 hm hv hx).mono ?_, fun w hM => (unhex_some s m w hM (by omega) h0 hm hv hx).mono ?_⟩
        · rintro e w' ⟨v, x, y, rfl, hb, h⟩
          rcases h with ⟨h1, _⟩ | ⟨_, rfl, rfl, rfl⟩
          · omega
          · exact ⟨_, rfl, hb, .inl ⟨rfl, rfl⟩, fun b h => by cases h⟩
        · rintro e w' ⟨v, ev, rfl, hb, h⟩
          rcases h with ⟨h1, _⟩ | ⟨_, h2, rfl⟩
          · omega
          · exact ⟨_, _, rfl, hb, .inl ⟨rfl, rfl⟩, h2⟩
  · refine ⟨2, -1, [], fun w => (unhexOf_long s w hs).mono ?_, fun w _ => (unhex_long s w hs).mono ?_⟩
    · rintro e w' ⟨rfl, hb⟩
      exact ⟨_, rfl, hb, .inl ⟨rfl, rfl⟩, fun b h => by cases h⟩
    · rintro e w' ⟨rfl, hb⟩
      exact ⟨_, _, rfl, hb, .inl ⟨rfl, rfl⟩, .inr (.inl ⟨rfl, rfl⟩)⟩
end Go.Proofs.YtemlobepnfpalaaDoor.Hex
