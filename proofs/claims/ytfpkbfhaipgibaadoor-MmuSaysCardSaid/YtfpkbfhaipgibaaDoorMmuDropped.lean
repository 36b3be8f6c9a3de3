/- keyholdref.Dropped walked: what is left of what is remembered. -/
import Derived.Test.YtfpkbfhaipgibaaDoorMmuFound
import Derived.Test.YtfpkbfhaipgibaaDoorWords
namespace Go.Proofs.YtfpkbfhaipgibaaDoor.Mmu
open Go.RowKit Go.Proofs.YtfpkbfhaipgibaaDoor.Mem Go.Proofs.YtfpkbfhaipgibaaDoor.Bw Go.Proofs.YtfpkbfhaipgibaaDoor.Nums

theorem infoEnt : (Tryd.prog.info? 39).map (fun i => (i.zero, i.size, i.bytes)) = some (some (.agg #[.int .i64 0, .int .i64 0, .int .i64 0, .bool false]), 4, 32) := by kernel_rfl
def cellsE (l : List Ent) : List Value := l.flatMap fun q => [.int .i64 q.1, .int .i64 q.2.1, .int .i64 q.2.2.1, .bool q.2.2.2]
theorem cellsE_cons (q : Ent) (l : List Ent) : cellsE (q :: l) = .int .i64 q.1 :: .int .i64 q.2.1 :: .int .i64 q.2.2.1 :: .bool q.2.2.2 :: cellsE l := rfl
theorem cellsE_len (l : List Ent) : (cellsE l).length = l.length * 4 := by
  induction l with
  | nil => rfl
  | cons q l ih =>
    rw [cellsE_cons]
    simp only [List.length_cons, ih]
    omega
theorem cellsE_at (l : List Ent) (j : Nat) (h : j < l.length) : (cellsE l)[j * 4]? = some (.int .i64 l[j].1) ∧ (cellsE l)[j * 4 + 1]? = some (.int .i64 l[j].2.1) ∧ (cellsE l)[j * 4 + 2]? = some (.int .i64 l[j].2.2.1) ∧ (cellsE l)[j * 4 + 3]? = some (.bool l[j].2.2.2) := by
  induction l generalizing j with
  | nil => simp at h
  | cons q l ih =>
    rw [cellsE_cons]
    cases j with
    | zero => exact ⟨rfl, rfl, rfl, rfl⟩
    | succ j =>
      have := ih j (by simpa using h)
      have e2 : (j + 1) * 4 = j * 4 + 4 := by omega
      rw [e2]
      exact this
theorem cellsE_snoc (l : List Ent) (q : Ent) : cellsE (l ++ [q]) = cellsE l ++ [.int .i64 q.1, .int .i64 q.2.1, .int .i64 q.2.2.1, .bool q.2.2.2] := by
  unfold cellsE
  rw [List.flatMap_append]
  rfl
theorem fourE_new (W : World) (a b c d : Value) (e : TypeId) : ∀ (j : Nat) (x : Value), [a, b, c, d][j]? = some x → (W.alloc (.cells #[a, b, c, d] e)).cell? ((⟨W.heap.size, 0, none⟩ : Addr).add j) = some x := by
  intro j x h
  rw [show (⟨W.heap.size, 0, none⟩ : Addr).add j = ⟨W.heap.size, j, none⟩ from by unfold Addr.add; split <;> simp_all, World.cell?_alloc_at _ _ _ _ rfl]
  rw [← h]
  simp
theorem fourE_cell (a b c : Int) (d : Bool) : ∀ x ∈ [Value.int .i64 a, .int .i64 b, .int .i64 c, .bool d], x.oneCell' = true := by
  intro x hx
  simp at hx
  rcases hx with rfl | rfl | rfl | rfl <;> rfl
/-- A row that a call has built, as a list of entries. -/
theorem own_ents {w : World} {B : Nat} {v : Value} {l : List Ent} (h : w.ownsRow B 39 4 v l.length (cellsE l)) (hl : l.length ≤ 100) : TlbIn w v l := by
  rcases h.2 with ⟨rfl, h1⟩ | ⟨g, cap, cur, rfl, h1, _⟩
  · rw [List.length_eq_zero_iff.1 h1]
    exact ⟨none, 0, 0, 0, rfl, fun e => by simp at e, fun j hj => by simp at hj, by simp⟩
  · refine ⟨some ⟨g, 0, none⟩, g, 0, cap, rfl, fun _ => rfl, fun j hj => ?_, hl⟩
    obtain ⟨e0, e1, e2, e3⟩ := cellsE_at l j hj
    simp only [Nat.zero_add]
    rw [h.cellAt (j * 4) (by omega), h.cellAt (j * 4 + 1) (by omega), h.cellAt (j * 4 + 2) (by omega), h.cellAt (j * 4 + 3) (by omega)]
    exact ⟨e0, e1, e2, e3⟩
/-- D3: what stays. -/
def stays (s p : Int) (e : Ent) : Bool := e.1 != s || (decide (0 ≤ p) && e.2.1 != p)
def dropR (l : List Ent) (s p : Int) : List Ent := l.filter (stays s p)
theorem drop_len (l : List Ent) (s p : Int) : (dropR l s p).length ≤ l.length := List.length_filter_le _ _
theorem drop_take {l : List Ent} {s p : Int} {k : Nat} (h : k < l.length) : dropR (l.take (k + 1)) s p = dropR (l.take k) s p ++ (if stays s p l[k] = true then [l[k]] else []) := by
  unfold dropR
  rw [List.take_succ_eq_append_getElem h, List.filter_append]
  by_cases hs : stays s p l[k] = true
  · rw [if_pos hs, List.filter_cons_of_pos hs]; rfl
  · rw [if_neg hs, List.filter_cons_of_neg hs]; rfl
set_option maxHeartbeats 4000000 in
theorem dropped_any (v : Value) (l : List Ent) (s p : Int) (w : World) (hv : TlbIn w v l) :
    Calls Tryd.prog 20 #[v, .int .i64 s, .int .i64 p] w fun r w' => ∃ u, r = .returned u ∧ w'.ownsRow w.heap.size 39 4 u (dropR l s p).length (cellsE (dropR l s p)) ∧ Below w.heap.size w w' := by
  obtain ⟨i0, hi, hz0, hz1, hz2⟩ := info_get infoEnt
  obtain ⟨q, b, off, cap, rfl, hq, hz, hl⟩ := hv
  have HQ := hid hq
  have HZ := hid hz
  clear hq hz
  have hl2 : (l.length : Int) ≤ 100 := by omega
  go_enter Tryd.func20, Tryd.ntmps20
  go_wp2_with fail
  go_loopw [7, 8] (fun u i wr => ∃ (k : Nat) (m : List Ent), k ≤ l.length ∧ i = .int .i64 k ∧ Hid (m = dropR (l.take k) s p) ∧ Hid (wr.ownsRow w.heap.size 39 4 u m.length (cellsE m)) ∧ Hid (Below w.heap.size w wr)) (fun _ i _ => l.length - (intOf i).toNat)
  case atStart => exact ⟨0, [], by omega, rfl, hid rfl, hid (World.ownsRow_nil _ _ _ _), hid (Below.refl _ _)⟩
  case round =>
    obtain ⟨k, m, hk, rfl, HM, HO, HB⟩ := hrel
    have hm : m.length ≤ 100 := by
      rw [HM.out]
      exact Nat.le_trans (drop_len _ _ _) (by rw [List.length_take]; omega)
    by_cases hlt : k < l.length
    · have hlt2 : (k : Int) < (l.length : Int) := by omega
      have hk3 : ¬ ((k : Int) < 0) := by omega
      have hqe := HQ.out (by omega)
      subst hqe
      obtain ⟨c0, c1, c2, c3⟩ := (HZ.out.below HB.out) k hlt
      have HT := hid (drop_take (s := s) (p := p) hlt)
      generalize l[k] = e at c0 c1 c2 c3 HT
      obtain ⟨x, y, z, u⟩ := e
      simp only at c0 c1 c2 c3
      have HYES := hid (show stays s p (x, y, z, u) = true → m ++ [(x, y, z, u)] = dropR (l.take (k + 1)) s p from fun h => by rw [HT.out, if_pos h, HM.out])
      have HNO := hid (show stays s p (x, y, z, u) = false → m = dropR (l.take (k + 1)) s p from fun h => by rw [HT.out, if_neg (by rw [h]; decide), HM.out, List.append_nil])
      clear HT HM
      have KEEP := hid (show stays s p (x, y, z, u) = true → True from fun _ => trivial)
      by_cases h1 : x = s
      · subst h1
        have t1 : (x != x) = false := by simp
        by_cases h3 : 0 ≤ p
        · have t3 : p ≥ 0 := h3
          by_cases h2 : y = p
          · subst h2
            have t2 : (y != y) = false := by simp
            have HN := hid (HNO.out (by simp [stays]))
            clear HYES HNO KEEP
            go_wp2_with fail
            exact ⟨⟨k + 1, m, by omega, by go_num, HN, HO, HB⟩, by simp [intOf]; omega⟩
          · have t2 : (y != p) = true := by simpa using h2
            have HY := hid (HYES.out (by simp [stays, h2, h3]))
            clear HYES HNO KEEP
            go_wp2_with (at_builtin; refine wpList_append_own _ rfl _ _ 37 rfl w.heap.size 39 i0 (.agg #[.int .i64 0, .int .i64 0, .int .i64 0, .bool false]) 4 32 Tryd.underlying37 hi hz0 hz1 hz2 rfl (by decide) _ _ _ rfl (HO.out.alloc _) ⟨_, 0, none⟩ 1 1 [.int .i64 x, .int .i64 y, .int .i64 z, .bool u] rfl rfl (fourE_new _ _ _ _ _ _) (fourE_cell _ _ _ _) (by unfold maxLen; omega) (by omega) (by have := HB.out.size; simp; omega) ?_; intro v' w5 hown' hgrow _; have B5 := hid ((bal HB.out _).grown hgrow (by have := HB.out.size; simp; omega) (fun k hk => (HO.out.lt k hk).1)); have O5 := hid hown'; clear hown' hgrow)
            refine ⟨⟨k + 1, m ++ [(x, y, z, u)], by omega, by go_num, HY, hid ?_, B5⟩, by simp [intOf]; omega⟩
            rw [cellsE_snoc, List.length_append]
            exact O5.out
        · have t3 : ¬ (p ≥ 0) := h3
          have HN := hid (HNO.out (by simp [stays, h3]))
          clear HYES HNO KEEP
          go_wp2_with fail
          exact ⟨⟨k + 1, m, by omega, by go_num, HN, HO, HB⟩, by simp [intOf]; omega⟩
      · have t1 : (x != s) = true := by simpa using h1
        have HY := hid (HYES.out (by simp [stays, h1]))
        clear HYES HNO KEEP
        go_wp2_with (at_builtin; refine wpList_append_own _ rfl _ _ 37 rfl w.heap.size 39 i0 (.agg #[.int .i64 0, .int .i64 0, .int .i64 0, .bool false]) 4 32 Tryd.underlying37 hi hz0 hz1 hz2 rfl (by decide) _ _ _ rfl (HO.out.alloc _) ⟨_, 0, none⟩ 1 1 [.int .i64 x, .int .i64 y, .int .i64 z, .bool u] rfl rfl (fourE_new _ _ _ _ _ _) (fourE_cell _ _ _ _) (by unfold maxLen; omega) (by omega) (by have := HB.out.size; simp; omega) ?_; intro v' w5 hown' hgrow _; have B5 := hid ((bal HB.out _).grown hgrow (by have := HB.out.size; simp; omega) (fun k hk => (HO.out.lt k hk).1)); have O5 := hid hown'; clear hown' hgrow)
        refine ⟨⟨k + 1, m ++ [(x, y, z, u)], by omega, by go_num, HY, hid ?_, B5⟩, by simp [intOf]; omega⟩
        rw [cellsE_snoc, List.length_append]
        exact O5.out
    · obtain rfl : k = l.length := by omega
      have hge : ¬ ((l.length : Int) < (l.length : Int)) := by omega
      have HF := hid (show m = dropR l s p by rw [HM.out, List.take_length])
      go_wp2_with fail
      go_ret
      refine ⟨_, rfl, ?_, HB.out⟩
      rw [← HF.out]
      exact HO.out
end Go.Proofs.YtfpkbfhaipgibaaDoor.Mmu
