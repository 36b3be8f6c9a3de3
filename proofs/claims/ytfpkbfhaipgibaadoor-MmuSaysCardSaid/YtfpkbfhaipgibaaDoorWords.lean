/- keyholdlaw.words, keyholdref.Blank and keyholdref.Same, walked. -/
import Derived.Test.YtfpkbfhaipgibaaDoorInts
import Derived.Test.YtfpkbfhaipgibaaDoorKept
import Derived.Deep.QuietTactic
import Derived.BigQuiet
import Derived.OwnWalk
import Derived.Laws.OwnMore
namespace Go.Proofs.YtfpkbfhaipgibaaDoor.Nums
open Go.RowKit Go.Proofs.YtfpkbfhaipgibaaDoor.Mem

theorem info_get {P : Program} {t : TypeId} {z : Value} {s b : Nat} (h : (P.info? t).map (fun i => (i.zero, i.size, i.bytes)) = some (some z, s, b)) : ∃ i0, P.info? t = some i0 ∧ i0.zero = some z ∧ i0.size = s ∧ i0.bytes = b := by
  cases hi : P.info? t with
  | none => rw [hi] at h; cases h
  | some i0 =>
    rw [hi] at h
    simp at h
    exact ⟨i0, rfl, h.1, h.2.1, h.2.2⟩
theorem infoI : (Tryd.prog.info? 3).map (fun i => (i.zero, i.size, i.bytes)) = some (some (.int .i64 0), 1, 8) := by kernel_rfl
theorem new1 (W : World) (u : Value) (e : TypeId) : ∀ (j : Nat) (x : Value), [u][j]? = some x → (W.alloc (.cells #[u] e)).cell? ((⟨W.heap.size, 0, none⟩ : Addr).add j) = some x := by
  intro j x h
  rw [show (⟨W.heap.size, 0, none⟩ : Addr).add j = ⟨W.heap.size, j, none⟩ from by unfold Addr.add; split <;> simp_all, World.cell?_alloc_at _ _ _ _ rfl]
  rw [← h]
  simp
theorem int1 (a : Int) : ∀ x ∈ [Value.int .i64 a], x.oneCell' = true := by
  intro x hx
  simp at hx
  subst hx
  rfl
theorem own_below {w w' : World} {B e size n : Nat} {v : Value} {xs : List Value} (h : w.ownsRow B e size v n xs) (hb : Below w.heap.size w w') : w'.ownsRow B e size v n xs := by
  refine ⟨h.1, ?_⟩
  rcases h.2 with h2 | ⟨g, cap, cur, h1, h2, h3, h4⟩
  · exact .inl h2
  · have hl : g < w.heap.size := by
      by_cases hl : g < w.heap.size
      · exact hl
      · rw [Array.getElem?_eq_none (by omega)] at h3; cases h3
    exact .inr ⟨g, cap, cur, h1, h2, (hb.block g hl).trans h3, h4⟩
def ints (l : List Int) : List Value := l.map (.int .i64)
/-- Numbers as words. -/
def wordsL (zs : List Int) : List Int := zs.map (pickV · 65536)
theorem wordsL_take (zs : List Int) (k : Nat) (h : k < zs.length) : ints (wordsL (zs.take (k + 1))) = ints (wordsL (zs.take k)) ++ [.int .i64 (pickV zs[k] 65536)] := by
  unfold ints wordsL
  rw [List.take_succ_eq_append_getElem h, List.map_append, List.map_append]
  rfl
theorem wordsL_word (zs : List Int) : ∀ z ∈ wordsL zs, 0 ≤ z ∧ z < 65536 := by
  intro z hz
  obtain ⟨x, _, rfl⟩ := List.mem_map.1 hz
  exact pickV_bound x 65536 (by decide)
/-- A slice of numbers that was handed in. -/
def RawIn (w : World) (v : Value) (zs : List Int) : Prop := ∃ q b off cap, v = .slice q zs.length cap ∧ (0 < zs.length → q = some ⟨b, off, none⟩) ∧ IntsAt w b off zs ∧ ∀ z ∈ zs, -9223372036854775808 ≤ z ∧ z ≤ 9223372036854775807
theorem RawIn.below {w w' : World} {v : Value} {zs : List Int} (h : RawIn w v zs) (hb : Below w.heap.size w w') : RawIn w' v zs := by
  obtain ⟨q, b, off, cap, h1, h2, h3, h4⟩ := h
  exact ⟨q, b, off, cap, h1, h2, h3.below hb, h4⟩
set_option maxHeartbeats 2000000 in
theorem words_any (v : Value) (zs : List Int) (w : World) (hv : RawIn w v zs) (hl : zs.length ≤ 1000) :
    Calls Tryd.prog 12 #[v] w fun e w' => ∃ u, e = .returned u ∧ w'.ownsRow w.heap.size 3 1 u zs.length (ints (wordsL zs)) ∧ Below w.heap.size w w' := by
  obtain ⟨i0, hi, hz0, hz1, hz2⟩ := info_get infoI
  obtain ⟨q, b, off, cap, rfl, hq, hz, hbd⟩ := hv
  have HQ := hid hq
  have HZ := hid hz
  have HBD := hid hbd
  clear hq hz hbd
  have hl2 : (zs.length : Int) ≤ 1000 := by omega
  go_enter Tryd.func12, Tryd.ntmps12
  go_wp2_with fail
  go_loopw [3, 4] (fun u i wr => ∃ k : Nat, k ≤ zs.length ∧ i = .int .i64 k ∧ wr.ownsRow w.heap.size 3 1 u k (ints (wordsL (zs.take k))) ∧ Below w.heap.size w wr) (fun _ i _ => zs.length - (intOf i).toNat)
  case atStart => exact ⟨0, by omega, rfl, World.ownsRow_nil _ _ _ _, Below.refl _ _⟩
  case round =>
    obtain ⟨k, hk, rfl, hO, hB⟩ := hrel
    have HO := hid hO
    have HB := hid hB
    clear hO hB
    by_cases hlt : k < zs.length
    · have hlt2 : (k : Int) < (zs.length : Int) := by omega
      have hqe := HQ.out (by omega)
      subst hqe
      have hc := (HZ.out.below HB.out) k hlt
      obtain ⟨m0, m1⟩ := HBD.out zs[k] (List.getElem_mem hlt)
      have HT := hid (wordsL_take zs k hlt)
      generalize zs[k] = z at hc m0 m1 HT
      go_wp2_with (first
        | (go_at_call 28; refine (pick_eq _ _ _ m0 m1 (by decide)).mono ?_; rintro e w' ⟨rfl, rfl⟩)
        | (at_builtin; refine wpList_append_own _ rfl _ _ 36 rfl w.heap.size 3 i0 (.int .i64 0) 1 8 Tryd.underlying36 hi hz0 hz1 hz2 rfl (by decide) _ _ _ rfl (HO.out.alloc _) ⟨wr.heap.size, 0, none⟩ 1 1 [.int .i64 (pickV z 65536)] rfl rfl (new1 _ _ _) (int1 _) (by unfold maxLen; omega) (by omega) (by have := HB.out.size; simp; omega) ?_; intro v' w5 hown' hgrow _; have B5 := hid ((bal HB.out _).grown hgrow (by have := HB.out.size; simp; omega) (fun k hk => (HO.out.lt k hk).1)); have O5 := hid hown'; clear hown' hgrow))
      refine ⟨⟨k + 1, by omega, by go_num, ?_, B5.out⟩, by simp [intOf]; omega⟩
      rw [HT.out]
      exact O5.out
    · obtain rfl : k = zs.length := by omega
      have hge : ¬ ((zs.length : Int) < (zs.length : Int)) := by omega
      have HF := hid (show zs.take zs.length = zs from List.take_length)
      go_wp2_with fail
      go_ret
      refine ⟨_, rfl, ?_, HB.out⟩
      have := HO.out
      rw [HF.out] at this
      exact this
set_option maxHeartbeats 2000000 in
theorem same_yes (q q2 : Option Addr) (b b2 off off2 cap cap2 : Nat) (zs : List Int) (w : World) (hq : 0 < zs.length → q = some ⟨b, off, none⟩) (hq2 : 0 < zs.length → q2 = some ⟨b2, off2, none⟩) (hz : IntsAt w b off zs) (hz2 : IntsAt w b2 off2 zs) (hl : zs.length ≤ 100000) :
    Calls Tryd.prog 66 #[.slice q zs.length cap, .slice q2 zs.length cap2] w fun e w' => e = .returned (.bool true) ∧ Below w.heap.size w w' := by
  have HQ := hid hq
  have HQ2 := hid hq2
  have HZ := hid hz
  have HZ2 := hid hz2
  clear hq hq2 hz hz2
  go_enter Tryd.func66, Tryd.ntmps66
  go_wp2_with fail
  go_loopw [5] (fun i wr => ∃ k : Nat, k ≤ zs.length ∧ i = .int .i64 k ∧ Below w.heap.size w wr) (fun i _ => zs.length - (intOf i).toNat)
  case atStart => exact ⟨0, by omega, rfl, Below.refl _ _⟩
  case round =>
    obtain ⟨k, hk, rfl, hB⟩ := hrel
    have HB := hid hB
    clear hB
    by_cases hlt : k < zs.length
    · have hlt2 : (k : Int) < (zs.length : Int) := by omega
      have hqe := HQ.out (by omega)
      have hqe2 := HQ2.out (by omega)
      subst hqe hqe2
      have hc := (HZ.out.below HB.out) k hlt
      have hc2 := (HZ2.out.below HB.out) k hlt
      generalize zs[k] = z at hc hc2
      go_wp2_with fail
      go_quiet (fail)
      go_wp2_with fail
      exact ⟨⟨k + 1, by omega, by go_num, below_drewN HB.out nq⟩, by simp [intOf]; omega⟩
    · obtain rfl : k = zs.length := by omega
      have hge : ¬ ((zs.length : Int) < (zs.length : Int)) := by omega
      go_wp2_with fail
      go_ret
      exact ⟨rfl, HB.out⟩
end Go.Proofs.YtfpkbfhaipgibaaDoor.Nums
