/- keyholdref.isLabel, keyholdref.digits, walked. -/
import Derived.Test.YtfpkbfhaipgibaaDoorPrsSmall
namespace Go.Proofs.YtfpkbfhaipgibaaDoor.Prs
open Go.RowKit Go.Proofs.YtfpkbfhaipgibaaDoor.Mem Go.Proofs.YtfpkbfhaipgibaaDoor.Hex

theorem refLabel_head (t : ByteArray) (w : World) (h : t.size = 0 ∨ 8 < t.size ∨ ∃ h : 0 < t.size, ¬ letterP t[0].toNat) :
    Calls Tryd.prog 38 #[.string t] w fun e w' => e = .returned (.bool (nameB' t)) ∧ Below w.heap.size w w' := by
  rw [name_no (t := t) (fun e => by
    obtain ⟨a, b, c⟩ := e
    rcases h with h | h | ⟨hp, h⟩
    · omega
    · omega
    · rcases c 0 hp with c | ⟨c, _⟩
      · exact h c
      · exact c rfl)]
  by_cases h0 : t.size = 0
  · have he := is_empty h0
    clear h
    go_enter Tryd.func38, Tryd.ntmps38
    go_wp2_with fail
    go_ret
    exact ⟨rfl, Below.refl _ _⟩
  · have he := not_empty' h0
    by_cases h8 : (8 : Int) < (t.size : Int)
    · clear h
      go_enter Tryd.func38, Tryd.ntmps38
      go_wp2_with fail
      go_ret
      exact ⟨rfl, Below.refl _ _⟩
    · have hp : 0 < t.size := by omega
      have hp2 : (0 : Int) < (t.size : Int) := by omega
      have hl : ¬ letterP t[0].toNat := by
        rcases h with h | h | ⟨_, h⟩
        · omega
        · omega
        · exact h
      clear h
      have h1 : ((t[0].toNat : Int) < 97) ∨ (¬ (t[0].toNat : Int) < 97 ∧ (122 : Int) < t[0].toNat) := by unfold letterP at hl; omega
      rcases h1 with h1 | ⟨h1, h2⟩
      all_goals
        go_enter Tryd.func38, Tryd.ntmps38
        go_wp2_with fail
        go_ret
        exact ⟨rfl, Below.refl _ _⟩
set_option maxHeartbeats 2000000 in
theorem refLabel_any (t : ByteArray) (w : World) :
    Calls Tryd.prog 38 #[.string t] w fun e w' => e = .returned (.bool (nameB' t)) ∧ Below w.heap.size w w' := by
  by_cases hh : t.size = 0 ∨ 8 < t.size ∨ ∃ h : 0 < t.size, ¬ letterP t[0].toNat
  · exact refLabel_head t w hh
  have he := not_empty' (s := t) (by omega)
  have h8 : ¬ (8 : Int) < (t.size : Int) := by omega
  have hp : 0 < t.size := by omega
  have hp2 : (0 : Int) < (t.size : Int) := by omega
  have hl : letterP t[0].toNat := Classical.byContradiction fun e => hh (.inr (.inr ⟨hp, e⟩))
  have h1 : ¬ (t[0].toNat : Int) < 97 := by unfold letterP at hl; omega
  have h2 : ¬ (122 : Int) < t[0].toNat := by unfold letterP at hl; omega
  have HL := hid hl
  clear hh hl
  go_enter Tryd.func38, Tryd.ntmps38
  go_wp2_with fail
  go_loopw [3] (fun i wr => ∃ k : Nat, k ≤ t.size ∧ i = .int .i64 k ∧ (∀ j (h : j < t.size), j < k → letterP t[j].toNat ∨ digitP t[j].toNat) ∧ wr = w) (fun i _ => t.size - (intOf i).toNat)
  case atStart => exact ⟨0, by omega, rfl, fun j _ h => by omega, rfl⟩
  case round =>
    obtain ⟨k, hk, rfl, hg, rfl⟩ := hrel
    have HG := hid hg
    clear hg h1 h2
    by_cases hlt : k < t.size
    · have hlt2 : (k : Int) < (t.size : Int) := by omega
      have HN := hid (show ¬ (letterP t[k].toNat ∨ digitP t[k].toNat) → nameB' t = false from fun h => name_no fun e => by
        rcases e.2.2 k hlt with e | ⟨_, e⟩
        · exact h (.inl e)
        · exact h (.inr e))
      have HS := hid (show (letterP t[k].toNat ∨ digitP t[k].toNat) → ∀ j (h : j < t.size), j < k + 1 → letterP t[j].toNat ∨ digitP t[j].toNat from fun h j hj hjk => by
          by_cases e : j = k
          · subst e; exact h
          · exact HG.out j hj (by omega))
      have h1 : ((97 : Int) ≤ t[k].toNat ∧ (t[k].toNat : Int) ≤ 122) ∨ ((97 : Int) ≤ t[k].toNat ∧ ¬ (t[k].toNat : Int) ≤ 122 ∧ (48 : Int) ≤ t[k].toNat ∧ ¬ (t[k].toNat : Int) ≤ 57) ∨ (¬ (97 : Int) ≤ t[k].toNat ∧ ¬ (48 : Int) ≤ t[k].toNat) ∨ (¬ (97 : Int) ≤ t[k].toNat ∧ (48 : Int) ≤ t[k].toNat ∧ (t[k].toNat : Int) ≤ 57) ∨ (¬ (97 : Int) ≤ t[k].toNat ∧ (48 : Int) ≤ t[k].toNat ∧ ¬ (t[k].toNat : Int) ≤ 57) := by omega
      rcases h1 with ⟨h1, h2⟩ | ⟨h1, h2, h3, h4⟩ | ⟨h1, h2⟩ | ⟨h1, h2, h3⟩ | ⟨h1, h2, h3⟩
      · go_wp2_with fail
        exact ⟨⟨k + 1, by omega, by go_num, HS.out (.inl (by unfold letterP; omega)), trivial⟩, by simp [intOf]; omega⟩
      · go_wp2_with fail
        go_ret
        exact ⟨by rw [HN.out (by unfold letterP digitP; omega)]; rfl, Below.refl _ _⟩
      · go_wp2_with fail
        go_ret
        exact ⟨by rw [HN.out (by unfold letterP digitP; omega)]; rfl, Below.refl _ _⟩
      · go_wp2_with fail
        exact ⟨⟨k + 1, by omega, by go_num, HS.out (.inr (by unfold digitP; omega)), trivial⟩, by simp [intOf]; omega⟩
      · go_wp2_with fail
        go_ret
        exact ⟨by rw [HN.out (by unfold letterP digitP; omega)]; rfl, Below.refl _ _⟩
    · obtain rfl : k = t.size := by omega
      have hge : ¬ ((t.size : Int) < (t.size : Int)) := by omega
      have HN := hid (show nameB' t = true from name_yes ⟨by omega, by omega, fun j h => by
        rcases HG.out j h h with e | e
        · exact .inl e
        · by_cases e0 : j = 0
          · subst e0; exact .inl HL.out
          · exact .inr ⟨e0, e⟩⟩)
      go_wp2_with fail
      go_ret
      exact ⟨by rw [HN.out]; rfl, Below.refl _ _⟩
theorem digits_head (t : ByteArray) (w : World) (h : t.size = 0 ∨ 5 < t.size ∨ ∃ h : 0 < t.size, t[0].toNat = 48 ∧ 1 < t.size) :
    Calls Tryd.prog 93 #[.string t] w fun e w' => e = .returned (.int .i64 (decV t)) ∧ Below w.heap.size w w' := by
  rw [dec_no (t := t) (fun e => by
    obtain ⟨a, b, c, _⟩ := e
    rcases h with h | h | ⟨hp, h, h1⟩
    · omega
    · omega
    · have := c hp h; omega)]
  by_cases h0 : t.size = 0
  · have he := is_empty h0
    clear h
    go_enter Tryd.func93, Tryd.ntmps93
    go_wp2_with fail
    go_ret
    exact ⟨rfl, Below.refl _ _⟩
  · have he := not_empty' h0
    by_cases h5 : (5 : Int) < (t.size : Int)
    · clear h
      go_enter Tryd.func93, Tryd.ntmps93
      go_wp2_with fail
      go_ret
      exact ⟨rfl, Below.refl _ _⟩
    · have hp : 0 < t.size := by omega
      have hp2 : (0 : Int) < (t.size : Int) := by omega
      obtain ⟨hl, h1⟩ : t[0].toNat = 48 ∧ 1 < t.size := by
        rcases h with h | h | ⟨_, h⟩
        · omega
        · omega
        · exact h
      clear h
      have hl2 : (t[0].toNat : Int) = 48 := by omega
      have h12 : (1 : Int) < (t.size : Int) := by omega
      go_enter Tryd.func93, Tryd.ntmps93
      go_wp2_with fail
      go_ret
      exact ⟨rfl, Below.refl _ _⟩
set_option maxHeartbeats 2000000 in
theorem digits_any (t : ByteArray) (w : World) :
    Calls Tryd.prog 93 #[.string t] w fun e w' => e = .returned (.int .i64 (decV t)) ∧ Below w.heap.size w w' := by
  by_cases hh : t.size = 0 ∨ 5 < t.size ∨ ∃ h : 0 < t.size, t[0].toNat = 48 ∧ 1 < t.size
  · exact digits_head t w hh
  have he := not_empty' (s := t) (by omega)
  have h5 : ¬ (5 : Int) < (t.size : Int) := by omega
  have hp : 0 < t.size := by omega
  have hp2 : (0 : Int) < (t.size : Int) := by omega
  have hl : t[0].toNat = 48 → t.size = 1 := fun e => by
    by_cases h1 : t.size = 1
    · exact h1
    · exact absurd (.inr (.inr ⟨hp, e, by omega⟩)) hh
  have h1 : ((t[0].toNat : Int) = 48 ∧ ¬ (1 : Int) < (t.size : Int)) ∨ ((t[0].toNat : Int) ≠ 48) := by omega
  have HL := hid hl
  clear hh hl
  rcases h1 with ⟨h1, h2⟩ | h1
  all_goals
    go_enter Tryd.func93, Tryd.ntmps93
    go_wp2_with fail
    go_loopw [3, 4] (fun v i wr => ∃ k : Nat, k ≤ t.size ∧ i = .int .i64 k ∧ v = .int .i64 (decN (t.data.toList.take k)) ∧ (∀ j (h : j < t.size), j < k → digitP t[j].toNat) ∧ wr = w) (fun _ i _ => t.size - (intOf i).toNat)
    case atStart => exact ⟨0, by omega, rfl, rfl, fun j _ h => by omega, rfl⟩
    case round =>
      obtain ⟨k, hk, rfl, rfl, hg, rfl⟩ := hrel
      have HG := hid hg
      have hn := decN_take_lt t k hk (by omega) hg
      clear hg h1
      by_cases hlt : k < t.size
      · have hlt2 : (k : Int) < (t.size : Int) := by omega
        have HT := hid (show t.data.toList.take (k + 1) = t.data.toList.take k ++ [t[k]] from List.take_succ_eq_append_getElem (by simpa using hlt))
        have HN := hid (show ¬ digitP t[k].toNat → decV t = -1 from fun h => dec_no fun e => h (e.2.2.2 k hlt))
        have HS := hid (show digitP t[k].toNat → ∀ j (h : j < t.size), j < k + 1 → digitP t[j].toNat from fun h j hj hjk => by
            by_cases e : j = k
            · subst e; exact h
            · exact HG.out j hj (by omega))
        have h1 : ((t[k].toNat : Int) < 48) ∨ (¬ (t[k].toNat : Int) < 48 ∧ (57 : Int) < t[k].toNat) ∨ (¬ (t[k].toNat : Int) < 48 ∧ ¬ (57 : Int) < t[k].toNat) := by omega
        rcases h1 with h1 | ⟨h1, h2⟩ | ⟨h1, h2⟩
        · go_wp2_with fail
          go_ret
          exact ⟨by rw [HN.out (by unfold digitP; omega)]; rfl, Below.refl _ _⟩
        · go_wp2_with fail
          go_ret
          exact ⟨by rw [HN.out (by unfold digitP; omega)]; rfl, Below.refl _ _⟩
        · go_wp2_with fail
          refine ⟨⟨k + 1, by omega, by go_num, ?_, HS.out (by unfold digitP; omega), trivial⟩, by simp [intOf]; omega⟩
          rw [HT.out, decN_snoc]
          go_num
      · obtain rfl : k = t.size := by omega
        have hge : ¬ ((t.size : Int) < (t.size : Int)) := by omega
        have HN := hid (show decV t = decN t.data.toList from dec_yes ⟨by omega, by omega, fun _ => HL.out, fun j h => HG.out j h h⟩)
        have HQ := hid (show decN (t.data.toList.take t.size) = decN t.data.toList by rw [size_list, List.take_length])
        go_wp2_with fail
        go_ret
        exact ⟨by rw [HN.out, ← HQ.out]; rfl, Below.refl _ _⟩
end Go.Proofs.YtfpkbfhaipgibaaDoor.Prs
