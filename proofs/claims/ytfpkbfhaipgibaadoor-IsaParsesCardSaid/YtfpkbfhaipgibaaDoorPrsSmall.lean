/- isa.isDigit, isa.isName, isa.isLabel, isa.readNumber; keyholdref.isLabel, keyholdref.digits: walked. -/
import Derived.Test.YtfpkbfhaipgibaaDoorParsePlain
import Derived.Test.YtfpkbfhaipgibaaDoorReadWalk
import Derived.Test.YtfpkbfhaipgibaaDoorShelf
namespace Go.Proofs.YtfpkbfhaipgibaaDoor.Prs
open Go.RowKit Go.Proofs.YtfpkbfhaipgibaaDoor.Mem Go.Proofs.YtfpkbfhaipgibaaDoor.Hex

theorem isDigit_any (n : Int) (w : World) :
    Calls Tryd.prog 96 #[.int .i32 n] w fun e w' => e = .returned (.bool (decide (48 ≤ n ∧ n ≤ 57))) ∧ w = w' := by
  by_cases h1 : 48 ≤ n
  · by_cases h2 : n ≤ 57
    all_goals
      go_enter Tryd.func96, Tryd.ntmps96
      go_wp2_with fail
      go_ret
      exact ⟨ret_bool (by simp [h1, h2]), rfl⟩
  · go_enter Tryd.func96, Tryd.ntmps96
    go_wp2_with fail
    go_ret
    exact ⟨ret_bool (by simp; omega), rfl⟩
theorem is_empty {s : ByteArray} (h : s.size = 0) : s.toList.isEmpty = true := by
  rw [List.isEmpty_iff, ByteArray.toList_eq, ← List.length_eq_zero_iff]
  exact h
theorem not_empty' {s : ByteArray} (h : s.size ≠ 0) : s.toList.isEmpty = false := by
  rw [← Bool.not_eq_true]
  intro e
  rw [List.isEmpty_iff, ByteArray.toList_eq, ← List.length_eq_zero_iff] at e
  exact h e
theorem isName_head (t : ByteArray) (w : World) (h : t.size = 0 ∨ 8 < t.size) :
    Calls Tryd.prog 77 #[.string t] w fun e w' => e = .returned (.bool (nameB' t)) ∧ Below w.heap.size w w' := by
  rw [name_no (t := t) (fun e => by obtain ⟨a, b, _⟩ := e; omega)]
  by_cases h0 : t.size = 0
  · have he := is_empty h0
    clear h
    go_enter Tryd.func77, Tryd.ntmps77
    go_wp2_with fail
    go_ret
    exact ⟨rfl, Below.refl _ _⟩
  · have he := not_empty' h0
    have h8 : (8 : Int) < (t.size : Int) := by omega
    clear h
    go_enter Tryd.func77, Tryd.ntmps77
    go_wp2_with fail
    go_ret
    exact ⟨rfl, Below.refl _ _⟩
def nmAt (j n : Nat) : Prop := letterP n ∨ (j ≠ 0 ∧ digitP n)
set_option maxHeartbeats 2000000 in
theorem isName_any (t : ByteArray) (w : World) :
    Calls Tryd.prog 77 #[.string t] w fun e w' => e = .returned (.bool (nameB' t)) ∧ Below w.heap.size w w' := by
  by_cases hh : t.size = 0 ∨ 8 < t.size
  · exact isName_head t w hh
  have he := not_empty' (s := t) (by omega)
  have h8 : ¬ (8 : Int) < (t.size : Int) := by omega
  have HH := hid hh
  clear hh
  go_enter Tryd.func77, Tryd.ntmps77
  go_wp2_with fail
  go_loopw [3] (fun _ wr => ∃ k : Nat, k ≤ t.size ∧ (∀ j (h : j < t.size), j < k → nmAt j t[j].toNat) ∧ wr = w.iter t k) (fun _ wr => t.size - wr.iterPos w.heap.size)
  case atStart => exact ⟨0, by omega, fun j _ h => by omega, rfl⟩
  case round =>
    obtain ⟨k, hk, hg, rfl⟩ := hrel
    have HG := hid hg
    clear hg
    by_cases hlt : k < t.size
    · have HN := hid (show ¬ nmAt k t[k].toNat → nameB' t = false from fun h => name_no fun e => h (e.2.2 k hlt))
      by_cases ha : t[k].toNat < 128
      · have hnx := fun ty => run_next_ascii (P := Tryd.prog) w t k ty hlt ha
        have HS := hid (show nmAt k t[k].toNat → ∀ j (h : j < t.size), j < k + 1 → nmAt j t[j].toNat from fun h j hj hjk => by
          by_cases e : j = k
          · subst e; exact h
          · exact HG.out j hj (by omega))
        generalize t[k].toNat = n at *
        by_cases hl : letterP n
        · have h1 : (97 : Int) ≤ n ∧ (n : Int) ≤ 122 := by unfold letterP at hl; omega
          go_wp2_with fail
          exact ⟨⟨k + 1, by omega, HS.out (.inl hl), rfl⟩, by simp; omega⟩
        · have h1 : (¬ (97 : Int) ≤ n) ∨ ((97 : Int) ≤ n ∧ ¬ (n : Int) ≤ 122) := by unfold letterP at hl; omega
          by_cases h0 : k = 0
          · subst h0
            have HF := hid (HN.out (fun e => by rcases e with e | ⟨e, _⟩; exact hl e; exact e rfl))
            rcases h1 with h1 | ⟨h1, h2⟩
            all_goals
              go_wp2_with fail
              go_ret
              exact ⟨by rw [HF.out]; rfl, iter_below _ _ _⟩
          · rcases h1 with h1 | ⟨h1, h2⟩
            · go_wp2_with fail
              refine (isDigit_any _ _).mono ?_
              rintro e w1 ⟨rfl, rfl⟩
              by_cases hd : (48 : Int) ≤ n ∧ (n : Int) ≤ 57
              · rw [decide_eq_true hd]
                go_wp2_with fail
                exact ⟨⟨k + 1, by omega, HS.out (.inr ⟨h0, by unfold digitP; omega⟩), rfl⟩, by simp; omega⟩
              · rw [decide_eq_false hd]
                go_wp2_with fail
                go_ret
                exact ⟨by rw [HN.out (fun e => by rcases e with e | ⟨_, e⟩; exact hl e; unfold digitP at e; omega)]; rfl, iter_below _ _ _⟩
            · have hd : ¬ ((48 : Int) ≤ n ∧ (n : Int) ≤ 57) := by omega
              go_wp2_with fail
              refine (isDigit_any _ _).mono ?_
              rintro e w1 ⟨rfl, rfl⟩
              rw [decide_eq_false hd]
              go_wp2_with fail
              go_ret
              exact ⟨by rw [HN.out (fun e => by rcases e with e | ⟨_, e⟩; exact hl e; unfold digitP at e; omega)]; rfl, iter_below _ _ _⟩
      · obtain ⟨d1, d2⟩ := decode_high t k hlt (by omega)
        have d3 := decode_le t k
        have hnx := fun ty => run_next_any (P := Tryd.prog) w t k ty hlt
        have HN2 := hid (HN.out (fun e => by unfold nmAt letterP digitP at e; omega))
        have h1 : (97 : Int) ≤ (Utf8.decode t k).1 := by omega
        have h2 : ¬ ((Utf8.decode t k).1 : Int) ≤ 122 := by omega
        by_cases h0 : k = 0
        · subst h0
          go_wp2_with fail
          go_ret
          exact ⟨by rw [HN2.out]; rfl, iter_below _ _ _⟩
        · go_wp2_with fail
          refine (isDigit_any _ _).mono ?_
          rintro e w1 ⟨rfl, rfl⟩
          rw [decide_eq_false (by omega)]
          go_wp2_with fail
          go_ret
          exact ⟨by rw [HN2.out]; rfl, iter_below _ _ _⟩
    · obtain rfl : k = t.size := by omega
      have hnx := fun ty => run_next_end (P := Tryd.prog) w t t.size ty hlt
      have HN := hid (show nameB' t = true from name_yes ⟨by have := HH.out; omega, by have := HH.out; omega, fun j h => HG.out j h h⟩)
      go_wp2_with fail
      go_ret
      exact ⟨by rw [HN.out]; rfl, iter_below _ _ _⟩
end Go.Proofs.YtfpkbfhaipgibaaDoor.Prs
