/- word.digit and word.readWord, walked. -/
import Derived.Test.YtemlobepnfpalaaDoorCutWalk
import Derived.Laws.RangeString
import Derived.Laws.RangeAny
namespace Go.Proofs.YtemlobepnfpalaaDoor.Hex
open Go.RowKit Go.Proofs.YtemlobepnfpalaaDoor.Mem

/-- A digit's worth; 16: it is none. -/
def worth (b : Nat) : Nat := if 48 ≤ b ∧ b ≤ 57 then b - 48 else if 97 ≤ b ∧ b ≤ 102 then b - 87 else 16
def num (l : List UInt8) : Nat := l.foldl (fun n b => n * 16 + worth b.toNat) 0
def good (l : List UInt8) : Bool := l.all fun b => worth b.toNat < 16
def isWord (l : List UInt8) : Bool := l.length == 4 && good l
theorem num_snoc (l : List UInt8) (b : UInt8) : num (l ++ [b]) = num l * 16 + worth b.toNat := by simp [num]
theorem good_snoc (l : List UInt8) (b : UInt8) : good (l ++ [b]) = (good l && decide (worth b.toNat < 16)) := by simp [good]
theorem worth_le (b : Nat) : worth b ≤ 16 := by
  unfold worth
  split
  · omega
  · split <;> omega
theorem num_lt (l : List UInt8) : num l < 17 ^ l.length * 2 := by
  suffices h : ∀ (l : List UInt8) (n : Nat), l.foldl (fun n b => n * 16 + worth b.toNat) n + 1 ≤ (n + 1) * 17 ^ l.length by
    have := h l 0
    unfold num
    omega
  intro l
  induction l with
  | nil => intro n; simp
  | cons b l ih =>
    intro n
    have h1 := ih (n * 16 + worth b.toNat)
    have h2 := worth_le b.toNat
    simp only [List.foldl_cons, List.length_cons]
    refine Nat.le_trans h1 ?_
    rw [Nat.pow_succ, Nat.mul_comm (17 ^ l.length) 17, ← Nat.mul_assoc]
    exact Nat.mul_le_mul_right _ (by omega)
theorem ret2_int {a b : Int} {c : Bool} (h : a = b) : Ending.returned (.tuple #[.int .i64 a, .bool c]) = .returned (.tuple #[.int .i64 b, .bool c]) := by rw [h]
theorem digit_ok (n : Nat) (w : World) (h : worth n < 16) :
    Calls Tryd.prog 75 #[.int .i32 (n : Int)] w fun e w' => e = .returned (.tuple #[.int .i64 (worth n), .bool true]) ∧ w' = w := by
  unfold worth at h ⊢
  split at h
  · rename_i h1
    rw [if_pos h1]
    have a1 : (48 : Int) ≤ n := by omega
    have a2 : (n : Int) ≤ 57 := by omega
    have e : ((n - 48 : Nat) : Int) = (n : Int) - 48 := by omega
    rw [e]
    go_enter Tryd.func75, Tryd.ntmps75
    go_wp2_with fail
    go_ret2
    exact ⟨rfl, rfl⟩
  · rename_i h1
    split at h
    · rename_i h2
      rw [if_neg h1, if_pos h2]
      have a1 : (48 : Int) ≤ n := by omega
      have a2 : ¬ (n : Int) ≤ 57 := by omega
      have a3 : (97 : Int) ≤ n := by omega
      have a4 : (n : Int) ≤ 102 := by omega
      have e : ((n - 87 : Nat) : Int) = (n : Int) - 97 + 10 := by omega
      rw [e]
      go_enter Tryd.func75, Tryd.ntmps75
      go_wp2_with fail
      go_ret2
      exact ⟨rfl, rfl⟩
    · omega
theorem digit_no (n : Nat) (w : World) (h : ¬ worth n < 16) (hn : n ≤ 2147483647) :
    Calls Tryd.prog 75 #[.int .i32 (n : Int)] w fun e w' => e = .returned (.tuple #[.int .i64 0, .bool false]) ∧ w' = w := by
  have h1 : ¬ (48 ≤ n ∧ n ≤ 57) := fun h2 => h (by unfold worth; rw [if_pos h2]; omega)
  have h2 : ¬ (97 ≤ n ∧ n ≤ 102) := fun h2 => h (by unfold worth; rw [if_neg h1, if_pos h2]; omega)
  by_cases a1 : (48 : Int) ≤ n
  · have a2 : ¬ (n : Int) ≤ 57 := by omega
    by_cases a3 : (97 : Int) ≤ n
    · have a4 : ¬ (n : Int) ≤ 102 := by omega
      clear h h1 h2
      go_enter Tryd.func75, Tryd.ntmps75
      go_wp2_with fail
      go_ret2
      exact ⟨rfl, rfl⟩
    · clear h h1 h2
      go_enter Tryd.func75, Tryd.ntmps75
      go_wp2_with fail
      go_ret2
      exact ⟨rfl, rfl⟩
  · have a3 : ¬ (97 : Int) ≤ n := by omega
    clear h h1 h2
    go_enter Tryd.func75, Tryd.ntmps75
    go_wp2_with fail
    go_ret2
    exact ⟨rfl, rfl⟩
/-- What readWord answers. -/
def rwV (t : ByteArray) : Value := .tuple #[.int .i64 (if isWord t.data.toList = true then num t.data.toList else 0), .bool (isWord t.data.toList)]
theorem rwV_yes {t : ByteArray} (h : isWord t.data.toList = true) : rwV t = .tuple #[.int .i64 (num t.data.toList), .bool true] := by unfold rwV; rw [if_pos h, h]
theorem rwV_no {t : ByteArray} (h : isWord t.data.toList = false) : rwV t = .tuple #[.int .i64 0, .bool false] := by unfold rwV; rw [if_neg (by rw [h]; decide), h]
theorem bad_at {t : ByteArray} {k : Nat} (h : k < t.size) (hb : ¬ worth t[k].toNat < 16) : isWord t.data.toList = false := by
  unfold isWord
  have : good t.data.toList = false := by
    rw [← Bool.not_eq_true]
    intro e
    have := List.all_eq_true.1 e t[k] (by rw [Array.mem_toList_iff]; exact Array.getElem_mem h)
    exact hb (by simpa using this)
  rw [this, Bool.and_false]
theorem iter_below (w : World) (s : ByteArray) (p : Nat) : Below w.heap.size w (w.iter s p) := bal (Below.refl _ _) _
set_option maxHeartbeats 2000000 in
theorem readWord_any (t : ByteArray) (w : World) :
    Calls Tryd.prog 43 #[.string t] w fun e w' => e = .returned (rwV t) ∧ Below w.heap.size w w' := by
  by_cases h4 : t.size = 4
  · have h4i : (t.size : Int) = 4 := by omega
    have H4 := hid h4
    clear h4
    go_enter Tryd.func43, Tryd.ntmps43
    go_wp2_with fail
    go_loopw [4] (fun v wr => ∃ k : Nat, k ≤ t.size ∧ v = .int .i64 (num (t.data.toList.take k)) ∧ good (t.data.toList.take k) = true ∧ wr = w.iter t k) (fun _ wr => t.size - wr.iterPos w.heap.size)
    case atStart => exact ⟨0, by omega, rfl, rfl, rfl⟩
    case round =>
      obtain ⟨k, hk, rfl, hg, rfl⟩ := hrel
      have HG := hid hg
      clear hg
      have hnl := num_lt (t.data.toList.take k)
      have hnl2 : num (t.data.toList.take k) < 200000 := by
        rw [List.length_take] at hnl
        have h5 : (17 : Nat) ^ min k t.data.toList.length ≤ 17 ^ 4 := Nat.pow_le_pow_right (by decide) (by rw [← size_list, H4.out]; omega)
        omega
      clear hnl
      by_cases hlt : k < t.size
      · have HT := hid (show t.data.toList.take (k + 1) = t.data.toList.take k ++ [t[k]] from List.take_succ_eq_append_getElem (by simpa using hlt))
        by_cases ha : t[k].toNat < 128
        · have hnx := fun ty => run_next_ascii (P := Tryd.prog) w t k ty hlt ha
          by_cases hw : worth t[k].toNat < 16
          · go_wp2_with fail
            refine (digit_ok _ _ hw).mono ?_
            rintro e w1 ⟨rfl, rfl⟩
            have hw2 : (worth t[k].toNat : Int) < 16 := by omega
            go_wp2_with fail
            refine ⟨⟨k + 1, by omega, ?_, ?_, rfl⟩, by simp; omega⟩
            · rw [HT.out, num_snoc]
              simp
            · rw [HT.out, good_snoc, HG.out]
              simpa using hw
          · go_wp2_with fail
            refine (digit_no _ _ hw (by omega)).mono ?_
            rintro e w1 ⟨rfl, rfl⟩
            go_wp2_with fail
            go_ret2
            exact ⟨by rw [rwV_no (bad_at hlt hw)]; rfl, iter_below _ _ _⟩
        · obtain ⟨d1, d2⟩ := decode_high t k hlt (by omega)
          have d3 := decode_le t k
          have hnx := fun ty => run_next_any (P := Tryd.prog) w t k ty hlt
          have hw : ¬ worth (Utf8.decode t k).1 < 16 := by unfold worth; rw [if_neg (by omega), if_neg (by omega)]; omega
          have hw2 : ¬ worth t[k].toNat < 16 := by unfold worth; rw [if_neg (by omega), if_neg (by omega)]; omega
          go_wp2_with fail
          refine (digit_no _ _ hw (by omega)).mono ?_
          rintro e w1 ⟨rfl, rfl⟩
          go_wp2_with fail
          go_ret2
          exact ⟨by rw [rwV_no (bad_at hlt hw2)]; rfl, iter_below _ _ _⟩
      · obtain rfl : k = t.size := by omega
        have hnx := fun ty => run_next_end (P := Tryd.prog) w t t.size ty hlt
        have HW := hid (show isWord t.data.toList = true by
          have e := HG.out
          rw [size_list, List.take_length] at e
          unfold isWord
          rw [e, ← size_list, H4.out]
          rfl)
        have HN := hid (show num (t.data.toList.take t.size) = num t.data.toList by rw [size_list, List.take_length])
        go_wp2_with fail
        go_ret2
        exact ⟨by rw [rwV_yes HW.out, ← HN.out]; rfl, iter_below _ _ _⟩
  · have h4i : ¬ (t.size : Int) = 4 := by omega
    have e : isWord t.data.toList = false := by unfold isWord; rw [← size_list]; simp [h4]
    rw [rwV_no e]
    clear e h4
    go_enter Tryd.func43, Tryd.ntmps43
    go_wp2_with fail
    go_ret2
    exact ⟨rfl, Below.refl _ _⟩
end Go.Proofs.YtemlobepnfpalaaDoor.Hex
