/- isa.isLabel, isa.readNumber, isa.parseReg, isa.opOf, walked. -/
import Derived.Test.YtfpkbfhaipgibaaDoorPrsSmall
import Derived.Test.YtfpkbfhaipgibaaDoorShelf
namespace Go.Proofs.YtfpkbfhaipgibaaDoor.Prs
open Go.RowKit Go.Proofs.YtfpkbfhaipgibaaDoor.Mem Go.Proofs.YtfpkbfhaipgibaaDoor.Hex Go.Proofs.YtfpkbfhaipgibaaDoor.Txt

theorem isLabel_any (t : ByteArray) (w : World) (hs : t.size ≤ 100000) :
    Calls Tryd.prog 43 #[.string t] w fun e w' => e = .returned (.bool (labB t)) ∧ Below w.heap.size w w' := by
  have HS := hid hs
  clear hs
  by_cases h1 : Lib.hasSuffix t.data.toList [58] = true
  · by_cases h2 : 0 ≤ Lib.indexByte t.data.toList 32
    all_goals
      go_enter Tryd.func43, Tryd.ntmps43
      go_wp2_with fail
      refine (Tryd.strings_HasSuffix t ⟨#[58]⟩ _ (by have := HS.out; omega)).mono ?_
      rintro e w1 ⟨rfl, rfl⟩
      have HE := hid (show Lib.hasSuffix t.data.toList (⟨#[58]⟩ : ByteArray).data.toList = true from h1)
      rw [HE.out]
      go_wp2_with fail
      refine (Tryd.strings_Contains_one t 32 _).mono ?_
      rintro e w1 ⟨rfl, rfl⟩
      go_wp2_with fail
      go_ret
      exact ⟨ret_bool (by unfold labB; simp [h1, h2]), Below.refl _ _⟩
  · have h1' : Lib.hasSuffix t.data.toList [58] = false := by simpa using h1
    go_enter Tryd.func43, Tryd.ntmps43
    go_wp2_with fail
    refine (Tryd.strings_HasSuffix t ⟨#[58]⟩ _ (by have := HS.out; omega)).mono ?_
    rintro e w1 ⟨rfl, rfl⟩
    have HE := hid (show Lib.hasSuffix t.data.toList (⟨#[58]⟩ : ByteArray).data.toList = false from h1')
    rw [HE.out]
    go_wp2_with fail
    go_ret
    exact ⟨ret_bool (by unfold labB; simp [h1']), Below.refl _ _⟩
/-- What parseReg answers. -/
theorem parseReg_none (w : World) :
    Calls Tryd.prog 101 #[.string ⟨#[]⟩, .bool false] w fun e w' => e = .returned (.tuple #[.int .i64 0, .iface 23 (.int .i64 10)]) ∧ Below w.heap.size w w' := by
  go_enter Tryd.func101, Tryd.ntmps101
  go_wp2_with fail
  go_ret2
  exact ⟨rfl, Below.refl _ _⟩
theorem parseReg_some (t : ByteArray) (w : World) :
    Calls Tryd.prog 101 #[.string t, .bool true] w fun e w' => e = .returned (.tuple #[.int .i64 (regV t).1, errV (regV t).2]) ∧ Below w.heap.size w w' := by
  by_cases h2 : t.size = 2
  · have h2i : (t.size : Int) = 2 := by omega
    have p0 : 0 < t.size := by omega
    have p1 : 1 < t.size := by omega
    have h1 : (t[0].toNat : Int) ≠ 114 ∨ ((t[0].toNat : Int) = 114 ∧ (t[1].toNat : Int) < 48) ∨ ((t[0].toNat : Int) = 114 ∧ ¬ (t[1].toNat : Int) < 48 ∧ (55 : Int) < t[1].toNat) ∨ ((t[0].toNat : Int) = 114 ∧ ¬ (t[1].toNat : Int) < 48 ∧ ¬ (55 : Int) < t[1].toNat) := by omega
    rcases h1 with h1 | ⟨h1, h3⟩ | ⟨h1, h3, h4⟩ | ⟨h1, h3, h4⟩
    · rw [reg_no (t := t) (fun e => by obtain ⟨_, e, _⟩ := e; omega)]
      go_enter Tryd.func101, Tryd.ntmps101
      go_wp2_with fail
      go_ret2
      exact ⟨rfl, Below.refl _ _⟩
    · rw [reg_no (t := t) (fun e => by obtain ⟨_, _, e, _⟩ := e; omega)]
      go_enter Tryd.func101, Tryd.ntmps101
      go_wp2_with fail
      go_ret2
      exact ⟨rfl, Below.refl _ _⟩
    · rw [reg_no (t := t) (fun e => by obtain ⟨_, _, _, e⟩ := e; omega)]
      go_enter Tryd.func101, Tryd.ntmps101
      go_wp2_with fail
      go_ret2
      exact ⟨rfl, Below.refl _ _⟩
    · have HR := hid (reg_yes h2 ⟨by omega, by omega, by omega⟩)
      go_enter Tryd.func101, Tryd.ntmps101
      go_wp2_with fail
      go_ret2
      exact ⟨by rw [HR.out]; rfl, Below.refl _ _⟩
  · have h2i : (t.size : Int) ≠ 2 := by omega
    rw [reg_no (t := t) (fun e => by obtain ⟨e, _⟩ := e; exact h2 e)]
    clear h2
    go_enter Tryd.func101, Tryd.ntmps101
    go_wp2_with fail
    go_ret2
    exact ⟨rfl, Below.refl _ _⟩
end Go.Proofs.YtfpkbfhaipgibaaDoor.Prs
