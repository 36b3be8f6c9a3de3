/- lines.Number, isa.readNumber, walked. -/
import Derived.Test.YtfpkbfhaipgibaaDoorPrsNum
namespace Go.Proofs.YtfpkbfhaipgibaaDoor.Prs
open Go.RowKit Go.Proofs.YtfpkbfhaipgibaaDoor.Mem Go.Proofs.YtfpkbfhaipgibaaDoor.Hex Go.Proofs.YtfpkbfhaipgibaaDoor.Txt

set_option maxHeartbeats 4000000 in
theorem number_any (d : ByteArray) (w : World) :
    Calls Tryd.prog 128 #[.string d] w fun e w' => e = .returned (.tuple #[.int .i64 (numD false d).1, .bool (numD false d).2]) ∧ Below w.heap.size w w' := by
  go_enter Tryd.func128, Tryd.ntmps128
  by_cases hz : d.size = 0
  · have HN := hid (num_no (b := false) (d := d) (fun e => e.1.1 hz))
    have he := is_empty hz
    go_wp2_with fail
    go_ret2
    exact ⟨by rw [HN.out]; rfl, Below.refl _ _⟩
  have he := not_empty' hz
  by_cases h5 : (5 : Int) < (d.size : Int)
  · have HN := hid (num_no (b := false) (d := d) (fun e => by have := e.1.2.1; omega))
    go_wp2_with fail
    go_ret2
    exact ⟨by rw [HN.out]; rfl, Below.refl _ _⟩
  have hp : 0 < d.size := by omega
  have hp2 : (0 : Int) < (d.size : Int) := by omega
  by_cases hbad : d[0].toNat = 48 ∧ 1 < d.size
  · obtain ⟨h0, hb⟩ := hbad
    have HN := hid (num_no (b := false) (d := d) (fun e => by have := e.1.2.2.1 hp h0; omega))
    have h0i : (d[0].toNat : Int) = 48 := by omega
    have h1 : (1 : Int) < (d.size : Int) := by omega
    go_wp2_with fail
    go_ret2
    exact ⟨by rw [HN.out]; rfl, Below.refl _ _⟩
  · have HB := hid (show ∀ h : 0 < d.size, d[0].toNat = 48 → d.size = 1 from fun _ e => by
      by_cases h1 : d.size = 1
      · exact h1
      · exact absurd ⟨e, by omega⟩ hbad)
    have hq : (d[0].toNat : Int) ≠ 48 ∨ ((d[0].toNat : Int) = 48 ∧ ¬ (1 : Int) < (d.size : Int)) := by
      by_cases h0 : d[0].toNat = 48
      · exact .inr ⟨by omega, fun h1 => hbad ⟨h0, by omega⟩⟩
      · exact .inl (by omega)
    clear hbad
    have hs5 : d.size ≤ 5 := by omega
    rcases hq with hq | ⟨hq, hq1⟩
    all_goals
      go_wp2_with fail
      go_loopw [4] (fun v wr => ∃ k : Nat, k ≤ d.size ∧ v = .int .i64 (decN (d.data.toList.take k)) ∧ (∀ j (h : j < d.size), j < k → digitP d[j].toNat) ∧ wr = w.iter d k) (fun _ wr => d.size - wr.iterPos w.heap.size)
      case atStart => exact ⟨0, by omega, rfl, fun j _ h => by omega, rfl⟩
      case round =>
        obtain ⟨k, hk, rfl, hg, rfl⟩ := hrel
        have hn := decN_take_lt d k hk hs5 hg
        have HG := hid hg
        clear hg hq
        by_cases hlt : k < d.size
        · have HT := hid (show d.data.toList.take (k + 1) = d.data.toList.take k ++ [d[k]] from List.take_succ_eq_append_getElem (by simpa using hlt))
          have HN := hid (show ∀ b', ¬ digitP d[k].toNat → numD b' d = (0, false) from fun b' h => num_no fun e => h (e.1.2.2.2 k hlt))
          have HS := hid (show digitP d[k].toNat → ∀ j (h : j < d.size), j < k + 1 → digitP d[j].toNat from fun h j hj hjk => by
              by_cases e : j = k
              · subst e; exact h
              · exact HG.out j hj (by omega))
          by_cases ha : d[k].toNat < 128
          · have hnx := fun ty => run_next_ascii (P := Tryd.prog) w d k ty hlt ha
            by_cases hd : (48 : Int) ≤ d[k].toNat ∧ (d[k].toNat : Int) ≤ 57
            · go_wp2_with fail
              refine (isDigit_any _ _).mono ?_
              rintro e w1 ⟨rfl, rfl⟩
              rw [decide_eq_true hd]
              obtain ⟨hd1, hd2⟩ := hd
              go_wp2_with fail
              refine ⟨⟨k + 1, by omega, ?_, HS.out (by unfold digitP; omega), rfl⟩, by simp; omega⟩
              rw [HT.out, decN_snoc]
              go_num
            · go_wp2_with fail
              refine (isDigit_any _ _).mono ?_
              rintro e w1 ⟨rfl, rfl⟩
              rw [decide_eq_false hd]
              go_wp2_with fail
              go_ret2
              exact ⟨by rw [HN.out _ (by unfold digitP; omega)]; rfl, iter_below _ _ _⟩
          · obtain ⟨d1, d2⟩ := decode_high d k hlt (by omega)
            have d3 := decode_le d k
            have hnx := fun ty => run_next_any (P := Tryd.prog) w d k ty hlt
            go_wp2_with fail
            refine (isDigit_any _ _).mono ?_
            rintro e w1 ⟨rfl, rfl⟩
            rw [decide_eq_false (by omega)]
            go_wp2_with fail
            go_ret2
            exact ⟨by rw [HN.out _ (by unfold digitP; omega)]; rfl, iter_below _ _ _⟩
        · obtain rfl : k = d.size := by omega
          have hnx := fun ty => run_next_end (P := Tryd.prog) w d d.size ty hlt
          have HQ := hid (show decN (d.data.toList.take d.size) = decN d.data.toList by rw [size_list, List.take_length])
          have HN := hid (num_yes (show NumP false d from ⟨⟨hz, hs5, HB.out, fun j h => HG.out j h h⟩, fun e => by cases e⟩))
          go_wp2_with fail
          go_ret2
          exact ⟨by rw [HN.out, ← HQ.out]; rfl, iter_below _ _ _⟩
set_option maxHeartbeats 4000000 in
theorem readNumber_any (t : ByteArray) (w : World) :
    Calls Tryd.prog 115 #[.string t] w fun e w' => e = .returned (.tuple #[.int .i64 (numR t).1, .bool (numR t).2]) ∧ Below w.heap.size w w' := by
  have HP := hid (show Calls Tryd.prog 127 #[.string t, .string ⟨#[45]⟩] w fun e w' => e = .returned (.tuple #[.string (bodyB t), .bool (minusB t)]) ∧ w = w' from (Tryd.strings_CutPrefix t ⟨#[45]⟩ w).mono fun _ _ h => ⟨h.1, h.2.symm⟩)
  unfold numR
  generalize bodyB t = d at *
  generalize minusB t = b at *
  go_enter Tryd.func115, Tryd.ntmps115
  go_wp2_with fail
  refine HP.out.mono ?_
  rintro e w1 ⟨rfl, rfl⟩
  clear HP
  have HD := hid (number_any d w)
  by_cases hd : DecP d
  rotate_left
  · have HN := hid (num_no (b := b) (d := d) (fun e => hd e.1))
    rw [num_no (b := false) (d := d) (fun e => hd e.1)] at HD
    clear hd
    go_wp2_with fail
    refine HD.out.mono ?_
    rintro e w1 ⟨rfl, hb⟩
    go_wp2_with fail
    go_ret2
    exact ⟨by rw [HN.out]; rfl, hb⟩
  have hlt : decN d.data.toList < 100000 := by
    have h := decN_take_lt d d.size (Nat.le_refl _) hd.2.1 (fun j h _ => hd.2.2.2 j h)
    rwa [size_list, List.take_length] at h
  rw [num_yes (b := false) (show NumP false d from ⟨hd, fun e => by cases e⟩)] at HD
  cases b with
  | false =>
    have HN := hid (num_yes (b := false) (show NumP false d from ⟨hd, fun e => by cases e⟩))
    generalize decN d.data.toList = n at hlt HD HN
    clear hd
    go_wp2_with fail
    refine HD.out.mono ?_
    rintro e w1 ⟨rfl, hb⟩
    go_wp2_with fail
    go_ret2
    exact ⟨by rw [HN.out]; rfl, hb⟩
  | true =>
    by_cases hz : decN d.data.toList = 0
    · have HN := hid (num_no (b := true) (d := d) (fun e => by have h := (dec_of_num e).2 rfl; clear hd e; omega))
      rw [hz] at HD
      clear hd hz hlt
      go_wp2_with fail
      refine HD.out.mono ?_
      rintro e w1 ⟨rfl, hb⟩
      go_wp2_with fail
      go_ret2
      exact ⟨by rw [HN.out]; rfl, hb⟩
    · have hnp : NumP true d := Classical.byContradiction fun h => by
        rcases dec_not_num h with e | ⟨e, _⟩
        · rw [dec_yes hd] at e; clear hd h; omega
        · rw [dec_yes hd] at e; clear hd h; omega
      have HN := hid (num_yes hnp)
      have hzb : ((decN d.data.toList : Int) == 0) = false := beq_eq_false_iff_ne.2 (by omega)
      generalize decN d.data.toList = n at hlt HD HN hzb
      clear hd hz hnp
      go_wp2_with fail
      refine HD.out.mono ?_
      rintro e w1 ⟨rfl, hb⟩
      go_wp2_with fail
      go_ret2
      exact ⟨by rw [HN.out]; rfl, hb⟩
end Go.Proofs.YtfpkbfhaipgibaaDoor.Prs
