/- isa.readNumber, isa.opOf, walked. -/
import Derived.Test.YtemlobepnfpalagDoorPrsNum
namespace Go.Proofs.YtemlobepnfpalagDoor.Prs
open Go.RowKit Go.Proofs.YtemlobepnfpalagDoor.Mem Go.Proofs.YtemlobepnfpalagDoor.Hex Go.Proofs.YtemlobepnfpalagDoor.Txt

set_option maxHeartbeats 4000000 in
theorem readNumber_any (t : ByteArray) (w : World) :
    Calls Tryd.prog 48 #[.string t] w fun e w' => e = .returned (.tuple #[.int .i64 (numR t).1, .bool (numR t).2]) ∧ Below w.heap.size w w' := by
  have HP := hid (show Calls Tryd.prog 60 #[.string t, .string ⟨#[45]⟩] w fun e w' => e = .returned (.tuple #[.string (bodyB t), .bool (minusB t)]) ∧ w = w' from (Tryd.strings_CutPrefix t ⟨#[45]⟩ w).mono fun _ _ h => ⟨h.1, h.2.symm⟩)
  unfold numR
  generalize bodyB t = d at *
  generalize minusB t = b at *
  go_enter Tryd.func48, Tryd.ntmps48
  go_wp2_with fail
  refine HP.out.mono ?_
  rintro e w1 ⟨rfl, rfl⟩
  clear HP
  by_cases hz : d.size = 0
  · have HN := hid (num_no (b := b) (d := d) (fun e => e.1.1 hz))
    have he := is_empty hz
    go_wp2_with fail
    go_ret2
    exact ⟨by rw [HN.out]; rfl, Below.refl _ _⟩
  have he := not_empty' hz
  by_cases h5 : (5 : Int) < (d.size : Int)
  · have HN := hid (num_no (b := b) (d := d) (fun e => by have := e.1.2.1; omega))
    go_wp2_with fail
    go_ret2
    exact ⟨by rw [HN.out]; rfl, Below.refl _ _⟩
  have hp : 0 < d.size := by omega
  have hp2 : (0 : Int) < (d.size : Int) := by omega
  by_cases hbad : d[0].toNat = 48 ∧ (b = true ∨ 1 < d.size)
  · obtain ⟨h0, hb⟩ := hbad
    have HN := hid (num_no (b := b) (d := d) (fun e => by
      rcases hb with hb | hb
      · exact e.2 hb hp h0
      · have := e.1.2.2.1 hp h0; omega))
    have h0i : (d[0].toNat : Int) = 48 := by omega
    cases b with
    | true =>
      go_wp2_with fail
      go_ret2
      exact ⟨by rw [HN.out]; rfl, Below.refl _ _⟩
    | false =>
      have h1 : (1 : Int) < (d.size : Int) := by rcases hb with hb | hb; cases hb; omega
      go_wp2_with fail
      go_ret2
      exact ⟨by rw [HN.out]; rfl, Below.refl _ _⟩
  · have HB := hid (show (∀ h : 0 < d.size, d[0].toNat = 48 → d.size = 1) ∧ (b = true → ∀ h : 0 < d.size, d[0].toNat ≠ 48) by
      refine ⟨fun _ e => ?_, fun hb _ e => hbad ⟨e, .inl hb⟩⟩
      by_cases h1 : d.size = 1
      · exact h1
      · exact absurd ⟨e, .inr (by omega)⟩ hbad)
    have hq : (d[0].toNat : Int) ≠ 48 ∨ ((d[0].toNat : Int) = 48 ∧ b = false ∧ ¬ (1 : Int) < (d.size : Int)) := by
      by_cases h0 : d[0].toNat = 48
      · refine .inr ⟨by omega, ?_, ?_⟩
        · cases b with
          | false => rfl
          | true => exact absurd ⟨h0, .inl rfl⟩ hbad
        · intro h1
          exact hbad ⟨h0, .inr (by omega)⟩
      · exact .inl (by omega)
    clear hbad
    have hs5 : d.size ≤ 5 := by omega
    rcases hq with hq | ⟨hq, rfl, hq1⟩
    all_goals
      go_wp2_with fail
      go_loopw [6] (fun v wr => ∃ k : Nat, k ≤ d.size ∧ v = .int .i64 (decN (d.data.toList.take k)) ∧ (∀ j (h : j < d.size), j < k → digitP d[j].toNat) ∧ wr = w.iter d k) (fun _ wr => d.size - wr.iterPos w.heap.size)
      case atStart => exact ⟨0, by omega, rfl, fun j _ h => by omega, rfl⟩
      case round =>
        obtain ⟨k, hk, rfl, hg, rfl⟩ := hrel
        have hn := decN_take_lt d k hk hs5 hg
        have HG := hid hg
        clear hg hq
        by_cases hlt : k < d.size
        · have HT := hid (show d.data.toList.take (k + 1) = d.data.toList.take k ++ [d[k]] from List.take_succ_eq_append_getElem (by simpa using hlt))
          have HN := hid (show ∀ b', ¬ digitP d[k].toNat → numD b' d = (0, false) from fun b' h => num_no fun e => h (e.1.2.2.2 k hlt))
          have HS := hid (show digitP d[k].toNat → ∀ j (h : j < d.size), j < k + 1 → digitP d[j].toNat from fun h j hj hjk => by
              by_cases e : j = k
              · subst e; exact h
              · exact HG.out j hj (by omega))
          by_cases ha : d[k].toNat < 128
          · have hnx := fun ty => run_next_ascii (P := Tryd.prog) w d k ty hlt ha
            by_cases hd : (48 : Int) ≤ d[k].toNat ∧ (d[k].toNat : Int) ≤ 57
            · go_wp2_with fail
              refine (isDigit_any _ _).mono ?_
              rintro e w1 ⟨rfl, rfl⟩
              rw [decide_eq_true hd]
              obtain ⟨hd1, hd2⟩ := hd
              go_wp2_with fail
              refine ⟨⟨k + 1, by omega, ?_, HS.out (by unfold digitP; omega), rfl⟩, by simp; omega⟩
              rw [HT.out, decN_snoc]
              go_num
            · go_wp2_with fail
              refine (isDigit_any _ _).mono ?_
              rintro e w1 ⟨rfl, rfl⟩
              rw [decide_eq_false hd]
              go_wp2_with fail
              go_ret2
              exact ⟨by rw [HN.out _ (by unfold digitP; omega)]; rfl, iter_below _ _ _⟩
          · obtain ⟨d1, d2⟩ := decode_high d k hlt (by omega)
            have d3 := decode_le d k
            have hnx := fun ty => run_next_any (P := Tryd.prog) w d k ty hlt
            go_wp2_with fail
            refine (isDigit_any _ _).mono ?_
            rintro e w1 ⟨rfl, rfl⟩
            rw [decide_eq_false (by omega)]
            go_wp2_with fail
            go_ret2
            exact ⟨by rw [HN.out _ (by unfold digitP; omega)]; rfl, iter_below _ _ _⟩
        · obtain rfl : k = d.size := by omega
          have hnx := fun ty => run_next_end (P := Tryd.prog) w d d.size ty hlt
          have HQ := hid (show decN (d.data.toList.take d.size) = decN d.data.toList by rw [size_list, List.take_length])
          have HN := hid (num_yes (show NumP _ d from ⟨⟨hz, hs5, HB.out.1, fun j h => HG.out j h h⟩, HB.out.2⟩))
          first
          | (cases b with
            | true =>
              go_wp2_with fail
              go_ret2
              exact ⟨by rw [HN.out, ← HQ.out]; rfl, iter_below _ _ _⟩
            | false =>
              go_wp2_with fail
              go_ret2
              exact ⟨by rw [HN.out, ← HQ.out]; rfl, iter_below _ _ _⟩)
          | (go_wp2_with fail
             go_ret2
             exact ⟨by rw [HN.out, ← HQ.out]; rfl, iter_below _ _ _⟩)
end Go.Proofs.YtemlobepnfpalagDoor.Prs
