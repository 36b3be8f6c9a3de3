/- keyholdref.Cut, walked; keyholdref.Same, walked. -/
import Derived.Test.YtfpkbfhaipgibaaDoorHexPlain
import Derived.Test.YtfpkbfhaipgibaaDoorHexOfWalk
import Derived.Test.YtfpkbfhaipgibaaDoorBld
import Derived.Laws.OwnMore
import Derived.OwnWalk
import Derived.Deep.QuietTactic
import Derived.BigQuiet
namespace Go.Proofs.YtfpkbfhaipgibaaDoor.Hex
open Go.RowKit Go.Proofs.YtfpkbfhaipgibaaDoor.Mem

/-- Texts in memory. -/
def StrsAt (w : World) (b off : Nat) (zs : List ByteArray) : Prop := ∀ j (h : j < zs.length), w.cell? ⟨b, off + j, none⟩ = some (.string zs[j])
theorem StrsAt.below {w w' : World} {b off : Nat} {zs : List ByteArray} (h : StrsAt w b off zs) (hb : Below w.heap.size w w') : StrsAt w' b off zs :=
  fun j hj => (hb.cell (World.block_lt_of_cell? _ _ (h j hj))).trans (h j hj)
theorem infoStr : (Tryd.prog.info? 9).map (fun i => (i.zero, i.size, i.bytes)) = some (some (.string ByteArray.empty), 1, 16) := by kernel_rfl
theorem one_new (W : World) (u : Value) (e : TypeId) : ∀ (j : Nat) (x : Value), [u][j]? = some x → (W.alloc (.cells #[u] e)).cell? ((⟨W.heap.size, 0, none⟩ : Addr).add j) = some x := by
  intro j x hj
  match j, hj with
  | 0, hj => simp at hj; subst hj; simp [Addr.add]
theorem one_cell (u : Value) (h : u.oneCell' = true) : ∀ x ∈ [u], x.oneCell' = true := by
  intro x hx
  simp at hx
  subst hx
  exact h
def strs (l : List (List UInt8)) : List Value := l.map fun p => .string ⟨p.toArray⟩
theorem str_list (s : ByteArray) : s = ⟨s.data.toList.toArray⟩ := by cases s; simp
theorem piece_next (s : ByteArray) (a k : Nat) (h1 : a ≤ k) (h2 : k < s.size) : (s.extract a (k + 1)).data.toList = (s.extract a k).data.toList ++ [s[k]] := by
  rw [Lib.extract_data, Lib.extract_data]
  have e : k + 1 - a = k - a + 1 := by omega
  rw [e, List.take_add_one, List.getElem?_drop, show a + (k - a) = k by omega]
  rw [List.getElem?_eq_getElem (by simpa using h2)]
  rfl
theorem piece_none (s : ByteArray) (a : Nat) : (s.extract a a).data.toList = [] := by
  rw [Lib.extract_data]
  simp
theorem own_strs {w : World} {B : Nat} {v : Value} {l : List (List UInt8)} (h : w.ownsRow B 9 1 v l.length (strs l)) (h0 : l ≠ []) :
    ∃ b cap, v = .slice (some ⟨b, 0, none⟩) l.length cap ∧ StrsAt w b 0 (l.map fun p => ⟨p.toArray⟩) ∧ l.length ≤ cap := by
  rcases h.2 with ⟨_, h1⟩ | ⟨g, cap, cur, rfl, _, _, hlc, _⟩
  · exact absurd (List.length_eq_zero_iff.1 h1) h0
  · refine ⟨g, cap, rfl, fun j hj => ?_, hlc⟩
    have hj2 : j < l.length := by simpa using hj
    rw [Nat.zero_add, h.cellAt j (by omega)]
    simp [strs, List.getElem?_eq_getElem hj2]
set_option maxHeartbeats 4000000 in
theorem cut_cap (s : ByteArray) (c : UInt8) (w : World) (hs : s.size ≤ 100000) :
    Calls Tryd.prog 37 #[.string s, .int .u8 c.toNat] w fun e w' => ∃ b cap, e = .returned (.slice (some ⟨b, 0, none⟩) (cutB c s).length cap) ∧ StrsAt w' b 0 (cutB c s) ∧ Below w.heap.size w w' ∧ (cutB c s).length ≤ cap := by
  obtain ⟨i0, hi, hz0, hz1, hz2⟩ := info_parts infoStr
  go_enter Tryd.func37, Tryd.ntmps37
  go_wp2_with fail
  go_loopw [5, 6, 7] (fun v f i wr => ∃ (k a : Nat) (done : List (List UInt8)), k ≤ s.size ∧ a ≤ k ∧ done.length ≤ k ∧ i = .int .i64 k ∧ f = .int .i64 a ∧ wr.ownsRow w.heap.size 9 1 v done.length (strs done) ∧ Below w.heap.size w wr ∧ done ++ ahead (s.extract a k).data.toList (cutL c (s.data.toList.drop k)) = cutL c s.data.toList) (fun _ _ i _ => s.size - (intOf i).toNat)
  case atStart => exact ⟨0, 0, [], by omega, by omega, by simp, rfl, rfl, World.ownsRow_nil _ _ _ _, Below.refl _ _, by rw [piece_none]; simp [ahead_nil]⟩
  case round =>
    obtain ⟨k, a, done, hk, ha, hd, rfl, rfl, hO, hB, hE⟩ := hrel
    have HO := hid hO
    have HB := hid hB
    have HE := hid hE
    clear hO hB hE
    by_cases hlt : k < s.size
    · have hlt2 : (k : Int) < (s.size : Int) := by omega
      have HD := hid (show s.data.toList.drop k = s[k] :: s.data.toList.drop (k + 1) from List.drop_eq_getElem_cons (by simpa using hlt))
      have HP := hid (piece_next s a k ha hlt)
      have hak : (a : Int) ≤ (k : Int) := by omega
      by_cases hc : s[k] = c
      · have hc2 : ((s[k].toNat : Int) == (c.toNat : Int)) = true := by rw [hc]; simp
        have HC := hid hc
        clear hc
        go_wp2_with (at_builtin; refine wpList_append_own _ rfl _ _ 84 rfl w.heap.size 9 i0 (.string ByteArray.empty) 1 16 Tryd.underlying84 hi hz0 hz1 hz2 rfl (by decide) _ _ _ rfl (HO.out.alloc _) ⟨wr.heap.size, 0, none⟩ 1 1 [.string (s.extract a k)] rfl rfl ?c1 ?c2 ?c3 ?c4 ?c5 ?_)
        case c1 =>
          intro j u hj
          match j, hj with
          | 0, hj => simp at hj; subst hj; simp [Addr.add]
        case c2 => intro u hu; simp at hu; subst hu; rfl
        case c3 => unfold maxLen; omega
        case c4 => omega
        case c5 => have := HB.out.size; simp; omega
        intro v' w2 hown' hgrow _
        have B2 := hid ((bal HB.out _).grown hgrow (by have := HB.out.size; simp; omega) (fun k hk => (HO.out.lt k hk).1))
        have O2 := hid hown'
        clear hown' hgrow
        go_wp2_with fail
        refine ⟨⟨k + 1, k + 1, done ++ [(s.extract a k).data.toList], by omega, by omega, by simp; omega, by go_num, by go_num, ?_, B2.out, ?_⟩, by simp [intOf]; omega⟩
        · have e := O2.out
          simp only [strs, List.map_append, List.length_append, List.map_cons, List.map_nil, List.length_cons, List.length_nil]
          rw [← str_list]
          exact e
        · rw [piece_none, ahead_nil, List.append_assoc, ← HE.out, HD.out, HC.out, ahead_step_yes]
          rfl
      · have hc2 : ((s[k].toNat : Int) == (c.toNat : Int)) = false := by
          rw [beq_eq_false_iff_ne]
          intro e
          exact hc (UInt8.toNat_inj.1 (by omega))
        have HC := hid hc
        clear hc
        go_wp2_with fail
        refine ⟨⟨k + 1, a, done, by omega, by omega, by omega, by go_num, rfl, HO.out, HB.out, ?_⟩, by simp [intOf]; omega⟩
        rw [HP.out, ← ahead_step_no _ _ _ _ HC.out, ← HD.out]
        exact HE.out
    · obtain rfl : k = s.size := by omega
      have hge : ¬ ((s.size : Int) < (s.size : Int)) := by omega
      have hak : (a : Int) ≤ (s.size : Int) := by omega
      have E := HE.out
      rw [List.drop_eq_nil_of_le (by rw [Array.length_toList]; exact Nat.le_refl _), cutL, ahead, List.append_nil] at E
      have HE2 := hid E
      clear E
      go_wp2_with (at_builtin; refine wpList_append_own _ rfl _ _ 84 rfl w.heap.size 9 i0 (.string ByteArray.empty) 1 16 Tryd.underlying84 hi hz0 hz1 hz2 rfl (by decide) _ _ _ rfl (HO.out.alloc _) ⟨wr.heap.size, 0, none⟩ 1 1 [.string (s.extract a s.size)] rfl rfl ?c1 ?c2 ?c3 ?c4 ?c5 ?_)
      case c2 => rfl
      case c3 => unfold maxLen; omega
      case c4 => omega
      case c5 => have := HB.out.size; simp; omega
      intro v' w2 hown' hgrow _
      have B2 := hid ((bal HB.out _).grown hgrow (by have := HB.out.size; simp; omega) (fun k hk => (HO.out.lt k hk).1))
      have O2 : w2.ownsRow w.heap.size 9 1 v' (cutL c s.data.toList).length (strs (cutL c s.data.toList)) := by
        rw [← HE2.out]
        simp only [strs, List.map_append, List.length_append, List.map_cons, List.map_nil, List.length_cons, List.length_nil]
        rw [← str_list]
        exact hown'
      obtain ⟨b, cap, rfl, hS, hlc⟩ := own_strs O2 (cutL_ne _ _)
      have HS := hid hS
      have HLC := hid hlc
      clear hown' hgrow O2 hS hlc
      go_wp2_with fail
      go_ret
      have el : (cutB c s).length = (cutL c s.data.toList).length := by simp [cutB]
      exact ⟨b, cap, by rw [el]; rfl, HS.out, B2.out, by rw [el]; exact HLC.out⟩
theorem cut_any (s : ByteArray) (c : UInt8) (w : World) (hs : s.size ≤ 100000) :
    Calls Tryd.prog 37 #[.string s, .int .u8 c.toNat] w fun e w' => ∃ b cap, e = .returned (.slice (some ⟨b, 0, none⟩) (cutB c s).length cap) ∧ StrsAt w' b 0 (cutB c s) ∧ Below w.heap.size w w' :=
  (cut_cap s c w hs).mono fun _ _ ⟨b, cap, h1, h2, h3, _⟩ => ⟨b, cap, h1, h2, h3⟩
set_option maxHeartbeats 2000000 in
/-- Two lists of the same numbers are the same. -/
theorem same_yes (zs : List Int) (b off cap b2 off2 cap2 : Nat) (w : World) (h1 : IntsAt w b off zs) (h2 : IntsAt w b2 off2 zs) (hl : zs.length ≤ 100000) :
    Calls Tryd.prog 66 #[.slice (some ⟨b, off, none⟩) zs.length cap, .slice (some ⟨b2, off2, none⟩) zs.length cap2] w fun e w' => e = .returned (.bool true) ∧ Below w.heap.size w w' := by
  go_enter Tryd.func66, Tryd.ntmps66
  go_wp2_with fail
  have H1 := hid h1
  have H2 := hid h2
  clear h1 h2
  go_loopw [5] (fun i wr => ∃ k : Nat, k ≤ zs.length ∧ i = .int .i64 k ∧ Below w.heap.size w wr) (fun i _ => zs.length - (intOf i).toNat)
  case atStart => exact ⟨0, by omega, rfl, Below.refl _ _⟩
  case round =>
    obtain ⟨k, hk, rfl, hB⟩ := hrel
    have HB := hid hB
    by_cases hlt : k < zs.length
    · have hlt2 : (k : Int) < (zs.length : Int) := by omega
      have c1 := H1.out.below hB k hlt
      have c2 := H2.out.below hB k hlt
      clear hB
      go_wp2_with fail
      go_quiet (fail)
      go_wp2_with fail
      exact ⟨⟨k + 1, by omega, by go_num, below_drewN HB.out nq⟩, by simp [intOf]; omega⟩
    · obtain rfl : k = zs.length := by omega
      have hge : ¬ ((zs.length : Int) < (zs.length : Int)) := by omega
      go_wp2_with fail
      go_ret
      exact ⟨rfl, hB⟩
theorem same_nil (w : World) :
    Calls Tryd.prog 66 #[.slice none 0 0, .slice none 0 0] w fun e w' => e = .returned (.bool true) ∧ Below w.heap.size w w' := by
  go_enter Tryd.func66, Tryd.ntmps66
  go_wp2_with fail
  refine wp_loop_rounds 1 ?_
  rw [rounds_succ]
  go_wp2_with fail
  go_ret
  exact ⟨rfl, Below.refl _ _⟩
end Go.Proofs.YtfpkbfhaipgibaaDoor.Hex
