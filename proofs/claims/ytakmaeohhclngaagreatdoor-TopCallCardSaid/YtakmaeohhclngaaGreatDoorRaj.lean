/- Texts: keyholdref.Cut, keyholdref.LinesOf, keyholdref.digits, walked. (From the texts of stage 1.) · Numbers of a line: keyholdref.nums; keyholdref.frameMay; walked. -/
import Derived.Lib.Split
import Derived.Lib.SplitLaws
import Derived.Laws.OwnMore
import Derived.OwnWalk
import Derived.Deep.QuietTactic
import Derived.BigQuiet
import Derived.Test.YtakmaeohhclngaaGreatDoorRac
import Derived.Test.YtakmaeohhclngaaGreatDoorRai
namespace Go.Proofs.YtakmaeohhclngaaGreatDoor.Hex
open Go.RowKit Go.Proofs.YtakmaeohhclngaaGreatDoor.Mem Go.Proofs.YtakmaeohhclngaaGreatDoor.Nums Go.Proofs.YtakmaeohhclngaaGreatDoor.Wd
theorem bytes_ext {a b : ByteArray} (h : a.data.toList = b.data.toList) : a = b := by
 cases a; cases b
 simp only at h
 rw [Array.ext' h]
theorem size_list (a : ByteArray) : a.size = a.data.toList.length := rfl
/-- A text cut at each such byte. -/
def glue (c : UInt8) : List (List UInt8) → List (List UInt8)
 | [] => [[c]]
 | p :: ps => (c :: p) :: ps
def cutL (at_ : UInt8) : List UInt8 → List (List UInt8)
 | [] => [[]]
 | c :: s => if c = at_ then [] :: cutL at_ s else glue c (cutL at_ s)
/-- What is gathered so far, ahead of the first piece of what is left. -/
def ahead (p : List UInt8) : List (List UInt8) → List (List UInt8)
 | [] => [p]
 | q :: qs => (p ++ q) :: qs
theorem cutL_ne (a : UInt8) (s : List UInt8) : cutL a s ≠ [] := by
 cases s with
 | nil => simp [cutL]
 | cons c s =>
  rw [cutL]
  split
  ·simp
  ·unfold glue
   split <;> simp
theorem ahead_nil (a : UInt8) (s : List UInt8) : ahead [] (cutL a s) = cutL a s := by
 rcases h : cutL a s with _ | ⟨q, qs⟩
 ·exact absurd h (cutL_ne a s)
 ·rfl
theorem ahead_glue (p : List UInt8) (c : UInt8) (l : List (List UInt8)) : ahead p (glue c l) = ahead (p ++ [c]) l := by
 cases l <;> simp [glue, ahead]
theorem ahead_step_no (p : List UInt8) (a c : UInt8) (s : List UInt8) (h : c ≠ a) : ahead p (cutL a (c :: s)) = ahead (p ++ [c]) (cutL a s) := by
 rw [cutL, if_neg h, ahead_glue]
theorem ahead_step_yes (p : List UInt8) (a : UInt8) (s : List UInt8) : ahead p (cutL a (a :: s)) = p :: cutL a s := by
 rw [cutL, if_pos rfl, ahead]
 simp
theorem cutL_len (a : UInt8) (s : List UInt8) : (cutL a s).length ≤ s.length + 1 := by
 induction s with
 | nil => simp [cutL]
 | cons c s ih =>
  rw [cutL]
  split
  ·simp; exact ih
  ·have : (glue c (cutL a s)).length ≤ s.length + 1 + 1 := by
    unfold glue
    split
    ·simp
    ·rename_i h; rw [h] at ih; simp at ih ⊢; omega
   simpa using this
/-- The pieces, as texts. -/
def cutB (c : UInt8) (s : ByteArray) : List ByteArray := (cutL c s.data.toList).map fun l => ⟨l.toArray⟩
end Go.Proofs.YtakmaeohhclngaaGreatDoor.Hex
namespace Go.Proofs.YtakmaeohhclngaaGreatDoor.Prs
open Go.RowKit Go.Proofs.YtakmaeohhclngaaGreatDoor.Mem Go.Proofs.YtakmaeohhclngaaGreatDoor.Nums Go.Proofs.YtakmaeohhclngaaGreatDoor.Hex
abbrev digitP (n : Nat) : Prop := 48 ≤ n ∧ n ≤ 57
/-- A decimal number, as its digits say. -/
def decN (l : List UInt8) : Nat := l.foldl (fun n b => n * 10 + (b.toNat - 48)) 0
theorem decN_snoc (l : List UInt8) (b : UInt8) : decN (l ++ [b]) = decN l * 10 + (b.toNat - 48) := by simp [decN]
abbrev DecP (t : ByteArray) : Prop := t.size ≠ 0 ∧ t.size ≤ 5 ∧ (∀ h : 0 < t.size, t[0].toNat = 48 → t.size = 1) ∧ ∀ j (h : j < t.size), digitP t[j].toNat
def decV (t : ByteArray) : Int := if DecP t then decN t.data.toList else -1
theorem dec_yes {t : ByteArray} (h : DecP t) : decV t = decN t.data.toList := by unfold decV; rw [if_pos h]
theorem dec_no {t : ByteArray} (h : ¬ DecP t) : decV t = -1 := by unfold decV; rw [if_neg h]
theorem decN_lt (l : List UInt8) (k : Nat) (h : l.length = k) (hd : ∀ b ∈ l, b.toNat ≤ 57) : decN l < 10 ^ k := by
 induction k generalizing l with
 | zero => rw [List.length_eq_zero_iff.1 h]; decide
 | succ k ih =>
  have hne : l ≠ [] := by rintro rfl; cases h
  rw [← List.dropLast_concat_getLast hne, decN_snoc]
  have h1 := ih l.dropLast (by simp [h]) (fun b hb => hd b (List.dropLast_subset l hb))
  have h2 := hd (l.getLast hne) (List.getLast_mem hne)
  rw [Nat.pow_succ]
  omega
theorem decN_take_lt (t : ByteArray) (k : Nat) (hk : k ≤ t.size) (h5 : t.size ≤ 5) (hd : ∀ j (h : j < t.size), j < k → digitP t[j].toNat) : decN (t.data.toList.take k) < 100000 := by
 have h1 : (t.data.toList.take k).length = k := by rw [List.length_take, ← size_list]; omega
 have h2 := decN_lt (t.data.toList.take k) k h1 (fun b hb => by
  obtain ⟨j, hj, rfl⟩ := List.getElem_of_mem hb
  have hj2 : j < t.size := by rw [size_list]; rw [List.length_take] at hj; omega
  have := hd j hj2 (by omega)
  rw [List.getElem_take]
  exact this.2)
 have h3 : (10 : Nat) ^ k ≤ 10 ^ 5 := Nat.pow_le_pow_right (by decide) (by omega)
 omega
/-- The lines of a text. -/
def linesB (s : ByteArray) : List ByteArray := if (cutB 10 s).getLast? = some ⟨#[]⟩ then (cutB 10 s).dropLast else cutB 10 s
end Go.Proofs.YtakmaeohhclngaaGreatDoor.Prs
namespace Go.Proofs.YtakmaeohhclngaaGreatDoor.Hex
open Go.RowKit Go.Proofs.YtakmaeohhclngaaGreatDoor.Mem Go.Proofs.YtakmaeohhclngaaGreatDoor.Nums Go.Proofs.YtakmaeohhclngaaGreatDoor.Wd
/-- Texts in memory. -/
def StrsAt (w : World) (b off : Nat) (zs : List ByteArray) : Prop := ∀ j (h : j < zs.length), w.cell? ⟨b, off + j, none⟩ = some (.string zs[j])
theorem infoStr : (Tryz.prog.info? 9).map (fun i => (i.zero, i.size, i.bytes)) = some (some (.string ByteArray.empty), 1, 16) := by kernel_rfl
def strs (l : List (List UInt8)) : List Value := l.map fun p => .string ⟨p.toArray⟩
theorem str_list (s : ByteArray) : s = ⟨s.data.toList.toArray⟩ := by cases s; simp
theorem piece_next (s : ByteArray) (a k : Nat) (h1 : a ≤ k) (h2 : k < s.size) : (s.extract a (k + 1)).data.toList = (s.extract a k).data.toList ++ [s[k]] := by
 rw [Lib.extract_data, Lib.extract_data]
 have e : k + 1 - a = k - a + 1 := by omega
 rw [e, List.take_add_one, List.getElem?_drop, show a + (k - a) = k by omega]
 rw [List.getElem?_eq_getElem (by simpa using h2)]
 rfl
theorem piece_none (s : ByteArray) (a : Nat) : (s.extract a a).data.toList = [] := by
 rw [Lib.extract_data]
 simp
theorem own_strs {w : World} {B : Nat} {v : Value} {l : List (List UInt8)} (h : w.ownsRow B 9 1 v l.length (strs l)) (h0 : l ≠ []) :
  ∃ b cap, v = .slice (some ⟨b, 0, none⟩) l.length cap ∧ StrsAt w b 0 (l.map fun p => ⟨p.toArray⟩) ∧ l.length ≤ cap := by
 rcases h.2 with ⟨_, h1⟩ | ⟨g, cap, cur, rfl, _, _, hlc, _⟩
 ·exact absurd (List.length_eq_zero_iff.1 h1) h0
 ·refine ⟨g, cap, rfl, fun j hj => ?_, hlc⟩
  have hj2 : j < l.length := by simpa using hj
  rw [Nat.zero_add, h.cellAt j (by omega)]
  simp [strs, List.getElem?_eq_getElem hj2]
set_option maxHeartbeats 4000000 in
theorem cut_cap (s : ByteArray) (c : UInt8) (w : World) (hs : s.size ≤ 100000) :
  Calls Tryz.prog 42 #[.string s, .int .u8 c.toNat] w fun e w' => ∃ b cap, e = .returned (.slice (some ⟨b, 0, none⟩) (cutB c s).length cap) ∧ StrsAt w' b 0 (cutB c s) ∧ Below w.heap.size w w' ∧ (cutB c s).length ≤ cap := by
 obtain ⟨i0, hi, hz0, hz1, hz2⟩ := info_parts infoStr
 go_enter Tryz.func42, Tryz.ntmps42
 go_wp2_with fail
 go_loopw [5, 6, 7] (fun v f i wr => ∃ (k a : Nat) (done : List (List UInt8)), k ≤ s.size ∧ a ≤ k ∧ done.length ≤ k ∧ i = .int .i64 k ∧ f = .int .i64 a ∧ wr.ownsRow w.heap.size 9 1 v done.length (strs done) ∧ Below w.heap.size w wr ∧ done ++ ahead (s.extract a k).data.toList (cutL c (s.data.toList.drop k)) = cutL c s.data.toList) (fun _ _ i _ => s.size - (intOf i).toNat)
 case atStart => exact ⟨0, 0, [], by omega, by omega, by simp, rfl, rfl, World.ownsRow_nil _ _ _ _, Below.refl _ _, by rw [piece_none]; simp [ahead_nil]⟩
 case round =>
  obtain ⟨k, a, done, hk, ha, hd, rfl, rfl, hO, hB, hE⟩ := hrel
  have HO := hid hO
  have HB := hid hB
  have HE := hid hE
  clear hO hB hE
  by_cases hlt : k < s.size
  ·have hlt2 : (k : Int) < (s.size : Int) := by omega
   have HD := hid (show s.data.toList.drop k = s[k] :: s.data.toList.drop (k + 1) from List.drop_eq_getElem_cons (by simpa using hlt))
   have HP := hid (piece_next s a k ha hlt)
   have hak : (a : Int) ≤ (k : Int) := by omega
   by_cases hc : s[k] = c
   ·have hc2 : ((s[k].toNat : Int) == (c.toNat : Int)) = true := by rw [hc]; simp
    have HC := hid hc
    clear hc
    go_wp2_with (at_builtin; refine wpList_append_own _ rfl _ _ 77 rfl w.heap.size 9 i0 (.string ByteArray.empty) 1 16 Tryz.underlying77 hi hz0 hz1 hz2 rfl (by decide) _ _ _ rfl (HO.out.alloc _) ⟨wr.heap.size, 0, none⟩ 1 1 [.string (s.extract a k)] rfl rfl ?c1 ?c2 ?c3 ?c4 ?c5 ?_)
    case c1 =>
     intro j u hj
     match j, hj with
     | 0, hj => simp at hj; subst hj; simp [Addr.add]
    case c2 => intro u hu; simp at hu; subst hu; rfl
    case c3 => unfold maxLen; omega
    case c4 => omega
    case c5 => have := HB.out.size; simp; omega
    intro v' w2 hown' hgrow _
    have B2 := hid ((bal HB.out _).grown hgrow (by have := HB.out.size; simp; omega) (fun k hk => (HO.out.lt k hk).1))
    have O2 := hid hown'
    clear hown' hgrow
    go_wp2_with fail
    refine ⟨⟨k + 1, k + 1, done ++ [(s.extract a k).data.toList], by omega, by omega, by simp; omega, by go_num, by go_num, ?_, B2.out, ?_⟩, by simp [intOf]; omega⟩
    ·have e := O2.out
     simp only [strs, List.map_append, List.length_append, List.map_cons, List.map_nil, List.length_cons, List.length_nil]
     rw [← str_list]
     exact e
    ·rw [piece_none, ahead_nil, List.append_assoc, ← HE.out, HD.out, HC.out, ahead_step_yes]
     rfl
   ·have hc2 : ((s[k].toNat : Int) == (c.toNat : Int)) = false := by
     rw [beq_eq_false_iff_ne]
     intro e
     exact hc (UInt8.toNat_inj.1 (by omega))
    have HC := hid hc
    clear hc
    go_wp2_with fail
    refine ⟨⟨k + 1, a, done, by omega, by omega, by omega, by go_num, rfl, HO.out, HB.out, ?_⟩, by simp [intOf]; omega⟩
    rw [HP.out, ← ahead_step_no _ _ _ _ HC.out, ← HD.out]
    exact HE.out
  ·obtain rfl : k = s.size := by omega
   have hge : ¬ ((s.size : Int) < (s.size : Int)) := by omega
   have hak : (a : Int) ≤ (s.size : Int) := by omega
   have E := HE.out
   rw [List.drop_eq_nil_of_le (by rw [Array.length_toList]; exact Nat.le_refl _), cutL, ahead, List.append_nil] at E
   have HE2 := hid E
   clear E
   go_wp2_with (at_builtin; refine wpList_append_own _ rfl _ _ 77 rfl w.heap.size 9 i0 (.string ByteArray.empty) 1 16 Tryz.underlying77 hi hz0 hz1 hz2 rfl (by decide) _ _ _ rfl (HO.out.alloc _) ⟨wr.heap.size, 0, none⟩ 1 1 [.string (s.extract a s.size)] rfl rfl ?c1 ?c2 ?c3 ?c4 ?c5 ?_)
   case c2 => rfl
   case c3 => unfold maxLen; omega
   case c4 => omega
   case c5 => have := HB.out.size; simp; omega
   intro v' w2 hown' hgrow _
   have B2 := hid ((bal HB.out _).grown hgrow (by have := HB.out.size; simp; omega) (fun k hk => (HO.out.lt k hk).1))
   have O2 : w2.ownsRow w.heap.size 9 1 v' (cutL c s.data.toList).length (strs (cutL c s.data.toList)) := by
    rw [← HE2.out]
    simp only [strs, List.map_append, List.length_append, List.map_cons, List.map_nil, List.length_cons, List.length_nil]
    rw [← str_list]
    exact hown'
   obtain ⟨b, cap, rfl, hS, hlc⟩ := own_strs O2 (cutL_ne _ _)
   have HS := hid hS
   have HLC := hid hlc
   clear hown' hgrow O2 hS hlc
   go_wp2_with fail
   go_ret
   have el : (cutB c s).length = (cutL c s.data.toList).length := by simp [cutB]
   exact ⟨b, cap, by rw [el]; rfl, HS.out, B2.out, by rw [el]; exact HLC.out⟩
end Go.Proofs.YtakmaeohhclngaaGreatDoor.Hex
namespace Go.Proofs.YtakmaeohhclngaaGreatDoor.Prs
open Go.RowKit Go.Proofs.YtakmaeohhclngaaGreatDoor.Mem Go.Proofs.YtakmaeohhclngaaGreatDoor.Nums Go.Proofs.YtakmaeohhclngaaGreatDoor.Hex
theorem is_empty {s : ByteArray} (h : s.size = 0) : s.toList.isEmpty = true := by
 rw [List.isEmpty_iff, ByteArray.toList_eq, ← List.length_eq_zero_iff]
 exact h
theorem not_empty' {s : ByteArray} (h : s.size ≠ 0) : s.toList.isEmpty = false := by
 rw [← Bool.not_eq_true]
 intro e
 rw [List.isEmpty_iff, ByteArray.toList_eq, ← List.length_eq_zero_iff] at e
 exact h e
theorem digits_head (t : ByteArray) (w : World) (h : t.size = 0 ∨ 5 < t.size ∨ ∃ h : 0 < t.size, t[0].toNat = 48 ∧ 1 < t.size) :
  Calls Tryz.prog 103 #[.string t] w fun e w' => e = .returned (.int .i64 (decV t)) ∧ Below w.heap.size w w' := by
 rw [dec_no (t := t) (fun e => by
  obtain ⟨a, b, c, _⟩ := e
  rcases h with h | h | ⟨hp, h, h1⟩
  ·omega
  ·omega
  ·have := c hp h; omega)]
 by_cases h0 : t.size = 0
 ·have he := is_empty h0
  clear h
  go_enter Tryz.func103, Tryz.ntmps103
  go_wp2_with fail
  go_ret
  exact ⟨rfl, Below.refl _ _⟩
 ·have he := not_empty' h0
  by_cases h5 : (5 : Int) < (t.size : Int)
  ·clear h
   go_enter Tryz.func103, Tryz.ntmps103
   go_wp2_with fail
   go_ret
   exact ⟨rfl, Below.refl _ _⟩
  ·have hp : 0 < t.size := by omega
   have hp2 : (0 : Int) < (t.size : Int) := by omega
   obtain ⟨hl, h1⟩ : t[0].toNat = 48 ∧ 1 < t.size := by
    rcases h with h | h | ⟨_, h⟩
    ·omega
    ·omega
    ·exact h
   clear h
   have hl2 : (t[0].toNat : Int) = 48 := by omega
   have h12 : (1 : Int) < (t.size : Int) := by omega
   go_enter Tryz.func103, Tryz.ntmps103
   go_wp2_with fail
   go_ret
   exact ⟨rfl, Below.refl _ _⟩
set_option maxHeartbeats 2000000 in
theorem digits_any (t : ByteArray) (w : World) :
  Calls Tryz.prog 103 #[.string t] w fun e w' => e = .returned (.int .i64 (decV t)) ∧ Below w.heap.size w w' := by
 by_cases hh : t.size = 0 ∨ 5 < t.size ∨ ∃ h : 0 < t.size, t[0].toNat = 48 ∧ 1 < t.size
 ·exact digits_head t w hh
 have he := not_empty' (s := t) (by omega)
 have h5 : ¬ (5 : Int) < (t.size : Int) := by omega
 have hp : 0 < t.size := by omega
 have hp2 : (0 : Int) < (t.size : Int) := by omega
 have hl : t[0].toNat = 48 → t.size = 1 := fun e => by
  by_cases h1 : t.size = 1
  ·exact h1
  ·exact absurd (.inr (.inr ⟨hp, e, by omega⟩)) hh
 have h1 : ((t[0].toNat : Int) = 48 ∧ ¬ (1 : Int) < (t.size : Int)) ∨ ((t[0].toNat : Int) ≠ 48) := by omega
 have HL := hid hl
 clear hh hl
 rcases h1 with ⟨h1, h2⟩ | h1
 all_goals
  go_enter Tryz.func103, Tryz.ntmps103
  go_wp2_with fail
  go_loopw [3, 4] (fun v i wr => ∃ k : Nat, k ≤ t.size ∧ i = .int .i64 k ∧ v = .int .i64 (decN (t.data.toList.take k)) ∧ (∀ j (h : j < t.size), j < k → digitP t[j].toNat) ∧ wr = w) (fun _ i _ => t.size - (intOf i).toNat)
  case atStart => exact ⟨0, by omega, rfl, rfl, fun j _ h => by omega, rfl⟩
  case round =>
   obtain ⟨k, hk, rfl, rfl, hg, rfl⟩ := hrel
   have HG := hid hg
   have hn := decN_take_lt t k hk (by omega) hg
   clear hg h1
   by_cases hlt : k < t.size
   ·have hlt2 : (k : Int) < (t.size : Int) := by omega
    have HT := hid (show t.data.toList.take (k + 1) = t.data.toList.take k ++ [t[k]] from List.take_succ_eq_append_getElem (by simpa using hlt))
    have HN := hid (show ¬ digitP t[k].toNat → decV t = -1 from fun h => dec_no fun e => h (e.2.2.2 k hlt))
    have HS := hid (show digitP t[k].toNat → ∀ j (h : j < t.size), j < k + 1 → digitP t[j].toNat from fun h j hj hjk => by
      by_cases e : j = k
      ·subst e; exact h
      ·exact HG.out j hj (by omega))
    have h1 : ((t[k].toNat : Int) < 48) ∨ (¬ (t[k].toNat : Int) < 48 ∧ (57 : Int) < t[k].toNat) ∨ (¬ (t[k].toNat : Int) < 48 ∧ ¬ (57 : Int) < t[k].toNat) := by omega
    rcases h1 with h1 | ⟨h1, h2⟩ | ⟨h1, h2⟩
    ·go_wp2_with fail
     go_ret
     exact ⟨by rw [HN.out (by unfold digitP; omega)]; rfl, Below.refl _ _⟩
    ·go_wp2_with fail
     go_ret
     exact ⟨by rw [HN.out (by unfold digitP; omega)]; rfl, Below.refl _ _⟩
    ·go_wp2_with fail
     refine ⟨⟨k + 1, by omega, by go_num, ?_, HS.out (by unfold digitP; omega), trivial⟩, by simp [intOf]; omega⟩
     rw [HT.out, decN_snoc]
     go_num
   ·obtain rfl : k = t.size := by omega
    have hge : ¬ ((t.size : Int) < (t.size : Int)) := by omega
    have HN := hid (show decV t = decN t.data.toList from dec_yes ⟨by omega, by omega, fun _ => HL.out, fun j h => HG.out j h h⟩)
    have HQ := hid (show decN (t.data.toList.take t.size) = decN t.data.toList by rw [size_list, List.take_length])
    go_wp2_with fail
    go_ret
    exact ⟨by rw [HN.out, ← HQ.out]; rfl, Below.refl _ _⟩
def linesZ (zs : List ByteArray) : List ByteArray := if zs.getLast? = some ⟨#[]⟩ then zs.dropLast else zs
theorem linesB_eq (s : ByteArray) : linesB s = linesZ (cutB 10 s) := rfl
theorem last_at {zs : List ByteArray} {L : Nat} (hL : zs.length = L + 1) : ∃ zl, zs.getLast? = some zl ∧ ∀ h : L < zs.length, zs[L] = zl := by
 have h : L < zs.length := by omega
 refine ⟨zs[L], ?_, fun _ => rfl⟩
 have e : zs.length - 1 = L := by omega
 rw [List.getLast?_eq_getElem?, e, List.getElem?_eq_getElem h]
theorem linesZ_yes {zs : List ByteArray} {zl : ByteArray} (hl : zs.getLast? = some zl) (h : zl.size = 0) : linesZ zs = zs.dropLast := by
 have e : zl = ⟨#[]⟩ := by
  apply bytes_ext
  rw [size_list] at h
  rw [List.length_eq_zero_iff.1 h]
 unfold linesZ
 rw [hl, e, if_pos rfl]
theorem linesZ_no {zs : List ByteArray} {zl : ByteArray} (hl : zs.getLast? = some zl) (h : zl.size ≠ 0) : linesZ zs = zs := by
 unfold linesZ
 rw [hl, if_neg]
 intro e
 have := Option.some.inj e
 rw [this] at h
 exact h rfl
theorem StrsAt.drop {w : World} {b : Nat} {zs : List ByteArray} (h : StrsAt w b 0 zs) : StrsAt w b 0 zs.dropLast := fun j hj => by
 have hj2 : j < zs.length := by simp at hj; omega
 rw [h j hj2]
 simp
set_option maxHeartbeats 1000000 in
theorem refLines_any (s : ByteArray) (w : World) (hs : s.size ≤ 100000) :
  Calls Tryz.prog 41 #[.string s] w fun e w' => ∃ b cap, e = .returned (.slice (some ⟨b, 0, none⟩) (linesB s).length cap) ∧ StrsAt w' b 0 (linesB s) ∧ Below w.heap.size w w' := by
 rw [linesB_eq]
 have HC := hid (cut_cap s 10 w hs)
 have HNE := hid (show ∃ L, (cutB 10 s).length = L + 1 by
  have : (cutB 10 s) ≠ [] := by unfold cutB; simp [cutL_ne]
  exact ⟨(cutB 10 s).length - 1, by have := List.length_pos_iff.2 this; omega⟩)
 have HLL := hid (show (cutB 10 s).length ≤ 100001 by
  have := cutL_len 10 s.data.toList
  rw [← size_list] at this
  simp only [cutB, List.length_map]
  omega)
 clear hs
 generalize cutB 10 s = zs at *
 obtain ⟨L, hL⟩ := HNE.out
 have hL2 : L ≤ 100000 := by have := HLL.out; omega
 go_enter Tryz.func41, Tryz.ntmps41
 go_wp2_with fail
 refine HC.out.mono ?_
 rintro e w1 ⟨lb, lc, rfl, hS, hb, hlc⟩
 have S1 := hid hS
 have B1 := hid hb
 have hlc2 : (L : Int) + 1 ≤ (lc : Int) := by omega
 obtain ⟨zl, hzl, hzL⟩ := last_at hL
 have hLt : L < zs.length := by omega
 have cL := hS L hLt
 rw [Nat.zero_add, hzL hLt] at cL
 have HL := hid hL
 have HZL := hid hzl
 rw [hL]
 clear hS hb HC hlc HNE HLL hL hzl hzL hLt
 by_cases hz : zl.size = 0
 ·have HZ := hid (linesZ_yes HZL.out hz)
  have he := is_empty hz
  clear hz
  go_wp2_with fail
  go_ret
  refine ⟨lb, lc, ?_, ?_, B1.out⟩
  ·rw [HZ.out, List.length_dropLast, HL.out]; rfl
  ·rw [HZ.out]; exact StrsAt.drop S1.out
 ·have HZ := hid (linesZ_no HZL.out hz)
  have he := not_empty' hz
  clear hz
  go_wp2_with fail
  go_ret
  refine ⟨lb, lc, ?_, ?_, B1.out⟩
  ·rw [HZ.out, HL.out]; rfl
  ·rw [HZ.out]; exact S1.out
end Go.Proofs.YtakmaeohhclngaaGreatDoor.Prs
namespace Go.Proofs.YtakmaeohhclngaaGreatDoor.Wd
open Go.RowKit Go.Proofs.YtakmaeohhclngaaGreatDoor.Mem Go.Proofs.YtakmaeohhclngaaGreatDoor.Bw Go.Proofs.YtakmaeohhclngaaGreatDoor.Nums Go.Proofs.YtakmaeohhclngaaGreatDoor.Mmu Go.Proofs.YtakmaeohhclngaaGreatDoor.Hex
/-- A number, or a dash. -/
def numOk (t : ByteArray) : Bool := decide (t = (⟨#[45]⟩ : ByteArray)) || decide (0 ≤ Prs.decV t)
theorem wpList_apN {P : Program} {w w' : World} {ops : Array Oper} {rest : List Oper} {o : Oper} {a : Act} {Q : Exit → Act → World → Prop} (hgd : o.guard = none) (s x : Operand) (t : TypeId)
  (ho : o.op = .call { callee := .builtin .append, args := #[s, x], argTypes := #[t, t] }) (v u v' : Value) (hs : a.eval s = v) (hx : a.eval x = u) (hr : (Builtin.append_ #[t, t] o.type #[v, u]).run P w = .ok v' w')
  (h : wpList P ops Q rest (a.put o.dst v') w') : wpList P ops Q (o :: rest) a w := by
 refine wpList_plain hgd fun K hK => ?_
 unfold Oper.wp
 simp [execOp, ho, resolve, invoke, builtin, hs, hx, hr, Result.andThen]
 exact hK _ _ h
/-- One number more in a list of one's own. -/
theorem own_formN {B e size n : Nat} {w : World} {v : Value} {xs : List Value} (h : w.ownsRow B e size v n xs) : ∃ q c, v = .slice q n c := by
 rcases h.2 with ⟨rfl, rfl⟩ | ⟨g, cap, cur, rfl, _⟩
 ·exact ⟨_, _, rfl⟩
 ·exact ⟨_, _, rfl⟩
theorem app_n {w wr : World} {zs : List Int} {n : Nat} {y : Int} {qu : Option Addr} {cu : Nat} (hB : Below w.heap.size w wr) (hl : n ≤ 1000) (hn : zs.length = n) (hO : wr.ownsRow w.heap.size 3 1 (.slice qu n cu) n (ints zs)) :
  ∃ q c w', (Builtin.append_ #[22, 22] 22 #[.slice qu n cu, .slice (some ⟨wr.heap.size, 0, none⟩) 1 1]).run Tryz.prog (wr.alloc (.cells #[.int .i64 y] 3)) = .ok (.slice q (n + 1) c) w' ∧ w'.ownsRow w.heap.size 3 1 (.slice q (n + 1) c) (n + 1) (ints (zs ++ [y])) ∧ Below w.heap.size w w' := by
 subst hn
 have bn := bal (Below.refl wr.heap.size wr) (.cells #[.int .i64 y] 3)
 have hbs := Nat.le_trans hB.size bn.size
 obtain ⟨i, hi, hz, hs, hy⟩ := info_get infoI
 obtain ⟨v', w', hr, h2, h3, _⟩ := run_append_own (P := Tryz.prog) (wr.alloc (.cells #[.int .i64 y] 3)) w.heap.size 22 22 3 i (.int .i64 0) 1 8 Tryz.underlying22 hi hz hs hy rfl (by decide) _ _ _ (own_below hO bn) ⟨wr.heap.size, 0, none⟩ 1 1 [.int .i64 y] rfl (fun j v hj => by
  match j, hj with
  | 0, hj => cases hj; exact cells_new wr #[.int .i64 y] 3 0
  | j + 1, hj => simp at hj) (int1 y) (by unfold maxLen; omega) (by omega) hbs
 obtain ⟨q, c, rfl⟩ := own_formN h2
 have e : ints zs ++ [Value.int .i64 y] = ints (zs ++ [y]) := by unfold ints; simp
 exact ⟨q, c, w', hr, by rw [← e]; exact h2, (btr hB bn).grown h3 hbs (fun k hk => (hO.lt k hk).1)⟩
theorem StrsAt.below' {w w' : World} {b off : Nat} {zs : List ByteArray} (h : StrsAt w b off zs) (hb : Below w.heap.size w w') : StrsAt w' b off zs :=
 fun j hj => (hb.cell (World.block_lt_of_cell? _ _ (h j hj))).trans (h j hj)
/-- A list of numbers of one's own that is not empty: where it lies. -/
theorem own_pos {w : World} {B n : Nat} {v : Value} {zs : List Int} (h : w.ownsRow B 3 1 v n (ints zs)) (hn : zs.length = n) (h0 : 0 < n) : ∃ g cap, v = .slice (some ⟨g, 0, none⟩) n cap ∧ n ≤ cap ∧ B ≤ g ∧ IntsAt w g 0 zs := by
 subst hn
 obtain ⟨q, b, off, cap, e, hq, hi⟩ := own_ints h
 rcases h.2 with ⟨_, h2⟩ | ⟨g, cap2, cur, rfl, h3, _, h5, _⟩
 ·omega
 ·cases e
  have := hq h0
  cases this
  exact ⟨b, cap, rfl, h5, h3, hi⟩
set_option maxRecDepth 100000 in
set_option maxHeartbeats 4000000 in
theorem nums_any (b off cap : Nat) (l : List ByteArray) (w : World) (hS : StrsAt w b off l) (hok : ∀ t ∈ l, numOk t = true) (hl : l.length ≤ 100) :
  Calls Tryz.prog 65 #[.slice (some ⟨b, off, none⟩) l.length cap] w fun r w' => ∃ u, r = .returned (.tuple #[u, .int .i64 0]) ∧ w'.ownsRow w.heap.size 3 1 u l.length (ints (l.map Prs.decV)) ∧ Below w.heap.size w w' := by
 have HS := hid hS
 have HK := hid hok
 have hl2 : (l.length : Int) ≤ 100 := by omega
 clear hS hok
 go_enter Tryz.func65, Tryz.ntmps65
 go_wp2_with fail
 go_loopw [4, 5] (fun u i wr => ∃ (k : Nat) (qu : Option Addr) (cu : Nat), k ≤ l.length ∧ i = .int .i64 k ∧ u = .slice qu k cu ∧ Hid (wr.ownsRow w.heap.size 3 1 (.slice qu k cu) k (ints ((l.take k).map Prs.decV))) ∧ Hid (Below w.heap.size w wr)) (fun _ i _ => l.length - (intOf i).toNat)
 case atStart => exact ⟨0, none, 0, by omega, rfl, rfl, hid (World.ownsRow_nil _ _ _ _), hid (Below.refl _ _)⟩
 case round =>
  obtain ⟨k, qu, cu, hk, rfl, rfl, HO, HB⟩ := hrel
  by_cases hlt : k < l.length
  rotate_left
  ·obtain rfl : l.length = k := by omega
   have hge : ¬ ((l.length : Int) < (l.length : Int)) := by omega
   have O2 := HO.out
   rw [List.take_length] at O2
   have O3 := hid O2
   clear O2 HO
   go_wp2_with fail
   go_ret2
   exact ⟨_, rfl, O3.out, HB.out⟩
  have hlt2 : (k : Int) < (l.length : Int) := by omega
  have cz := (StrsAt.below' HS.out HB.out) k hlt
  have HG := hid (show (l.take (k + 1)).map Prs.decV = (l.take k).map Prs.decV ++ [Prs.decV l[k]] by rw [List.take_succ_eq_append_getElem hlt, List.map_append]; rfl)
  have HN := hid (HK.out l[k] (List.getElem_mem hlt))
  have HLN := hid (show ((l.take k).map Prs.decV).length = k by rw [List.length_map, List.length_take]; omega)
  have HD := hid (Prs.digits_any l[k] wr)
  generalize l[k] = t at *
  generalize (l.take k).map Prs.decV = zs at HO HG HLN ⊢
  go_wp2_with fail
  refine HD.out.mono ?_
  rintro r w3 ⟨rfl, hb⟩
  have B3 := hid (btr HB.out hb)
  have O3 := hid (own_below HO.out hb)
  have cz3 := (hb.cell (World.block_lt_of_cell? _ _ cz)).trans cz
  clear HD HO HB hb cz
  obtain ⟨q', c', w', hr, h2, h3⟩ := app_n (y := Prs.decV t) B3.out (by omega) HLN.out O3.out
  have HR := hid hr
  have HNN := hid h2
  have HBB := hid h3
  clear hr h2 h3
  by_cases ht : t = ⟨#[45]⟩
  ·subst ht
   go_wp2_with (first | (at_builtin; refine wpList_apN rfl _ _ 22 rfl (.slice qu k cu) (.slice (some ⟨w3.heap.size, 0, none⟩) 1 1) (.slice q' (k + 1) c') rfl rfl HR.out ?_))
   exact ⟨⟨k + 1, q', c', by omega, by go_num, rfl, hid (by rw [HG.out]; exact HNN.out), HBB⟩, by simp [intOf]; omega⟩
  ·have hd : 0 ≤ Prs.decV t := by
    have := HN.out
    unfold numOk at this
    rw [Bool.or_eq_true] at this
    rcases this with h | h
    ·exact absurd (of_decide_eq_true h) ht
    ·exact of_decide_eq_true h
   have hd2 : decide (Prs.decV t < 0) = false := decide_eq_false (by omega)
   generalize Prs.decV t = z at *
   go_wp2_with (first | (at_builtin; refine wpList_apN rfl _ _ 22 rfl (.slice qu k cu) (.slice (some ⟨w3.heap.size, 0, none⟩) 1 1) (.slice q' (k + 1) c') rfl rfl HR.out ?_))
   all_goals exact ⟨⟨k + 1, q', c', by omega, by go_num, rfl, hid (by rw [HG.out]; exact HNN.out), HBB⟩, by simp [intOf]; omega⟩
end Go.Proofs.YtakmaeohhclngaaGreatDoor.Wd
