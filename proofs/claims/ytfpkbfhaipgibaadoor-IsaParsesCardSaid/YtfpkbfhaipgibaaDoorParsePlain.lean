/- What a text of instructions says, plainly. -/
import Derived.Test.YtfpkbfhaipgibaaDoorHexPlain
import Derived.Test.YtfpkbfhaipgibaaDoorTextOf
import Derived.Maps.OwnSet
import Derived.Maps.Views
import Derived.Lib.IndexBytes
import Derived.Lib.IndexMore
namespace Go.Proofs.YtfpkbfhaipgibaaDoor.Prs
open Go.Proofs.YtfpkbfhaipgibaaDoor.Hex Go.Proofs.YtfpkbfhaipgibaaDoor.Txt

abbrev str (t : ByteArray) : Lit := .string t.data.toList
abbrev letterP (n : Nat) : Prop := 97 ≤ n ∧ n ≤ 122
abbrev digitP (n : Nat) : Prop := 48 ≤ n ∧ n ≤ 57
abbrev NameP (t : ByteArray) : Prop := t.size ≠ 0 ∧ t.size ≤ 8 ∧ ∀ j (h : j < t.size), letterP t[j].toNat ∨ (j ≠ 0 ∧ digitP t[j].toNat)
def nameB' (t : ByteArray) : Bool := decide (NameP t)
theorem name_yes {t : ByteArray} (h : NameP t) : nameB' t = true := by unfold nameB'; exact decide_eq_true h
theorem name_no {t : ByteArray} (h : ¬ NameP t) : nameB' t = false := by unfold nameB'; exact decide_eq_false h
/-- A decimal number, as its digits say. -/
def decN (l : List UInt8) : Nat := l.foldl (fun n b => n * 10 + (b.toNat - 48)) 0
theorem decN_snoc (l : List UInt8) (b : UInt8) : decN (l ++ [b]) = decN l * 10 + (b.toNat - 48) := by simp [decN]
abbrev DecP (t : ByteArray) : Prop := t.size ≠ 0 ∧ t.size ≤ 5 ∧ (∀ h : 0 < t.size, t[0].toNat = 48 → t.size = 1) ∧ ∀ j (h : j < t.size), digitP t[j].toNat
def decV (t : ByteArray) : Int := if DecP t then decN t.data.toList else -1
theorem dec_yes {t : ByteArray} (h : DecP t) : decV t = decN t.data.toList := by unfold decV; rw [if_pos h]
theorem dec_no {t : ByteArray} (h : ¬ DecP t) : decV t = -1 := by unfold decV; rw [if_neg h]
theorem decN_lt (l : List UInt8) (k : Nat) (h : l.length = k) (hd : ∀ b ∈ l, b.toNat ≤ 57) : decN l < 10 ^ k := by
  induction k generalizing l with
  | zero => rw [List.length_eq_zero_iff.1 h]; decide
  | succ k ih =>
    have hne : l ≠ [] := by rintro rfl; cases h
    rw [← List.dropLast_concat_getLast hne, decN_snoc]
    have h1 := ih l.dropLast (by simp [h]) (fun b hb => hd b (List.dropLast_subset l hb))
    have h2 := hd (l.getLast hne) (List.getLast_mem hne)
    rw [Nat.pow_succ]
    omega
theorem decN_take_lt (t : ByteArray) (k : Nat) (hk : k ≤ t.size) (h5 : t.size ≤ 5) (hd : ∀ j (h : j < t.size), j < k → digitP t[j].toNat) : decN (t.data.toList.take k) < 100000 := by
  have h1 : (t.data.toList.take k).length = k := by rw [List.length_take, ← size_list]; omega
  have h2 := decN_lt (t.data.toList.take k) k h1 (fun b hb => by
    obtain ⟨j, hj, rfl⟩ := List.getElem_of_mem hb
    have hj2 : j < t.size := by rw [size_list]; rw [List.length_take] at hj; omega
    have := hd j hj2 (by omega)
    rw [List.getElem_take]
    exact this.2)
  have h3 : (10 : Nat) ^ k ≤ 10 ^ 5 := Nat.pow_le_pow_right (by decide) (by omega)
  omega
theorem decN_mono (a b : List UInt8) : decN a ≤ decN (a ++ b) := by
  induction b generalizing a with
  | nil => simp
  | cons x b ih =>
    have h1 := ih (a ++ [x])
    rw [decN_snoc, List.append_assoc] at h1
    simp only [List.cons_append, List.nil_append] at h1
    omega
theorem decN_pos {t : ByteArray} (h : DecP t) (h0 : ∀ h : 0 < t.size, t[0].toNat ≠ 48) : 0 < decN t.data.toList := by
  obtain ⟨a, _, _, d⟩ := h
  have hp : 0 < t.size := by omega
  have e : t.data.toList = [t[0]] ++ t.data.toList.drop 1 := by
    have := List.drop_eq_getElem_cons (l := t.data.toList) (i := 0) (by rw [← size_list]; exact hp)
    show t.data.toList = [t.data[0]] ++ t.data.toList.drop 1
    simpa using this
  rw [e]
  have h1 := decN_mono [t[0]] (t.data.toList.drop 1)
  have h2 : decN [t[0]] = t[0].toNat - 48 := by simp [decN]
  have h3 := d 0 hp
  have h4 := h0 hp
  unfold digitP at h3
  omega
theorem decN_zero {t : ByteArray} (h : DecP t) (h0 : ∀ h : 0 < t.size, t[0].toNat = 48) : decN t.data.toList = 0 := by
  obtain ⟨a, _, c, _⟩ := h
  have hp : 0 < t.size := by omega
  have h1 := c hp (h0 hp)
  have e : t.data.toList = [t[0]] := by
    have := List.drop_eq_getElem_cons (l := t.data.toList) (i := 0) (by rw [← size_list]; exact hp)
    rw [List.drop_zero, List.drop_eq_nil_of_le (by rw [← size_list]; omega)] at this
    show t.data.toList = [t.data[0]]
    simpa using this
  rw [e]
  have := h0 hp
  simp [decN, this]
def bodyB (t : ByteArray) : ByteArray := ⟨(Lib.trimPrefix t.data.toList [45]).toArray⟩
def minusB (t : ByteArray) : Bool := Lib.hasPrefix t.data.toList [45]
abbrev NumP (b : Bool) (d : ByteArray) : Prop := DecP d ∧ (b = true → ∀ h : 0 < d.size, d[0].toNat ≠ 48)
def numD (b : Bool) (d : ByteArray) : Int × Bool := if NumP b d then ((if b = true then -(decN d.data.toList : Int) else decN d.data.toList), true) else (0, false)
theorem num_yes {b : Bool} {d : ByteArray} (h : NumP b d) : numD b d = ((if b = true then -(decN d.data.toList : Int) else decN d.data.toList), true) := by unfold numD; rw [if_pos h]
theorem num_no {b : Bool} {d : ByteArray} (h : ¬ NumP b d) : numD b d = (0, false) := by unfold numD; rw [if_neg h]
theorem dec_of_num {b : Bool} {d : ByteArray} (h : NumP b d) : decV d = decN d.data.toList ∧ (b = true → 0 < decN d.data.toList) := ⟨dec_yes h.1, fun e => decN_pos h.1 (h.2 e)⟩
theorem dec_not_num {b : Bool} {d : ByteArray} (h : ¬ NumP b d) : decV d = -1 ∨ (decV d = 0 ∧ b = true) := by
  by_cases hd : DecP d
  · right
    have hb : b = true := by
      cases b with
      | true => rfl
      | false => exact absurd ⟨hd, fun e => by cases e⟩ h
    refine ⟨?_, hb⟩
    rw [dec_yes hd, decN_zero hd (fun hp => ?_)]
    · rfl
    · exact Classical.byContradiction fun e => h ⟨hd, fun _ _ => e⟩
  · exact .inl (dec_no hd)
/-- A whole number, and whether there is one. -/
def numR (t : ByteArray) : Int × Bool := numD (minusB t) (bodyB t)
def immN (t : ByteArray) : Int × Int :=
  if nameB' t = true then (0, 11) else if (numR t).2 = false then (0, 1) else if (numR t).1 < -32768 ∨ 32767 < (numR t).1 then (0, 2) else ((numR t).1, 0)
def valOf (D : DataW Unit) (k : Lit) : Int := match D.atKey k (.lit (.int .i64 0)) with
  | .lit (.int _ c) => c
  | _ => 0
theorem valOf_at {D : DataW Unit} {k : Lit} {c : Int} (h : D.atKey k (.lit (.int .i64 0)) = .lit (.int .i64 c)) : valOf D k = c := by unfold valOf; rw [h]
def immR (D : DataW Unit) (t : ByteArray) : Int × Int := if Maps.has D (str t) = true then (valOf D (str t), 0) else immN t
def errV (c : Int) : Value := if c = 0 then .nilIface else .iface 23 (.int .i64 c)
theorem errV_zero : errV 0 = .nilIface := rfl
theorem errV_ne {c : Int} (h : c ≠ 0) : errV c = .iface 23 (.int .i64 c) := by unfold errV; rw [if_neg h]
abbrev RegP (t : ByteArray) : Prop := ∃ h : t.size = 2, t[0].toNat = 114 ∧ 48 ≤ t[1].toNat ∧ t[1].toNat ≤ 55
def regV (t : ByteArray) : Int × Int := if h : RegP t then (((t[1]'(by obtain ⟨h, _⟩ := h; omega)).toNat : Int) - 48, 0) else (0, 1)
theorem reg_yes {t : ByteArray} (h2 : t.size = 2) (h : t[0].toNat = 114 ∧ 48 ≤ t[1].toNat ∧ t[1].toNat ≤ 55) : regV t = ((t[1].toNat : Int) - 48, 0) := by
  unfold regV; rw [dif_pos ⟨h2, h⟩]
theorem reg_no {t : ByteArray} (h : ¬ RegP t) : regV t = (0, 1) := by unfold regV; rw [dif_neg h]
/-- What a part takes of the words that are left: an error's number, a number, the words left. -/
def stepW (m : ByteArray → Int × Int) : Bool → List ByteArray → Int × Int × List ByteArray
  | false, ws => (0, 0, ws)
  | true, [] => (10, 0, [])
  | true, x :: r => ((m x).2, (m x).1, r)
structure Got where
  err : Int
  a : Int
  b : Int
  i : Int
  left : List ByteArray
def partsR (f m : ByteArray → Int × Int) (a b c : Bool) (ws : List ByteArray) : Got :=
  if (stepW f a ws).1 ≠ 0 then ⟨(stepW f a ws).1, 0, 0, 0, []⟩
  else if (stepW f b (stepW f a ws).2.2).1 ≠ 0 then ⟨(stepW f b (stepW f a ws).2.2).1, 0, 0, 0, []⟩
  else if (stepW m c (stepW f b (stepW f a ws).2.2).2.2).1 ≠ 0 then ⟨(stepW m c (stepW f b (stepW f a ws).2.2).2.2).1, 0, 0, 0, []⟩
  else ⟨0, (stepW f a ws).2.1, (stepW f b (stepW f a ws).2.2).2.1, (stepW m c (stepW f b (stepW f a ws).2.2).2.2).2.1, (stepW m c (stepW f b (stepW f a ws).2.2).2.2).2.2⟩
def namesL : List (List UInt8) := [nameL 0, nameL 1, nameL 2, nameL 3, nameL 4, nameL 5, nameL 6, nameL 7, nameL 8, nameL 9, nameL 10, nameL 11, nameL 12, nameL 13, nameL 14]
def opN (t : ByteArray) : Nat := namesL.findIdx fun l => l == t.data.toList
theorem namesL_at (k : Nat) (h : k < namesL.length) : namesL[k] = nameL k := by
  have : k = 0 ∨ k = 1 ∨ k = 2 ∨ k = 3 ∨ k = 4 ∨ k = 5 ∨ k = 6 ∨ k = 7 ∨ k = 8 ∨ k = 9 ∨ k = 10 ∨ k = 11 ∨ k = 12 ∨ k = 13 ∨ k = 14 := by simp [namesL] at h; omega
  rcases this with rfl | rfl | rfl | rfl | rfl | rfl | rfl | rfl | rfl | rfl | rfl | rfl | rfl | rfl | rfl <;> rfl
theorem opN_le (t : ByteArray) : opN t ≤ 15 := List.findIdx_le_length
theorem opN_ne {t : ByteArray} {k : Nat} (h : k < opN t) : nameL k ≠ t.data.toList := by
  have h1 := opN_le t
  have h2 : k < namesL.length := by simp [namesL]; omega
  have := List.not_of_lt_findIdx h
  rw [namesL_at] at this
  simpa using this
theorem opN_eq {t : ByteArray} (h : opN t < 15) : nameL (opN t) = t.data.toList := by
  have h2 : opN t < namesL.length := by simp [namesL]; omega
  have := List.findIdx_getElem (xs := namesL) (p := fun l => l == t.data.toList) (w := h2)
  have e := namesL_at (opN t) h2
  unfold opN at e
  rw [e] at this
  simpa [opN] using this
/-- One line: an error's number, and the instruction. -/
def lineR (f m : ByteArray → Int × Int) : List ByteArray → Int × (Int × Int × Int × Int)
  | [] => (13, 0, 0, 0, 0)
  | x :: r => if opN x = 15 then (13, 0, 0, 0, 0) else
    if (partsR f m (IP.hA (opN x)) (IP.hB (opN x)) (IP.hC (opN x)) r).err ≠ 0 then ((partsR f m (IP.hA (opN x)) (IP.hB (opN x)) (IP.hC (opN x)) r).err, 0, 0, 0, 0)
    else if (partsR f m (IP.hA (opN x)) (IP.hB (opN x)) (IP.hC (opN x)) r).left ≠ [] then (1, 0, 0, 0, 0)
    else (0, opN x, (partsR f m (IP.hA (opN x)) (IP.hB (opN x)) (IP.hC (opN x)) r).a, (partsR f m (IP.hA (opN x)) (IP.hB (opN x)) (IP.hC (opN x)) r).b, (partsR f m (IP.hA (opN x)) (IP.hB (opN x)) (IP.hC (opN x)) r).i)
def insR (D : DataW Unit) (t : ByteArray) : Int × (Int × Int × Int × Int) := lineR regV (immR D) (cutB 32 t)
/-- Is a line a label? -/
def labB (t : ByteArray) : Bool := Lib.hasSuffix t.data.toList [58] && !decide (0 ≤ Lib.indexByte t.data.toList 32)
def labN (t : ByteArray) : ByteArray := ⟨(Lib.trimSuffix t.data.toList [58]).toArray⟩
def step (q : DataW Unit × Nat) (t : ByteArray) : DataW Unit × Nat := if labB t = true then (q.1.put (str (labN t)) (.lit (.int .i64 (2 * (q.2 : Int)))), q.2) else (q.1, q.2 + 1)
def upTo (ls : List ByteArray) (k : Nat) : DataW Unit × Nat := (ls.take k).foldl step (.map [], 0)
theorem upTo_succ (ls : List ByteArray) (k : Nat) (h : k < ls.length) : upTo ls (k + 1) = step (upTo ls k) ls[k] := by
  unfold upTo
  rw [List.take_succ_eq_append_getElem h, List.foldl_append]
  rfl
theorem upTo_le (ls : List ByteArray) (k : Nat) : (upTo ls k).2 ≤ k := by
  induction k with
  | zero => simp [upTo]
  | succ k ih =>
    by_cases h : k < ls.length
    · rw [upTo_succ ls k h]
      unfold step
      split <;> simp <;> omega
    · have : upTo ls (k + 1) = upTo ls k := by unfold upTo; rw [List.take_of_length_le (by omega), List.take_of_length_le (by omega)]
      rw [this]
      omega
def labE (D : DataW Unit) (t : ByteArray) : Int := if labB t = true then (if nameB' (labN t) = true then (if Maps.has D (str (labN t)) = true then 12 else 0) else 11) else 0
def lineE (D : DataW Unit) (t : ByteArray) : Int := if labB t = true then 0 else (insR D t).1
def codeL (D : DataW Unit) (ls : List ByteArray) : List (Int × Int × Int × Int) := ls.filterMap fun t => if labB t = true then none else some (insR D t).2
theorem codeL_snoc (D : DataW Unit) (ls : List ByteArray) (t : ByteArray) : codeL D (ls ++ [t]) = codeL D ls ++ (if labB t = true then [] else [(insR D t).2]) := by
  unfold codeL
  rw [List.filterMap_append]
  congr 1
  by_cases h : labB t = true <;> simp [h]
theorem first_not (n : Nat) (P : Nat → Prop) : ∃ m, m ≤ n ∧ (∀ j, j < m → P j) ∧ (m < n → ¬ P m) := by
  induction n with
  | zero => exact ⟨0, by omega, fun j h => by omega, fun h => by omega⟩
  | succ n ih =>
    obtain ⟨m, h1, h2, h3⟩ := ih
    by_cases h : m = n
    · subst h
      by_cases hp : P m
      · refine ⟨m + 1, by omega, fun j hj => ?_, fun h => by omega⟩
        by_cases e : j = m
        · subst e; exact hp
        · exact h2 j (by omega)
      · exact ⟨m, by omega, h2, fun _ => hp⟩
    · exact ⟨m, by omega, h2, fun _ => h3 (by omega)⟩
/-- The lines of a text. -/
def linesB (s : ByteArray) : List ByteArray := if (cutB 10 s).getLast? = some ⟨#[]⟩ then (cutB 10 s).dropLast else cutB 10 s
theorem cutL_at (c : UInt8) (s : List UInt8) : (Lib.indexByte s c = -1 → cutL c s = [s]) ∧ (∀ o : Nat, Lib.indexByte s c = o → cutL c s = s.take o :: cutL c (s.drop (o + 1))) := by
  induction s with
  | nil => exact ⟨fun _ => rfl, fun o h => by simp [Lib.indexByte] at h⟩
  | cons b s ih =>
    by_cases hb : b = c
    · subst hb
      refine ⟨fun h => by simp [Lib.indexByte] at h, fun o h => ?_⟩
      have : o = 0 := by simp [Lib.indexByte] at h; omega
      subst this
      simp [cutL]
    · have hb2 : (b == c) = false := by simpa using hb
      have hge := Lib.indexByte_ge s c
      by_cases hm : Lib.indexByte s c = -1
      · have e : Lib.indexByte (b :: s) c = -1 := by unfold Lib.indexByte; rw [hb2, hm]; simp
        refine ⟨fun _ => ?_, fun o h => by omega⟩
        rw [cutL, if_neg hb, ih.1 hm]
        rfl
      · have e : Lib.indexByte (b :: s) c = Lib.indexByte s c + 1 := by
          have : (Lib.indexByte s c == -1) = false := by simpa using hm
          rw [Lib.indexByte, hb2, this]
          simp
        refine ⟨fun h => by omega, fun o h => ?_⟩
        obtain ⟨j, rfl⟩ : ∃ j : Nat, o = j + 1 := ⟨o - 1, by omega⟩
        rw [cutL, if_neg hb, ih.2 j (by omega)]
        rfl
/-- Where the separator is cut off. -/
theorem cut_words (s : ByteArray) : cutB 32 s = if (Lib.cut s.data.toList [32]).2.2 = true then (⟨(Lib.cut s.data.toList [32]).1.toArray⟩ : ByteArray) :: cutB 32 ⟨(Lib.cut s.data.toList [32]).2.1.toArray⟩ else [⟨(Lib.cut s.data.toList [32]).1.toArray⟩] := by
  have hge := Lib.indexByte_ge s.data.toList 32
  obtain ⟨h1, h2⟩ := cutL_at 32 s.data.toList
  unfold Lib.cut
  rw [Lib.index_one]
  by_cases h : 0 ≤ Lib.indexByte s.data.toList 32
  · rw [if_pos h, if_pos rfl]
    have e := h2 (Lib.indexByte s.data.toList 32).toNat (by omega)
    unfold cutB
    rw [e]
    simp
  · rw [if_neg h, if_neg (by simp)]
    have e := h1 (by omega)
    unfold cutB
    rw [e]
    rfl
theorem cut_more (t : ByteArray) : (1 < (cutB 32 t).length) ↔ 0 ≤ Lib.indexByte t.data.toList 32 := by
  have hge := Lib.indexByte_ge t.data.toList 32
  obtain ⟨h1, h2⟩ := cutL_at 32 t.data.toList
  unfold cutB
  rw [List.length_map]
  by_cases h : 0 ≤ Lib.indexByte t.data.toList 32
  · have e := h2 (Lib.indexByte t.data.toList 32).toNat (by omega)
    rw [e]
    have := List.length_pos_iff.2 (cutL_ne 32 (t.data.toList.drop ((Lib.indexByte t.data.toList 32).toNat + 1)))
    simp only [List.length_cons, h, iff_true]
    omega
  · rw [h1 (by omega)]
    simp [h]
end Go.Proofs.YtfpkbfhaipgibaaDoor.Prs
