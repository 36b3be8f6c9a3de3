/- A text of instructions, behind one label, is read as they were, plainly. -/
import Derived.Test.YtfpkbfhaipgibaaDoorCodePure
namespace Go.Proofs.YtfpkbfhaipgibaaDoor.Made
open Go.Proofs.YtfpkbfhaipgibaaDoor.Hex Go.Proofs.YtfpkbfhaipgibaaDoor.Txt Go.Proofs.YtfpkbfhaipgibaaDoor.Prs

def regL (b : Bool) (n : Int) : List UInt8 := if b = true then 32 :: 114 :: Lib.itoa n else []
def immL (b : Bool) (n : Int) : List UInt8 := if b = true then 32 :: Lib.itoa n else []
theorem line_list (o a b i : Int) : (lineB o a b i).data.toList = nameL o.toNat ++ regL (IP.hA o) a ++ regL (IP.hB o) b ++ immL (IP.hC o) i := by
  unfold lineB regL immL
  cases IP.hA o <;> cases IP.hB o <;> cases IP.hC o <;> simp [nameB, iB]
/-- A byte of a line. -/
def lineByte (x : UInt8) : Prop := x = 32 ∨ (48 ≤ x.toNat ∧ x.toNat ≤ 57) ∨ (97 ≤ x.toNat ∧ x.toNat ≤ 122)
theorem digs_in {n : Int} (h0 : 0 ≤ n) (h1 : n ≤ 49) : ∀ x ∈ Lib.itoa n, 48 ≤ x.toNat ∧ x.toNat ≤ 57 := by
  obtain ⟨k, rfl⟩ : ∃ k : Nat, n = k := ⟨n.toNat, by omega⟩
  rw [itoa_small k (by omega)]
  exact (digs_all ⟨k, by omega⟩).1
theorem line_bytes {q : Int × Int × Int × Int} (h : GoodQ q) : ∀ x ∈ (lineB q.1 q.2.1 q.2.2.1 q.2.2.2).data.toList, lineByte x := by
  obtain ⟨hm, h0, h1⟩ := h
  obtain ⟨o0, o1, a0, a1, b0, b1, _, _⟩ := IP.may_zero hm
  intro x hx
  rw [line_list] at hx
  simp only [List.mem_append] at hx
  have hreg : ∀ (c : Bool) (n : Int), 0 ≤ n → n ≤ 49 → x ∈ regL c n → lineByte x := by
    intro c n g0 g1 g
    unfold regL at g
    split at g
    · rcases List.mem_cons.1 g with g | g
      · exact .inl g
      · rcases List.mem_cons.1 g with g | g
        · subst g; exact .inr (.inr (by decide))
        · exact .inr (.inl (digs_in g0 g1 x g))
    · simp at g
  rcases hx with ((hx | hx) | hx) | hx
  · exact .inr (.inr ((names_ok ⟨q.1.toNat, by omega⟩).1 x hx))
  · exact hreg _ _ a0 (by omega) hx
  · exact hreg _ _ b0 (by omega) hx
  · unfold immL at hx
    split at hx
    · rcases List.mem_cons.1 hx with g | g
      · exact .inl g
      · exact .inr (.inl (digs_in h0 h1 x g))
    · simp at hx
theorem line_ne {x : UInt8} (h : lineByte x) : x ≠ 10 ∧ x ≠ 58 := by
  refine ⟨fun e => ?_, fun e => ?_⟩
  · subst e; unfold lineByte at h; revert h; decide
  · subst e; unfold lineByte at h; revert h; decide
/-- The words of a line. -/
theorem line_words {q : Int × Int × Int × Int} (h : GoodQ q) : cutB 32 (lineB q.1 q.2.1 q.2.2.1 q.2.2.2) = nameB q.1 :: ((if IP.hA q.1 = true then [rB q.2.1.toNat] else []) ++ (if IP.hB q.1 = true then [rB q.2.2.1.toNat] else []) ++ (if IP.hC q.1 = true then [iB q.2.2.2] else [])) := by
  obtain ⟨hm, h0, h1⟩ := h
  obtain ⟨o0, o1, a0, a1, b0, b1, _, _⟩ := IP.may_zero hm
  have nn : ∀ x ∈ nameL q.1.toNat, x ≠ 32 := fun x hx e => by
    have := (names_ok ⟨q.1.toNat, by omega⟩).1 x hx
    subst e
    exact absurd this (by decide)
  have nr : ∀ n : Int, 0 ≤ n → n ≤ 49 → ∀ x ∈ (114 :: Lib.itoa n), x ≠ 32 := fun n g0 g1 x hx e => by
    subst e
    rcases List.mem_cons.1 hx with g | g
    · exact absurd g (by decide)
    · exact absurd (digs_in g0 g1 _ g) (by decide)
  have ni : ∀ x ∈ Lib.itoa q.2.2.2, x ≠ 32 := fun x hx e => by
    subst e
    exact absurd (digs_in h0 h1 _ hx) (by decide)
  have na := nr q.2.1 a0 (by omega)
  have nb := nr q.2.2.1 b0 (by omega)
  have ra : (⟨(114 :: Lib.itoa q.2.1).toArray⟩ : ByteArray) = rB q.2.1.toNat := by unfold rB iB; rw [show ((q.2.1.toNat : Nat) : Int) = q.2.1 by omega]
  have rb : (⟨(114 :: Lib.itoa q.2.2.1).toArray⟩ : ByteArray) = rB q.2.2.1.toNat := by unfold rB iB; rw [show ((q.2.2.1.toNat : Nat) : Int) = q.2.2.1 by omega]
  unfold cutB
  rw [line_list]
  unfold regL immL
  cases IP.hA q.1 <;> cases IP.hB q.1 <;> cases IP.hC q.1
  all_goals simp only [if_true, if_false, Bool.false_eq_true, List.append_nil, List.append_assoc, List.cons_append, List.nil_append]
  all_goals first
    | rw [cutL_none _ _ nn]
    | rw [cutL_app _ _ _ nn]
  all_goals first
    | rfl
    | (first
       | rw [cutL_none _ _ ni]
       | rw [cutL_none _ _ na]
       | rw [cutL_none _ _ nb]
       | (rw [← List.cons_append, cutL_app _ _ _ na])
       | (rw [← List.cons_append, cutL_app _ _ _ nb]))
  all_goals first
    | (simp [← ra, ← rb, nameB, iB]; done)
    | (first
       | rw [cutL_none _ _ ni]
       | rw [cutL_none _ _ nb]
       | (rw [← List.cons_append, cutL_app _ _ _ nb, cutL_none _ _ ni]))
  all_goals (simp [← ra, ← rb, nameB, iB])
theorem ins_line {q : Int × Int × Int × Int} (h : GoodQ q) : insR D1 (lineB q.1 q.2.1 q.2.2.1 q.2.2.2) = (0, q) := by
  obtain ⟨o, a, b, i⟩ := q
  have hw := line_words h
  obtain ⟨hm, h0, h1⟩ := h
  obtain ⟨o0, o1, a0, a1, b0, b1, _, _⟩ := IP.may_zero hm
  simp only at hw hm h0 h1 o0 o1 a0 a1 b0 b1 ⊢
  have ra : regV (rB a.toNat) = (a, 0) := by rw [reg_rB _ (by omega)]; simp; omega
  have rb : regV (rB b.toNat) = (b, 0) := by rw [reg_rB _ (by omega)]; simp; omega
  have ri : immR D1 (iB i) = (i, 0) := by
    have := imm_iB i.toNat (by omega)
    rw [show ((i.toNat : Nat) : Int) = i by omega] at this
    exact this
  have ho : opN (nameB o) = o.toNat := (names_ok ⟨o.toNat, by omega⟩).2
  have h15 : o.toNat ≠ 15 := by omega
  have hoc : ((o.toNat : Nat) : Int) = o := by omega
  have hz : (IP.hA o = false → a = 0) ∧ (IP.hB o = false → b = 0) ∧ (IP.hC o = false → i = 0) := by
    unfold IP.may at hm
    rw [if_neg (by omega)] at hm
    split at hm
    · rename_i hf
      exact ⟨((IP.fitB_iff _ _ _ _).1 hf.1).2, ((IP.fitB_iff _ _ _ _).1 hf.2.1).2, ((IP.fitB_iff _ _ _ _).1 hf.2.2).2⟩
    · exact absurd hm (by decide)
  unfold insR
  rw [hw]
  have hp : partsR regV (immR D1) (IP.hA o) (IP.hB o) (IP.hC o) ((if IP.hA o = true then [rB a.toNat] else []) ++ (if IP.hB o = true then [rB b.toNat] else []) ++ (if IP.hC o = true then [iB i] else [])) = ⟨0, a, b, i, []⟩ := by
    obtain ⟨z1, z2, z3⟩ := hz
    cases hA : IP.hA o <;> cases hB : IP.hB o <;> cases hC : IP.hC o
    all_goals
      simp only [hA, hB, hC, true_implies, Bool.true_eq_false, false_implies] at z1 z2 z3
    all_goals simp [partsR, stepW, *]
  have hp2 : partsR regV (immR D1) (IP.hA (o.toNat : Int)) (IP.hB (o.toNat : Int)) (IP.hC (o.toNat : Int)) ((if IP.hA o = true then [rB a.toNat] else []) ++ (if IP.hB o = true then [rB b.toNat] else []) ++ (if IP.hC o = true then [iB i] else [])) = ⟨0, a, b, i, []⟩ := by rw [hoc]; exact hp
  have := line_ok (f := regV) (m := immR D1) (x := nameB o) ho h15 hp2 rfl rfl
  rw [this, hoc]
theorem lab_line {q : Int × Int × Int × Int} (h : GoodQ q) : labB (lineB q.1 q.2.1 q.2.2.1 q.2.2.2) = false := by
  have hb := line_bytes h
  unfold labB Lib.hasSuffix
  have : ([58] : List UInt8).isSuffixOf (lineB q.1 q.2.1 q.2.2.1 q.2.2.2).data.toList = false := by
    rw [← Bool.not_eq_true]
    intro e
    rw [List.isSuffixOf_iff_suffix] at e
    obtain ⟨k, hk⟩ := e
    have := hb 58 (by rw [← hk]; simp)
    exact (line_ne this).2 rfl
  rw [this]
  rfl
/-- The whole text: a label, and the lines. -/
def wholeB (zs : List (Int × Int × Int × Int)) : ByteArray := ⟨([98, 101, 103, 105, 110, 58, 10] ++ textL zs).toArray⟩
def lineZ (q : Int × Int × Int × Int) : ByteArray := lineB q.1 q.2.1 q.2.2.1 q.2.2.2
theorem cut_text (zs : List (Int × Int × Int × Int)) (h : ∀ q ∈ zs, GoodQ q) : cutL 10 (textL zs) = zs.map (fun q => (lineZ q).data.toList) ++ [[]] := by
  induction zs with
  | nil => rfl
  | cons q zs ih =>
    have e : textL (q :: zs) = (lineZ q).data.toList ++ 10 :: textL zs := by
      unfold textL lineQ lineZ
      simp
    rw [e, cutL_app 10 (lineZ q).data.toList (textL zs) (fun x hx => (line_ne (line_bytes (h q (by simp)) x hx)).1), ih (fun p hp => h p (by simp [hp]))]
    rfl
theorem lines_whole (zs : List (Int × Int × Int × Int)) (h : ∀ q ∈ zs, GoodQ q) : linesB (wholeB zs) = beginB :: zs.map lineZ := by
  have e : cutB 10 (wholeB zs) = (beginB :: zs.map lineZ) ++ [⟨#[]⟩] := by
    unfold cutB wholeB
    have e1 : ([98, 101, 103, 105, 110, 58, 10] : List UInt8) ++ textL zs = [98, 101, 103, 105, 110, 58] ++ 10 :: textL zs := rfl
    rw [e1, cutL_app _ _ _ (by decide), cut_text zs h]
    simp [beginB]
  unfold linesB
  rw [e, List.getLast?_concat, if_pos rfl, List.dropLast_concat]
theorem begin_lab : labB beginB = true ∧ labN beginB = ⟨beginL.toArray⟩ ∧ nameB' (labN beginB) = true := by
  refine ⟨by decide, by decide, ?_⟩
  have e : labN beginB = ⟨#[98, 101, 103, 105, 110]⟩ := by decide
  rw [e]
  refine name_yes ⟨by decide, by decide, fun j h => .inl ?_⟩
  have hj : j < 5 := h
  have : j = 0 ∨ j = 1 ∨ j = 2 ∨ j = 3 ∨ j = 4 := by omega
  rcases this with rfl | rfl | rfl | rfl | rfl <;> (clear hj; revert h; unfold letterP; decide)
theorem upTo_whole (zs : List (Int × Int × Int × Int)) (h : ∀ q ∈ zs, GoodQ q) : ∀ k, k ≤ zs.length → upTo (beginB :: zs.map lineZ) (k + 1) = (D1, k) := by
  intro k
  induction k with
  | zero =>
    intro _
    rw [upTo_succ _ 0 (by simp)]
    have e : upTo (beginB :: zs.map lineZ) 0 = (.map [], 0) := rfl
    rw [e]
    show Prs.step (DataW.map [], 0) beginB = (D1, 0)
    rw [step_yes begin_lab.1, begin_lab.2.1]
    rfl
  | succ k ih =>
    intro hk
    rw [upTo_succ _ (k + 1) (by simp; omega), ih (by omega)]
    have hk2 : k < zs.length := by omega
    have e : (beginB :: zs.map lineZ)[k + 1]'(by simp; omega) = lineZ zs[k] := by simp
    rw [e, step_no (t := lineZ zs[k]) (lab_line (h zs[k] (List.getElem_mem hk2)))]
/-- No line is wrong. -/
theorem whole_ends (zs : List (Int × Int × Int × Int)) (h : ∀ q ∈ zs, GoodQ q) (m m2 : Nat) (hE : Prs.Ends (beginB :: zs.map lineZ) m m2) : m = (beginB :: zs.map lineZ).length ∧ m2 = (beginB :: zs.map lineZ).length := by
  obtain ⟨hm, _, hx, hm2, _, hx2⟩ := hE
  have hlen : (beginB :: zs.map lineZ).length = zs.length + 1 := by simp
  constructor
  · by_cases hlt : m < (beginB :: zs.map lineZ).length
    · refine absurd ?_ (hx hlt)
      cases m with
      | zero =>
        show labE (.map []) beginB = 0
        unfold labE
        rw [if_pos begin_lab.1, if_pos begin_lab.2.2]
        rfl
      | succ k =>
        have hk2 : k < zs.length := by omega
        have e : (beginB :: zs.map lineZ)[k + 1] = lineZ zs[k] := by simp
        rw [e]
        unfold labE
        rw [if_neg (by rw [show labB (lineZ zs[k]) = false from lab_line (h zs[k] (List.getElem_mem hk2))]; decide)]
    · omega
  · by_cases hlt : m2 < (beginB :: zs.map lineZ).length
    · refine absurd ?_ (hx2 hlt)
      rw [hlen, upTo_whole zs h zs.length (Nat.le_refl _)]
      cases m2 with
      | zero =>
        show lineE D1 beginB = 0
        unfold lineE
        rw [if_pos begin_lab.1]
      | succ k =>
        have hk2 : k < zs.length := by omega
        have e : (beginB :: zs.map lineZ)[k + 1] = lineZ zs[k] := by simp
        have hg := h zs[k] (List.getElem_mem hk2)
        rw [e]
        unfold lineE
        rw [if_neg (by rw [show labB (lineZ zs[k]) = false from lab_line hg]; decide)]
        show (insR D1 (lineZ zs[k])).1 = 0
        rw [show insR D1 (lineZ zs[k]) = (0, zs[k]) from ins_line hg]
    · omega
theorem filterMap_same {α : Type} {f : α → Option α} {l : List α} (h : ∀ q ∈ l, f q = some q) : l.filterMap f = l := by
  induction l with
  | nil => rfl
  | cons q l ih => rw [List.filterMap_cons, h q (by simp), ih (fun p hp => h p (by simp [hp]))]
theorem whole_code (zs : List (Int × Int × Int × Int)) (h : ∀ q ∈ zs, GoodQ q) : codeL (upTo (beginB :: zs.map lineZ) (beginB :: zs.map lineZ).length).1 (beginB :: zs.map lineZ) = zs := by
  have hlen : (beginB :: zs.map lineZ).length = zs.length + 1 := by simp
  rw [hlen, upTo_whole zs h zs.length (Nat.le_refl _)]
  unfold codeL
  rw [List.filterMap_cons, if_pos begin_lab.1]
  simp only
  rw [List.filterMap_map]
  have : ∀ q ∈ zs, ((fun t => if labB t = true then none else some (insR D1 t).2) ∘ lineZ) q = some q := fun q hq => by
    have hg := h q hq
    show (if labB (lineZ q) = true then none else some (insR D1 (lineZ q)).2) = some q
    rw [if_neg (by rw [show labB (lineZ q) = false from lab_line hg]; decide), show insR D1 (lineZ q) = (0, q) from ins_line hg]
  exact filterMap_same this
theorem whole_few (zs : List (Int × Int × Int × Int)) (h : ∀ q ∈ zs, GoodQ q) (hl : zs.length ≤ 40) : ¬ 40 < (upTo (beginB :: zs.map lineZ) (beginB :: zs.map lineZ).length).2 := by
  have hlen : (beginB :: zs.map lineZ).length = zs.length + 1 := by simp
  rw [hlen, upTo_whole zs h zs.length (Nat.le_refl _)]
  show ¬ 40 < zs.length
  omega
theorem whole_size (zs : List (Int × Int × Int × Int)) (h : ∀ q ∈ zs, GoodQ q) : (wholeB zs).size ≤ 7 + 30 * zs.length := by
  have e : (wholeB zs).size = 7 + (textL zs).length := by unfold wholeB; simp [ByteArray.size]; omega
  rw [e]
  have : (textL zs).length ≤ 30 * zs.length := by
    induction zs with
    | nil => simp [textL]
    | cons q zs ih =>
      have e2 : textL (q :: zs) = lineQ q ++ textL zs := rfl
      rw [e2, List.length_append, List.length_cons]
      have h1 := ih (fun p hp => h p (by simp [hp])) (by unfold wholeB; simp [ByteArray.size]; omega)
      have h2 : (lineQ q).length ≤ 30 := by
        obtain ⟨hm, h0, h1⟩ := h q (by simp)
        obtain ⟨o0, o1, a0, a1, b0, b1, _, _⟩ := IP.may_zero hm
        have li : ∀ n : Int, 0 ≤ n → n ≤ 49 → (Lib.itoa n).length ≤ 2 := fun n g0 g1 => by
          obtain ⟨k, rfl⟩ : ∃ k : Nat, n = k := ⟨n.toNat, by omega⟩
          rw [itoa_small k (by omega)]
          exact (digs_all ⟨k, by omega⟩).2.2.1
        have lr : ∀ (c : Bool) (n : Int), 0 ≤ n → n ≤ 49 → (regL c n).length ≤ 4 := fun c n g0 g1 => by
          have := li n g0 g1
          unfold regL
          split
          · simp; omega
          · simp
        have lm : (immL (IP.hC q.1) q.2.2.2).length ≤ 3 := by
          have := li _ h0 h1
          unfold immL
          split
          · simp; omega
          · simp
        have ln : (nameL q.1.toNat).length ≤ 5 := by
          have : ∀ k : Fin 15, (nameL k.val).length ≤ 5 := by decide
          exact this ⟨q.1.toNat, by omega⟩
        have l1 := lr (IP.hA q.1) q.2.1 a0 (by omega)
        have l2 := lr (IP.hB q.1) q.2.2.1 b0 (by omega)
        unfold lineQ
        rw [line_list]
        simp only [List.length_append, List.length_cons, List.length_nil]
        omega
      omega
  omega
end Go.Proofs.YtfpkbfhaipgibaaDoor.Made
