/- What is written of instructions is read again, plainly. -/
import Derived.Test.YtfpkbfhaipgibaaDoorMadeCode
namespace Go.Proofs.YtfpkbfhaipgibaaDoor.Made
open Go.Proofs.YtfpkbfhaipgibaaDoor.Hex Go.Proofs.YtfpkbfhaipgibaaDoor.Txt Go.Proofs.YtfpkbfhaipgibaaDoor.Prs

theorem cutL_app (c : UInt8) (a b : List UInt8) (h : ∀ x ∈ a, x ≠ c) : cutL c (a ++ c :: b) = a :: cutL c b := by
  induction a with
  | nil => simp [cutL]
  | cons x a ih =>
    have hx : x ≠ c := h x (by simp)
    rw [List.cons_append, cutL, if_neg hx, ih (fun y hy => h y (by simp [hy]))]
    rfl
theorem cutL_none (c : UInt8) (a : List UInt8) (h : ∀ x ∈ a, x ≠ c) : cutL c a = [a] := by
  induction a with
  | nil => rfl
  | cons x a ih =>
    have hx : x ≠ c := h x (by simp)
    rw [cutL, if_neg hx, ih (fun y hy => h y (by simp [hy]))]
    rfl
/-- The decimal digits of a number below fifty. -/
def digs (n : Nat) : List UInt8 := if n < 10 then [UInt8.ofNat (48 + n)] else [UInt8.ofNat (48 + n / 10), UInt8.ofNat (48 + n % 10)]
theorem itoa_small (n : Nat) (h : n < 50) : Lib.itoa n = digs n := by
  unfold Lib.itoa digs
  rw [if_neg (by omega), Int.toNat_natCast]
  by_cases h1 : n < 10
  · rw [if_pos h1, Lib.decDigits, dif_pos h1]
  · rw [if_neg h1, Lib.decDigits, dif_neg h1, Lib.decDigits, dif_pos (by omega)]
    rfl
theorem digs_all : ∀ n : Fin 50, (∀ x ∈ digs n.val, 48 ≤ x.toNat ∧ x.toNat ≤ 57) ∧ 0 < (digs n.val).length ∧ (digs n.val).length ≤ 2 ∧ decN (digs n.val) = n.val ∧ ((digs n.val).head? = some 48 → (digs n.val).length = 1) := by decide
theorem digs_one : ∀ n : Fin 8, digs n.val = [UInt8.ofNat (48 + n.val)] ∧ (UInt8.ofNat (48 + n.val)).toNat = 48 + n.val := by decide
theorem names_ok : ∀ k : Fin 15, (∀ x ∈ nameL k.val, 97 ≤ x.toNat ∧ x.toNat ≤ 122) ∧ opN ⟨(nameL k.val).toArray⟩ = k.val := by decide
theorem iB_at (n : Nat) (h : n < 50) : (iB n).data.toList = digs n := by
  unfold iB
  rw [itoa_small n h]
theorem iB_size' (n : Nat) : (iB n).size = (iB n).data.toList.length := rfl
theorem byte_mem {t : ByteArray} (j : Nat) (h : j < t.size) : t[j] ∈ t.data.toList := by
  rw [Array.mem_toList_iff]
  exact Array.getElem_mem h
theorem head_at {t : ByteArray} (h : 0 < t.size) : t.data.toList.head? = some t[0] := by
  have := head_list h
  rw [this]
  rfl
theorem dec_iB (n : Nat) (h : n < 50) : DecP (iB n) ∧ decN (iB n).data.toList = n := by
  obtain ⟨a, b, c, d, e⟩ := digs_all ⟨n, h⟩
  simp only at a b c d e
  have hs : (iB n).size = (digs n).length := by rw [iB_size', iB_at n h]
  refine ⟨⟨by omega, by omega, fun hp h48 => ?_, fun j hj => ?_⟩, by rw [iB_at n h, d]⟩
  · rw [hs]
    apply e
    rw [← iB_at n h, head_at hp]
    congr 1
    rw [← UInt8.toNat_inj]
    exact h48
  · have := a (iB n)[j] (by rw [← iB_at n h]; exact byte_mem j hj)
    exact this
theorem num_iB (n : Nat) (h : n < 50) : numR (iB n) = ((n : Int), true) := by
  obtain ⟨hd, hn⟩ := dec_iB n h
  have hm := minus_no (t := iB n) (fun hp e => by
    have := hd.2.2.2 0 hp
    unfold digitP at this
    omega)
  unfold numR
  rw [hm.1, hm.2, num_yes ⟨hd, fun e => by cases e⟩, hn]
  rfl
theorem name_iB (n : Nat) (h : n < 50) : nameB' (iB n) = false := by
  obtain ⟨hd, _⟩ := dec_iB n h
  refine name_no fun e => ?_
  have hp : 0 < (iB n).size := by have := e.1; omega
  have h1 := hd.2.2.2 0 hp
  rcases e.2.2 0 hp with h2 | ⟨h2, _⟩
  · unfold letterP digitP at *; omega
  · exact h2 rfl
def beginL : List UInt8 := [98, 101, 103, 105, 110]
def beginB : ByteArray := ⟨#[98, 101, 103, 105, 110, 58]⟩
/-- What the labels are: one. -/
def D1 : DataW Unit := (DataW.map []).put (.string beginL) (.lit (.int .i64 0))
theorem has_iB (n : Nat) (h : n < 50) : Maps.has D1 (str (iB n)) = false := by
  have hne : str (iB n) ≠ .string beginL := by
    intro e
    have e2 : (iB n).data.toList = beginL := by injection e
    obtain ⟨a, _⟩ := digs_all ⟨n, h⟩
    rw [iB_at n h] at e2
    have := a 98 (by simp only; rw [e2]; simp [beginL])
    exact absurd this (by decide)
  unfold D1
  rw [Maps.has_put_other hne]
  rfl
theorem imm_iB (n : Nat) (h : n < 50) : immR D1 (iB n) = ((n : Int), 0) := by
  rw [immR_not (has_iB n h), immN_ok (name_iB n h) (by rw [num_iB n h]) (by rw [num_iB n h]; simp; omega), num_iB n h]
/-- A register's word. -/
def rB (n : Nat) : ByteArray := ⟨(114 :: (iB n).data.toList).toArray⟩
theorem reg_rB (n : Nat) (h : n < 8) : regV (rB n) = ((n : Int), 0) := by
  obtain ⟨h1, h2⟩ := digs_one ⟨n, h⟩
  simp only at h1 h2
  have e : rB n = ⟨#[114, UInt8.ofNat (48 + n)]⟩ := by
    unfold rB
    rw [iB_at n (by omega), h1]
  rw [e]
  have hs : (⟨#[114, UInt8.ofNat (48 + n)]⟩ : ByteArray).size = 2 := rfl
  rw [reg_yes hs ⟨rfl, by show 48 ≤ (UInt8.ofNat (48 + n)).toNat; omega, by show (UInt8.ofNat (48 + n)).toNat ≤ 55; omega⟩]
  congr 1
  show ((UInt8.ofNat (48 + n)).toNat : Int) - 48 = n
  omega
end Go.Proofs.YtfpkbfhaipgibaaDoor.Made
