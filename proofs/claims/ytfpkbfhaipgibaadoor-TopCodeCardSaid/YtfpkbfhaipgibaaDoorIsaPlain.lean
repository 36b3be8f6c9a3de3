/- Plain facts on instructions: which may be, and their two words. -/
namespace Go.Proofs.YtfpkbfhaipgibaaDoor
namespace IP

def hA (o : Int) : Bool := !decide (o = 0 ∨ o = 12 ∨ o = 14)
def hB (o : Int) : Bool := !decide (o = 0 ∨ o = 1 ∨ o = 13 ∨ o = 12 ∨ o = 14)
def hC (o : Int) : Bool := decide (o = 1 ∨ o = 13 ∨ o = 10 ∨ o = 11 ∨ o = 12 ∨ o = 14)
def fitB (v : Int) (has : Bool) (lo hi : Int) : Bool := if has = true then decide (lo ≤ v ∧ v ≤ hi) else decide (v = 0)
def may (o a b i : Int) : Int :=
  if o < 0 ∨ 14 < o then 1
  else if fitB a (hA o) 0 7 = true ∧ fitB b (hB o) 0 7 = true ∧ fitB i (hC o) (-32768) 32767 = true then 0 else 2
theorem may_range {o a b i : Int} (h : o < 0 ∨ 14 < o) : may o a b i = 1 := by unfold may; rw [if_pos h]
theorem may_ok {o a b i : Int} (h0 : 0 ≤ o) (h1 : o ≤ 14) (ha : fitB a (hA o) 0 7 = true) (hb : fitB b (hB o) 0 7 = true) (hi : fitB i (hC o) (-32768) 32767 = true) : may o a b i = 0 := by
  unfold may; rw [if_neg (by omega), if_pos ⟨ha, hb, hi⟩]
theorem may_a {o a b i : Int} (h0 : 0 ≤ o) (h1 : o ≤ 14) (ha : fitB a (hA o) 0 7 = false) : may o a b i = 2 := by
  unfold may; rw [if_neg (by omega), if_neg (by simp [ha])]
theorem may_b {o a b i : Int} (h0 : 0 ≤ o) (h1 : o ≤ 14) (ha : fitB b (hB o) 0 7 = false) : may o a b i = 2 := by
  unfold may; rw [if_neg (by omega), if_neg (by simp [ha])]
theorem may_i {o a b i : Int} (h0 : 0 ≤ o) (h1 : o ≤ 14) (ha : fitB i (hC o) (-32768) 32767 = false) : may o a b i = 2 := by
  unfold may; rw [if_neg (by omega), if_neg (by simp [ha])]
theorem fitB_iff (v : Int) (has : Bool) (lo hi : Int) : fitB v has lo hi = true ↔ (has = true → lo ≤ v ∧ v ≤ hi) ∧ (has = false → v = 0) := by
  unfold fitB
  cases has <;> simp
theorem may_zero {o a b i : Int} (h : may o a b i = 0) : 0 ≤ o ∧ o ≤ 14 ∧ 0 ≤ a ∧ a ≤ 7 ∧ 0 ≤ b ∧ b ≤ 7 ∧ -32768 ≤ i ∧ i ≤ 32767 := by
  unfold may at h
  split at h
  · omega
  split at h
  · rename_i h1 h2
    obtain ⟨x, y, z⟩ := h2
    rw [fitB_iff] at x y z
    have A : 0 ≤ a ∧ a ≤ 7 := by cases hh : hA o with
      | true => exact x.1 hh
      | false => have := x.2 hh; omega
    have B : 0 ≤ b ∧ b ≤ 7 := by cases hh : hB o with
      | true => exact y.1 hh
      | false => have := y.2 hh; omega
    have C : -32768 ≤ i ∧ i ≤ 32767 := by cases hh : hC o with
      | true => exact z.1 hh
      | false => have := z.2 hh; omega
    omega
  · omega
/-- The reference's own test. -/
theorem may_plain (o a b i : Int) : may o a b i =
    if o < 0 ∨ 14 < o then 1
    else if (a < 0 ∨ 7 < a) ∨ (b < 0 ∨ 7 < b) ∨ i < -32768 ∨ 32767 < i ∨ (hA o = false ∧ a ≠ 0) ∨ (hB o = false ∧ b ≠ 0) ∨ (hC o = false ∧ i ≠ 0) then 2 else 0 := by
  unfold may
  by_cases h : o < 0 ∨ 14 < o
  · rw [if_pos h, if_pos h]
  rw [if_neg h, if_neg h]
  simp only [fitB_iff]
  cases hA o <;> cases hB o <;> cases hC o <;> simp <;> (split <;> split <;> omega)
def c0 (o a b : Int) : Int := o * 256 + a * 16 + b
def c1 (i : Int) : Int := if i < 0 then i + 65536 else i
def dI (y : Int) : Int := if 32767 < y then y - 65536 else y
def word (x y : Int) : Prop := 0 ≤ x ∧ x ≤ 65535 ∧ 0 ≤ y ∧ y ≤ 65535
/-- Numbers that are words: an instruction that may be has just them as its code. -/
theorem dec_yes {x y : Int} (h : word x y) : c0 (x / 256) (x / 16 % 16) (x % 16) = x ∧ c1 (dI y) = y := by
  unfold word at h
  unfold c0 c1 dI
  constructor
  · omega
  · split <;> split <;> omega
theorem dec_no {x y : Int} (h : ¬ word x y) (m : may (x.tdiv 256) ((x.tdiv 16).tmod 16) (x.tmod 16) (dI y) = 0) :
    ¬ (c0 (x.tdiv 256) ((x.tdiv 16).tmod 16) (x.tmod 16) = x ∧ c1 (dI y) = y) := by
  have r := may_zero m
  unfold word at h
  unfold c0 c1
  unfold dI at r ⊢
  intro e
  obtain ⟨e1, e2⟩ := e
  split at r <;> split at e2 <;> omega
end IP
end Go.Proofs.YtfpkbfhaipgibaaDoor
