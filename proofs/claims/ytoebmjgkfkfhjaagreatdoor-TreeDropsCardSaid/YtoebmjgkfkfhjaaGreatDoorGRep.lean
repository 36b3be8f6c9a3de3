/- math/bits.Mul of one and a small number, walked. · copy of elements of many cells; slices.Repeat of one element, walked. · slices.Repeat of one slot, of one task, of one number. -/
import Derived.Test.YtoebmjgkfkfhjaaGreatDoorWd0
import Derived.Deep.RegionLaw
import Derived.Laws.MakeOwn
namespace Go.Proofs.YtoebmjgkfkfhjaaGreatDoor.Wd
open Go.RowKit Go.Proofs.YtoebmjgkfkfhjaaGreatDoor.Mem Go.Proofs.YtoebmjgkfkfhjaaGreatDoor.Bw Go.Proofs.YtoebmjgkfkfhjaaGreatDoor.Nums Go.Proofs.YtoebmjgkfkfhjaaGreatDoor.Mmu
theorem wraps_u64 (n : Int) (h₀ : 0 ≤ n) (h₁ : n < 2 ^ 62) : IntKind.u64.wrap n = n := by
 have : (2 : Int) ^ 62 = 4611686018427387904 := by decide
 rw [IntKind.wrap_u64]
 omega
theorem and_u32 (n : Nat) (h : n ≤ 1000) : bits .and .u64 (n : Int) 4294967295 = n := by
 have := (bits_nat .u64 62 (by decide) wraps_u64 n 4294967295 (by omega) (by decide)).1
 rw [show ((4294967295 : Nat) : Int) = 4294967295 from rfl] at this
 rw [this, show (4294967295 : Nat) = 2 ^ 32 - 1 from rfl, Nat.and_two_pow_sub_one_eq_mod, Nat.mod_eq_of_lt (by omega)]
/-- So many times the same cells. -/
def rep (t : Nat) (c : List Value) : List Value := (List.replicate t c).flatten
theorem rep_succ (t : Nat) (c : List Value) : rep (t + 1) c = c ++ rep t c := by simp [rep, List.replicate_succ]
theorem rep_len (t : Nat) (c : List Value) : (rep t c).length = t * c.length := by
 induction t with
 | zero => simp [rep]
 | succ t ih => rw [rep_succ, List.length_append, ih, Nat.succ_mul]; omega
theorem rep_at (t : Nat) (c : List Value) (i k : Nat) (hi : i < t) (hk : k < c.length) : (rep t c)[i * c.length + k]? = c[k]? := by
 induction t generalizing i with
 | zero => omega
 | succ t ih =>
  rw [rep_succ]
  cases i with
  | zero => rw [Nat.zero_mul, Nat.zero_add, List.getElem?_append_left hk]
  | succ i =>
   rw [List.getElem?_append_right (by rw [Nat.succ_mul]; omega), ← ih i (by omega)]
   congr 1
   rw [Nat.succ_mul]
   omega
/-- A row of N elements that can be written, of which the first m are the same one. -/
structure Rep (B N : Nat) (c : List Value) (m : Nat) (w : World) : Prop where
 there : w.there B 0 (N * c.length)
 got : ∀ j, j < m → w.rangeAt B (j * c.length) c
theorem Rep.src {B N m t : Nat} {c : List Value} {w : World} (h : Rep B N c m w) (hc : 0 < c.length) (ht : t ≤ m) : ∀ j v, (rep t c)[j]? = some v → w.cell? ⟨B, j, none⟩ = some v := by
 intro j v hv
 have hl := (List.getElem?_eq_some_iff.1 hv).1
 rw [rep_len] at hl
 have e : j = j / c.length * c.length + j % c.length := by rw [Nat.mul_comm]; exact (Nat.div_add_mod _ _).symm
 have h1 : j / c.length < t := Nat.div_lt_of_lt_mul (by rw [Nat.mul_comm]; exact hl)
 have h2 : j % c.length < c.length := Nat.mod_lt _ hc
 rw [e, rep_at t c _ _ h1 h2] at hv
 have := h.got (j / c.length) (by omega) (j % c.length) v hv
 rw [e]
 exact this
theorem Rep.more {B N m t : Nat} {c : List Value} {w : World} (h : Rep B N c m w) (ht : m + t ≤ N) : Rep B N c (m + t) (w.setCells B (m * c.length) (rep t c)) := by
 have hle : m * c.length + t * c.length ≤ N * c.length := by rw [← Nat.add_mul]; exact Nat.mul_le_mul_right _ ht
 have hthere : w.there B (m * c.length) (rep t c).length := fun j hj => by
  rw [rep_len] at hj
  have := h.there (m * c.length + j) (by omega)
  rwa [Nat.zero_add] at this
 refine ⟨World.there_setCells h.there _ _ _, fun j hj k v hk => ?_⟩
 have hkl := (List.getElem?_eq_some_iff.1 hk).1
 rcases Nat.lt_or_ge j m with h1 | h1
 ·have h2 : j * c.length + c.length ≤ m * c.length := by rw [← Nat.succ_mul]; exact Nat.mul_le_mul_right _ h1
  rw [World.cell?_setCells_out B (rep t c) (m * c.length) w ⟨B, j * c.length + k, none⟩ (fun _ _ => Or.inl (by simp only; omega))]
  exact h.got j h1 k v hk
 ·have hs := World.rangeAt_setCells_same w B (m * c.length) (rep t c) hthere
  have := hs ((j - m) * c.length + k) v (by rw [rep_at t c (j - m) k (by omega) hkl]; exact hk)
  have e : m * c.length + ((j - m) * c.length + k) = j * c.length + k := by
   rw [← Nat.add_assoc, ← Nat.add_mul]
   congr 2
   omega
  rwa [e] at this
theorem below_setCells {w w' : World} (h : Below w.heap.size w w') {b : Nat} (hb : w.heap.size ≤ b) : ∀ (vs : List Value) (o : Nat), Below w.heap.size w (w'.setCells b o vs)
 | [], _ => h
 | v :: r, o => by
  rw [World.setCells]
  exact below_setCells (bset h hb v) hb r (o + 1)
theorem make_row {T E : TypeId} {z : Value} {sz bytes : Nat} (hT : Tryz.prog.underlying T = some (.slice E)) (hinfo : (Tryz.prog.info? E).map (fun i => (i.zero, i.size, i.bytes)) = some (some z, sz, bytes)) (hsz : sz ≤ 100) (hby : bytes ≤ 1000) (n : Nat) (hn : n ≤ 1000) (w : World) :
  (Instr.makeSlice T (.int .i64 n) (.int .i64 n)).run Tryz.prog w = .ok (.slice (some ⟨w.heap.size, 0, none⟩) n n) (w.alloc (.cells (madeCells z.cells (n * sz)) E)) := by
 obtain ⟨i0, hi, hz0, hz1, hz2⟩ := info_get hinfo
 have h1 : n * i0.size ≤ 1000 * 100 := by rw [hz1]; exact Nat.mul_le_mul hn hsz
 have h2 : i0.bytes * n ≤ 1000 * 1000 := by rw [hz2]; exact Nat.mul_le_mul hby hn
 have hr := run_makeSlice (P := Tryz.prog) w T E i0 z hT hi hz0 .i64 .i64 n n (by omega) (Int.le_refl _) (by simp only [Int.toNat_natCast]; omega) (by
  have : ((i0.bytes * n : Nat) : Int) ≤ 281474976710656 := by omega
  rwa [Int.natCast_mul] at this) (by omega)
 simp only [Int.toNat_natCast] at hr
 rw [hz1] at hr
 exact hr
end Go.Proofs.YtoebmjgkfkfhjaaGreatDoor.Wd
