/- A region that draws its order and only reads, of many operations: the Bool that its one walk wants, in parts. -/
import Derived.Test.YtacpjedncjpmpaaGreatDoorProg
import Derived.BigQuiet
namespace Go.Proofs.YtacpjedncjpmpaaGreatDoor.Wd
def regOf (id : Nat) : Code → Option (Array Oper)
 | .region i ops _ => if i == id then some ops else none
 | .seq a b => match regOf id a with | some x => some x | none => regOf id b
 | .cond _ a b => match regOf id a with | some x => some x | none => regOf id b
 | .block _ a => regOf id a
 | .loop a => regOf id a
 | .scope a => regOf id a
 | _ => none
/-- A function's region. -/
def regF (f : Func) (id : Nat) : Array Oper := match f.body with | some c => (regOf id c).getD #[] | none => #[]
def lstd (n k : Nat) : Array Bool := ((List.range n).map fun i => decide (i < k)).toArray
def lexAt (ops : Array Oper) (k : Nat) : Bool := (Region.ready .any ops (lstd ops.size k)).contains k && Region.free .any ops (lstd ops.size k) k
theorem lstd_0 (n : Nat) : lstd n 0 = Array.replicate n false := by
 unfold lstd
 apply Array.ext
 ·simp
 ·intro i h1 h2
  simp
theorem lstd_succ (n k : Nat) : lstd n (k + 1) = (lstd n k).setIfInBounds k true := by
 unfold lstd
 apply Array.ext
 ·simp
 ·intro i h1 h2
  rw [Array.getElem_setIfInBounds (by simpa using h2)]
  by_cases h : k = i
  ·rw [if_pos h]
   simp
   omega
  ·rw [if_neg h]
   simp
   omega
theorem lex_from {ops : Array Oper} (h : ∀ k, k < ops.size → lexAt ops k = true) : ∀ fuel k, k + fuel = ops.size → Region.lexFrom .any ops fuel k (lstd ops.size k) = true
 | 0, k, hk => by
  unfold Region.lexFrom
  rw [List.isEmpty_iff]
  unfold Region.ready
  rw [List.filter_eq_nil_iff]
  intro i hi
  have hi := List.mem_range.1 hi
  have e : (lstd ops.size k).getD i true = true := by
   unfold lstd
   simp [Array.getD]
   omega
  rw [e]
  simp
 | fuel + 1, k, hk => by
  unfold Region.lexFrom
  have h1 := h k (by omega)
  unfold lexAt at h1
  rw [h1, Bool.true_and, ← lstd_succ]
  exact lex_from h fuel (k + 1) (by omega)
theorem lexB_of {ops : Array Oper} (h0 : Region.noSelect ops = true) (h : ∀ k, k < ops.size → lexAt ops k = true) : Region.lexB .any ops = true := by
 unfold Region.lexB
 rw [h0, Bool.true_and, ← lstd_0]
 exact lex_from h ops.size 0 (by omega)
theorem lex_eq {a b : Array Oper} (h : a = b) (hb : Region.lexB .any b = true) : Region.lexB .any a = true := h ▸ hb
theorem all_at {f : Nat → Bool} {a n : Nat} (h : (List.range' a n).all f = true) (k : Nat) (h1 : a ≤ k) (h2 : k < a + n) : f k = true :=
 List.all_eq_true.1 h k (List.mem_range'_1.2 ⟨h1, h2⟩)
end Go.Proofs.YtacpjedncjpmpaaGreatDoor.Wd
