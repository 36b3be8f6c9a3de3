/- copy of elements of many cells; slices.Repeat of one element, walked. -/
import Derived.Test.YtfpkbfhaipgibaaDoorWdMul
import Derived.Deep.RegionLaw
import Derived.Laws.MakeOwn
namespace Go.Proofs.YtfpkbfhaipgibaaDoor.Wd
open Go.RowKit Go.Proofs.YtfpkbfhaipgibaaDoor.Mem Go.Proofs.YtfpkbfhaipgibaaDoor.Bw Go.Proofs.YtfpkbfhaipgibaaDoor.Nums Go.Proofs.YtfpkbfhaipgibaaDoor.Mmu

theorem run_copy_wide {P : Program} (w : World) (dT sT ty elem : TypeId) (b o dLen dCap : Nat) (a : Addr) (sLen sCap sz : Nat) (cs : List Value)
    (hu : P.underlying dT = some (.slice elem)) (hs : (P.info? elem).map (·.size) = some sz) (hn : cs.length = Nat.min sLen dLen * sz)
    (hsrc : ∀ j v, cs[j]? = some v → w.cell? (a.add j) = some v) (ht : w.there b o cs.length) (h1 : ∀ v ∈ cs, v.oneCell' = true) :
    (Builtin.copy_ #[dT, sT] ty #[.slice (some ⟨b, o, none⟩) dLen dCap, .slice (some a) sLen sCap]).run P w = .ok (goInt (Nat.min sLen dLen)) (w.setCells b o cs) := by
  have hl := run_loadCells_list (P := P) w a cs hsrc
  have hst := run_storeCells_cells (P := P) b o cs 0 w (by simpa using fun j hj => (ht j hj).1) (by simpa using fun j hj => (ht j hj).2) h1
  cases hq : P.info? elem with
  | none => simp [hq] at hs
  | some i =>
    have hi : i.size = sz := by simpa [hq] using hs
    simp [Builtin.copy_, run_underlying hu, Builtin.lenOf, Builtin.firstCells, sizeOf, typeInfo, hq, hi, ← hn, hl, hst]
theorem step_copy_wide {P : Program} {ops : Array Oper} {o : Oper} {a : Act} {w : World} {K : Act → World → Prop} {Q : Exit → Act → World → Prop} {E : Prop}
    (hg : o.guard = none) (d s : Operand) (dT sT elem : TypeId) (hop : o.op = Op.call { callee := Callee.builtin Builtin.copy, args := #[d, s], argTypes := #[dT, sT] })
    (hu : P.underlying dT = some (.slice elem)) (sz : Nat) (hs : (P.info? elem).map (·.size) = some sz) (b off dLen dCap : Nat) (hd : a.eval d = .slice (some ⟨b, off, none⟩) dLen dCap) (ad : Addr) (sLen sCap : Nat) (hx : a.eval s = .slice (some ad) sLen sCap)
    (cs : List Value) (hn : cs.length = Nat.min sLen dLen * sz) (hsrc : ∀ j v, cs[j]? = some v → w.cell? (ad.add j) = some v) (ht : w.there b off cs.length) (h1 : ∀ v ∈ cs, v.oneCell' = true)
    (hK : K (a.put o.dst (goInt (Nat.min sLen dLen))) (w.setCells b off cs)) :
    if Region.wanted o (yielded ops a.tmps) = true then Oper.wp P o a w K Q else E := by
  have hw : Region.wanted o (yielded ops a.tmps) = true := by simp [Region.wanted, hg]
  rw [if_pos hw]
  have hrun := run_copy_wide (P := P) w dT sT o.type elem b off dLen dCap ad sLen sCap sz cs hu hs hn hsrc ht h1
  unfold Oper.wp
  simp [execOp, hop, resolve, invoke, builtin, hd, hx, hrun, Result.andThen]
  exact hK
/-- So many times the same cells. -/
def rep (t : Nat) (c : List Value) : List Value := (List.replicate t c).flatten
theorem rep_succ (t : Nat) (c : List Value) : rep (t + 1) c = c ++ rep t c := by simp [rep, List.replicate_succ]
theorem rep_len (t : Nat) (c : List Value) : (rep t c).length = t * c.length := by
  induction t with
  | zero => simp [rep]
  | succ t ih => rw [rep_succ, List.length_append, ih, Nat.succ_mul]; omega
theorem rep_at (t : Nat) (c : List Value) (i k : Nat) (hi : i < t) (hk : k < c.length) : (rep t c)[i * c.length + k]? = c[k]? := by
  induction t generalizing i with
  | zero => omega
  | succ t ih =>
    rw [rep_succ]
    cases i with
    | zero => rw [Nat.zero_mul, Nat.zero_add, List.getElem?_append_left hk]
    | succ i =>
      rw [List.getElem?_append_right (by rw [Nat.succ_mul]; omega), ← ih i (by omega)]
      congr 1
      rw [Nat.succ_mul]
      omega
theorem rep_one (t : Nat) (c : List Value) (h : ∀ v ∈ c, v.oneCell' = true) : ∀ v ∈ rep t c, v.oneCell' = true := by
  intro v hv
  unfold rep at hv
  obtain ⟨l, h1, h2⟩ := List.mem_flatten.1 hv
  rw [(List.mem_replicate.1 h1).2] at h2
  exact h v h2
/-- A row of N elements that can be written, of which the first m are the same one. -/
structure Rep (B N : Nat) (c : List Value) (m : Nat) (w : World) : Prop where
  there : w.there B 0 (N * c.length)
  got : ∀ j, j < m → w.rangeAt B (j * c.length) c
theorem Rep.src {B N m t : Nat} {c : List Value} {w : World} (h : Rep B N c m w) (hc : 0 < c.length) (ht : t ≤ m) : ∀ j v, (rep t c)[j]? = some v → w.cell? ⟨B, j, none⟩ = some v := by
  intro j v hv
  have hl := (List.getElem?_eq_some_iff.1 hv).1
  rw [rep_len] at hl
  have e : j = j / c.length * c.length + j % c.length := by rw [Nat.mul_comm]; exact (Nat.div_add_mod _ _).symm
  have h1 : j / c.length < t := Nat.div_lt_of_lt_mul (by rw [Nat.mul_comm]; exact hl)
  have h2 : j % c.length < c.length := Nat.mod_lt _ hc
  rw [e, rep_at t c _ _ h1 h2] at hv
  have := h.got (j / c.length) (by omega) (j % c.length) v hv
  rw [e]
  exact this
theorem Rep.more {B N m t : Nat} {c : List Value} {w : World} (h : Rep B N c m w) (ht : m + t ≤ N) : Rep B N c (m + t) (w.setCells B (m * c.length) (rep t c)) := by
  have hle : m * c.length + t * c.length ≤ N * c.length := by rw [← Nat.add_mul]; exact Nat.mul_le_mul_right _ ht
  have hthere : w.there B (m * c.length) (rep t c).length := fun j hj => by
    rw [rep_len] at hj
    have := h.there (m * c.length + j) (by omega)
    rwa [Nat.zero_add] at this
  refine ⟨World.there_setCells h.there _ _ _, fun j hj k v hk => ?_⟩
  have hkl := (List.getElem?_eq_some_iff.1 hk).1
  rcases Nat.lt_or_ge j m with h1 | h1
  · have h2 : j * c.length + c.length ≤ m * c.length := by rw [← Nat.succ_mul]; exact Nat.mul_le_mul_right _ h1
    rw [World.cell?_setCells_out B (rep t c) (m * c.length) w ⟨B, j * c.length + k, none⟩ (fun _ _ => Or.inl (by simp only; omega))]
    exact h.got j h1 k v hk
  · have hs := World.rangeAt_setCells_same w B (m * c.length) (rep t c) hthere
    have := hs ((j - m) * c.length + k) v (by rw [rep_at t c (j - m) k (by omega) hkl]; exact hk)
    have e : m * c.length + ((j - m) * c.length + k) = j * c.length + k := by
      rw [← Nat.add_assoc, ← Nat.add_mul]
      congr 2
      omega
    rwa [e] at this
end Go.Proofs.YtfpkbfhaipgibaaDoor.Wd
