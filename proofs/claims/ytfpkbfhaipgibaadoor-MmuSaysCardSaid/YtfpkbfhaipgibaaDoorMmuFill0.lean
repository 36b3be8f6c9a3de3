/- append as one step of a region that draws, upon a row that the call owns; the last four of what is remembered. -/
import Derived.Test.YtfpkbfhaipgibaaDoorMmuDrop
import Derived.Deep.RegionLaw
namespace Go.Proofs.YtfpkbfhaipgibaaDoor.Mmu
open Go.RowKit Go.Proofs.YtfpkbfhaipgibaaDoor.Mem Go.Proofs.YtfpkbfhaipgibaaDoor.Bw Go.Proofs.YtfpkbfhaipgibaaDoor.Nums

theorem step_append_own {P : Program} {ops : Array Oper} {o : Oper} {a : Act} {w : World} {K : Act → World → Prop} {Q : Exit → Act → World → Prop} {E : Prop}
    (hg : o.guard = none) (s x : Operand) (t : TypeId) (hop : o.op = Op.call { callee := Callee.builtin Builtin.append, args := #[s, x], argTypes := #[t, t] })
    (B : Nat) (e : TypeId) (i : TypeInfo) (z : Value) (size bytes : Nat) (h1 : P.underlying t = some (.slice e)) (h2 : P.info? e = some i) (h3 : i.zero = some z) (h4 : i.size = size) (h5 : i.bytes = bytes) (h6 : z.cells.size = size) (h7 : 0 < size)
    (v : Value) (n : Nat) (xs : List Value) (hs : a.eval s = v) (hown : w.ownsRow B e size v n xs)
    (ad : Addr) (m c : Nat) (news : List Value) (hx : a.eval x = .slice (some ad) m c) (hn : news.length = m * size) (hc : ∀ j u, news[j]? = some u → w.cell? (ad.add j) = some u) (h1c : ∀ u ∈ news, u.oneCell' = true)
    (b1 : n + m ≤ maxLen) (b2 : (n + m) * bytes ≤ 140737488355328) (hB : B ≤ w.heap.size)
    (hK : ∀ v' w', w'.ownsRow B e size v' (n + m) (xs ++ news) → w.grownBy w' v.ownBlock → K (a.put o.dst v') w') :
    if Region.wanted o (yielded ops a.tmps) = true then Oper.wp P o a w K Q else E := by
  have hw : Region.wanted o (yielded ops a.tmps) = true := by simp [Region.wanted, hg]
  rw [if_pos hw]
  obtain ⟨v', w', hrun, r1, r2, _⟩ := run_append_own (P := P) w B t o.type e i z size bytes h1 h2 h3 h4 h5 h6 h7 v n xs hown ad m c news hn hc h1c b1 b2 hB
  unfold Oper.wp
  simp [execOp, hop, resolve, invoke, builtin, hs, hx, hrun, Result.andThen]
  exact hK v' w' r1 r2
/-- D3: what is remembered then. -/
def last4 (l : List Ent) : List Ent := l.drop (l.length - 4)
def fillR (l : List Ent) (e : Ent) : List Ent := last4 (dropR l e.1 e.2.1 ++ [e])
theorem last4_len (l : List Ent) : (last4 l).length ≤ 4 := by
  unfold last4
  rw [List.length_drop]
  omega
theorem drop_neg (l : List Ent) (s p : Int) (h : p < 0) : dropR l s (-1) = dropR l s p := by
  unfold dropR
  congr 1
  funext e
  have : ¬ (0 ≤ p) := by omega
  simp [stays, this]
/-- A list of entries in memory that the call has made. -/
def TlbNew (B : Nat) (w : World) (v : Value) (l : List Ent) : Prop := ∃ q b off cap, v = .slice q l.length cap ∧ (0 < l.length → q = some ⟨b, off, none⟩) ∧ EntsAt w b off l ∧ l.length ≤ 100 ∧ B ≤ b
theorem TlbNew.tlb {B : Nat} {w : World} {v : Value} {l : List Ent} (h : TlbNew B w v l) : TlbIn w v l := by
  obtain ⟨q, b, off, cap, h1, h2, h3, h4, _⟩ := h
  exact ⟨q, b, off, cap, h1, h2, h3, h4⟩
theorem TlbNew.set {B C i : Nat} {w : World} {v x : Value} {l : List Ent} (h : TlbNew B w v l) (hC : C < B) : TlbNew B (w.setCell ⟨C, i, none⟩ x) v l := by
  obtain ⟨q, b, off, cap, h1, h2, h3, h4, h5⟩ := h
  have k : ∀ o, (w.setCell ⟨C, i, none⟩ x).cell? ⟨b, o, none⟩ = w.cell? ⟨b, o, none⟩ := fun o => World.cell?_setCell_other w _ _ _ (by intro e; cases e; omega)
  refine ⟨q, b, off, cap, h1, h2, fun j hj => ?_, h4, h5⟩
  simp only [k]
  exact h3 j hj
theorem TlbNew.set4 {B C : Nat} {w : World} {v a b c d : Value} {l : List Ent} (h : TlbNew B w v l) (hC : C < B) : TlbIn ((((w.setCell ⟨C, 0, none⟩ a).setCell ⟨C, 1, none⟩ b).setCell ⟨C, 2, none⟩ c).setCell ⟨C, 3, none⟩ d) v l := ((((h.set hC).set hC).set hC).set hC).tlb
theorem own_new {w : World} {B : Nat} {v : Value} {l : List Ent} (h : w.ownsRow B 39 4 v l.length (cellsE l)) (hl : l.length ≤ 100) : TlbNew B w v l := by
  rcases h.2 with ⟨rfl, h1⟩ | ⟨g, cap, cur, rfl, h1, _⟩
  · rw [List.length_eq_zero_iff.1 h1]
    exact ⟨none, B, 0, 0, rfl, fun e => by simp at e, fun j hj => by simp at hj, by simp, Nat.le_refl _⟩
  · refine ⟨some ⟨g, 0, none⟩, g, 0, cap, rfl, fun _ => rfl, fun j hj => ?_, hl, h1⟩
    obtain ⟨e0, e1, e2, e3⟩ := cellsE_at l j hj
    simp only [Nat.zero_add]
    rw [h.cellAt (j * 4) (by omega), h.cellAt (j * 4 + 1) (by omega), h.cellAt (j * 4 + 2) (by omega), h.cellAt (j * 4 + 3) (by omega)]
    exact ⟨e0, e1, e2, e3⟩
theorem own_tail {w : World} {B : Nat} {v : Value} {m : List Ent} (h : w.ownsRow B 39 4 v m.length (cellsE m)) (h0 : 0 < m.length) :
    ∃ g cap, v = .slice (some ⟨g, 0, none⟩) m.length cap ∧ m.length ≤ cap ∧ B ≤ g ∧ ∀ k, k ≤ m.length → EntsAt w g (k * 4) (m.drop k) := by
  rcases h.2 with ⟨rfl, h1⟩ | ⟨g, cap, cur, rfl, h1, h2, h3, _⟩
  · omega
  · refine ⟨g, cap, rfl, h3, h1, fun k hk j hj => ?_⟩
    rw [List.length_drop] at hj
    have hj2 : k + j < m.length := by omega
    obtain ⟨e0, e1, e2, e3⟩ := cellsE_at m (k + j) hj2
    rw [show k * 4 + j * 4 = (k + j) * 4 by omega, List.getElem_drop]
    rw [h.cellAt ((k + j) * 4) (by omega), h.cellAt ((k + j) * 4 + 1) (by omega), h.cellAt ((k + j) * 4 + 2) (by omega), h.cellAt ((k + j) * 4 + 3) (by omega)]
    exact ⟨e0, e1, e2, e3⟩
theorem tlb_tail {w : World} {B g cap : Nat} {m : List Ent} (hB : B ≤ g) (h : EntsAt w g ((m.length - 4) * 4) (m.drop (m.length - 4))) : TlbNew B w (.slice (some ⟨g, (m.length - 4) * 4, none⟩) (m.length - (m.length - 4)) cap) (last4 m) := by
  refine ⟨some ⟨g, (m.length - 4) * 4, none⟩, g, (m.length - 4) * 4, cap, ?_, fun _ => rfl, h, Nat.le_trans (last4_len m) (by decide), hB⟩
  unfold last4
  rw [List.length_drop]
end Go.Proofs.YtfpkbfhaipgibaaDoor.Mmu
