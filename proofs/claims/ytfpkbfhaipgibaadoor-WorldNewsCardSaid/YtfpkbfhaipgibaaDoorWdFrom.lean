/- Worlds in memory that lie in blocks from a number on: what is written below it leaves them as they are. -/
import Derived.Test.YtfpkbfhaipgibaaDoorWdNew1
namespace Go.Proofs.YtfpkbfhaipgibaaDoor.Wd
open Go.RowKit Go.Proofs.YtfpkbfhaipgibaaDoor.Mem Go.Proofs.YtfpkbfhaipgibaaDoor.Bw Go.Proofs.YtfpkbfhaipgibaaDoor.Nums Go.Proofs.YtfpkbfhaipgibaaDoor.Mmu

/-- What lies in such blocks is still there, and they are such blocks. -/
def Keeps (G : World → Nat → Prop) (w w' : World) : Prop := ∀ (p : Addr) v, G w p.block → w.cell? p = some v → w'.cell? p = some v ∧ G w' p.block
/-- Blocks from L on. -/
def GL (L : Nat) : World → Nat → Prop := fun _ b => L ≤ b
theorem keeps_below {L : Nat} {w w' : World} (hb : Below w.heap.size w w') : Keeps (GL L) w w' := fun _ _ hp h => ⟨(hb.cell (World.block_lt_of_cell? _ _ h)).trans h, hp⟩
theorem keeps_set {L C o : Nat} {vs : List Value} {w : World} (hC : C < L) : Keeps (GL L) w (w.setCells C o vs) := fun p v hp h => by
  have hp2 : L ≤ p.block := hp
  rw [World.cell?_setCells_out C vs o w p (fun e _ => by omega)]
  exact ⟨h, hp⟩
section
variable {G : World → Nat → Prop}
def IntsFrom (G : World → Nat → Prop) (w : World) (v : Value) (zs : List Int) : Prop := ∃ q b off cap, v = .slice q zs.length cap ∧ (0 < zs.length → q = some ⟨b, off, none⟩ ∧ G w b) ∧ IntsAt w b off zs
theorem IntsFrom.in_ {w : World} {v : Value} {zs : List Int} (h : IntsFrom G w v zs) : IntsIn w v zs := by
  obtain ⟨q, b, off, cap, h1, h2, h3⟩ := h
  exact ⟨q, b, off, cap, h1, fun h => (h2 h).1, h3⟩
theorem IntsFrom.keep {w w' : World} {v : Value} {zs : List Int} (h : IntsFrom G w v zs) (k : Keeps G w w') : IntsFrom G w' v zs := by
  obtain ⟨q, b, off, cap, h1, h2, h3⟩ := h
  exact ⟨q, b, off, cap, h1, fun h => ⟨(h2 h).1, (k _ _ (h2 h).2 (h3 0 h)).2⟩, fun j hj => (k _ _ (h2 (by omega)).2 (h3 j hj)).1⟩
theorem IntsFrom.slice {w : World} {v : Value} {zs : List Int} (h : IntsFrom G w v zs) : ∃ q cap, v = .slice q zs.length cap := by
  obtain ⟨q, b, off, cap, h1, _⟩ := h
  exact ⟨q, cap, h1⟩
theorem ints_from_nil (G : World → Nat → Prop) (w : World) : IntsFrom G w (.slice none 0 0) [] := ⟨none, 0, 0, 0, rfl, fun e => by simp at e, fun j hj => by simp at hj⟩
def ListsFrom (G : World → Nat → Prop) (w : World) (v : Value) (ls : List (List Int)) : Prop := ∃ q b off cap, v = .slice q ls.length cap ∧ (0 < ls.length → q = some ⟨b, off, none⟩ ∧ G w b) ∧ (∀ j (h : j < ls.length), ∃ x, w.cell? ⟨b, off + j, none⟩ = some x ∧ IntsFrom G w x ls[j])
theorem ListsFrom.in_ {w : World} {v : Value} {ls : List (List Int)} (h : ListsFrom G w v ls) : ListsIn w v ls := by
  obtain ⟨q, b, off, cap, h1, h2, h3⟩ := h
  refine ⟨q, b, off, cap, h1, fun h => (h2 h).1, fun j hj => ?_⟩
  obtain ⟨x, hx, hi⟩ := h3 j hj
  exact ⟨x, hx, hi.in_⟩
theorem ListsFrom.keep {w w' : World} {v : Value} {ls : List (List Int)} (h : ListsFrom G w v ls) (k : Keeps G w w') : ListsFrom G w' v ls := by
  obtain ⟨q, b, off, cap, h1, h2, h3⟩ := h
  refine ⟨q, b, off, cap, h1, fun h => ⟨(h2 h).1, ?_⟩, fun j hj => ?_⟩
  · obtain ⟨x, hx, _⟩ := h3 0 h
    exact (k _ _ (h2 h).2 hx).2
  · obtain ⟨x, hx, hi⟩ := h3 j hj
    exact ⟨x, (k _ _ (h2 (by omega)).2 hx).1, hi.keep k⟩
theorem ListsFrom.slice {w : World} {v : Value} {ls : List (List Int)} (h : ListsFrom G w v ls) : ∃ q cap, v = .slice q ls.length cap := by
  obtain ⟨q, b, off, cap, h1, _⟩ := h
  exact ⟨q, cap, h1⟩
def TlbFrom (G : World → Nat → Prop) (w : World) (v : Value) (l : List Ent) : Prop := ∃ q b off cap, v = .slice q l.length cap ∧ (0 < l.length → q = some ⟨b, off, none⟩ ∧ G w b) ∧ EntsAt w b off l ∧ l.length ≤ 100
theorem TlbFrom.in_ {w : World} {v : Value} {l : List Ent} (h : TlbFrom G w v l) : TlbIn w v l := by
  obtain ⟨q, b, off, cap, h1, h2, h3, h4⟩ := h
  exact ⟨q, b, off, cap, h1, fun h => (h2 h).1, h3, h4⟩
theorem TlbFrom.keep {w w' : World} {v : Value} {l : List Ent} (h : TlbFrom G w v l) (k : Keeps G w w') : TlbFrom G w' v l := by
  obtain ⟨q, b, off, cap, h1, h2, h3, h4⟩ := h
  exact ⟨q, b, off, cap, h1, fun h => ⟨(h2 h).1, (k _ _ (h2 h).2 (h3 0 h).1).2⟩, fun j hj => ⟨(k _ _ (h2 (by omega)).2 (h3 j hj).1).1, (k _ _ (h2 (by omega)).2 (h3 j hj).2.1).1, (k _ _ (h2 (by omega)).2 (h3 j hj).2.2.1).1, (k _ _ (h2 (by omega)).2 (h3 j hj).2.2.2).1⟩, h4⟩
theorem tlb_from_nil (G : World → Nat → Prop) (w : World) : TlbFrom G w (.slice none 0 0) [] := ⟨none, 0, 0, 0, rfl, fun e => by simp at e, fun j hj => by simp at hj, by simp⟩
def TlbsFrom (G : World → Nat → Prop) (w : World) (v : Value) (ls : List (List Ent)) : Prop := ∃ q b off cap, v = .slice q ls.length cap ∧ (0 < ls.length → q = some ⟨b, off, none⟩ ∧ G w b) ∧ (∀ j (h : j < ls.length), ∃ x, w.cell? ⟨b, off + j, none⟩ = some x ∧ TlbFrom G w x ls[j] ∧ RoomV x)
theorem TlbsFrom.in_ {w : World} {v : Value} {ls : List (List Ent)} (h : TlbsFrom G w v ls) : TlbsIn w v ls := by
  obtain ⟨q, b, off, cap, h1, h2, h3⟩ := h
  refine ⟨q, b, off, cap, h1, fun h => (h2 h).1, fun j hj => ?_⟩
  obtain ⟨x, hx, hi⟩ := h3 j hj
  exact ⟨x, hx, hi.1.in_, hi.2⟩
theorem TlbsFrom.keep {w w' : World} {v : Value} {ls : List (List Ent)} (h : TlbsFrom G w v ls) (k : Keeps G w w') : TlbsFrom G w' v ls := by
  obtain ⟨q, b, off, cap, h1, h2, h3⟩ := h
  refine ⟨q, b, off, cap, h1, fun h => ⟨(h2 h).1, ?_⟩, fun j hj => ?_⟩
  · obtain ⟨x, hx, _⟩ := h3 0 h
    exact (k _ _ (h2 h).2 hx).2
  · obtain ⟨x, hx, hi⟩ := h3 j hj
    exact ⟨x, (k _ _ (h2 (by omega)).2 hx).1, hi.1.keep k, hi.2⟩
theorem TlbsFrom.slice {w : World} {v : Value} {ls : List (List Ent)} (h : TlbsFrom G w v ls) : ∃ q cap, v = .slice q ls.length cap := by
  obtain ⟨q, b, off, cap, h1, _⟩ := h
  exact ⟨q, cap, h1⟩
def RowsFrom (G : World → Nat → Prop) (n : Nat) (w : World) (v : Value) (fs : List (Nat → Int)) : Prop := ∃ q b off cap, v = .slice q fs.length cap ∧ (0 < fs.length → q = some ⟨b, off, none⟩ ∧ G w b) ∧ (∀ j (h : j < fs.length), w.rangeAt b (off + j * n) (cf n fs[j])) ∧ 0 < n
theorem RowsFrom.in_ {n : Nat} {w : World} {v : Value} {fs : List (Nat → Int)} (h : RowsFrom G n w v fs) : RowsIn n w v fs := by
  obtain ⟨q, b, off, cap, h1, h2, h3, _⟩ := h
  exact ⟨q, b, off, cap, h1, fun h => (h2 h).1, h3⟩
theorem RowsFrom.keep {n : Nat} {w w' : World} {v : Value} {fs : List (Nat → Int)} (h : RowsFrom G n w v fs) (k : Keeps G w w') : RowsFrom G n w' v fs := by
  obtain ⟨q, b, off, cap, h1, h2, h3, h4⟩ := h
  exact ⟨q, b, off, cap, h1, fun h => ⟨(h2 h).1, (k _ _ (h2 h).2 (h3 0 h 0 _ (cf_at n _ 0 h4))).2⟩, fun j hj i u hu => (k _ _ (h2 (by omega)).2 (h3 j hj i u hu)).1, h4⟩
theorem RowsFrom.slice {n : Nat} {w : World} {v : Value} {fs : List (Nat → Int)} (h : RowsFrom G n w v fs) : ∃ q cap, v = .slice q fs.length cap := by
  obtain ⟨q, b, off, cap, h1, _⟩ := h
  exact ⟨q, cap, h1⟩
/-- A world's eleven values, in such blocks. -/
structure WorldF (G : World → Nat → Prop) (w : World) (v : Nat → Value) (p : PW) : Prop where
  ram : IntsFrom G w (v 0) p.ram
  kinds : IntsFrom G w (v 1) p.kinds
  slots : RowsFrom G 7 w (v 2) p.slots
  tasks : RowsFrom G 20 w (v 3) p.tasks
  lines : ListsFrom G w (v 4) p.lines
  bits : IntsFrom G w (v 5) p.bits
  cores : IntsFrom G w (v 6) p.cores
  ready : ListsFrom G w (v 7) p.ready
  tlbs : TlbsFrom G w (v 8) p.tlbs
  doms : IntsFrom G w (v 9) p.doms
  time : v 10 = .int .i64 p.time
theorem WorldF.in_ {w : World} {v : Nat → Value} {p : PW} (h : WorldF G w v p) : WorldV w v p :=
  ⟨h.ram.in_, h.kinds.in_, h.slots.in_, h.tasks.in_, h.lines.in_, h.bits.in_, h.cores.in_, h.ready.in_, h.tlbs.in_, h.doms.in_, h.time⟩
theorem WorldF.keep {w w' : World} {v : Nat → Value} {p : PW} (h : WorldF G w v p) (k : Keeps G w w') : WorldF G w' v p :=
  ⟨h.ram.keep k, h.kinds.keep k, h.slots.keep k, h.tasks.keep k, h.lines.keep k, h.bits.keep k, h.cores.keep k, h.ready.keep k, h.tlbs.keep k, h.doms.keep k, h.time⟩
theorem make_ints (G : World → Nat → Prop) (n : Nat) (hn : n ≤ 1000) (w : World) (hG : ∀ arr, G (w.alloc (.cells arr 3)) w.heap.size) : ∃ W, (Instr.makeSlice 36 (.int .i64 n) (.int .i64 n)).run Tryd.prog w = .ok (.slice (some ⟨w.heap.size, 0, none⟩) n n) W ∧ IntsFrom G W (.slice (some ⟨w.heap.size, 0, none⟩) n n) (List.replicate n 0) ∧ Below w.heap.size w W := by
  refine ⟨_, make_row Tryd.underlying36 infoI (by decide) (by decide) n hn w, ?_, bal (Below.refl _ _) _⟩
  refine ⟨some ⟨w.heap.size, 0, none⟩, w.heap.size, 0, n, by rw [List.length_replicate], fun _ => ⟨rfl, hG _⟩, fun j hj => ?_⟩
  rw [List.length_replicate] at hj
  rw [Nat.zero_add, World.cell?_alloc_at _ _ _ _ rfl, made_one _ _ _ rfl hj, List.getElem_replicate]
theorem make_lists (G : World → Nat → Prop) (n : Nat) (hn : n ≤ 1000) (w : World) (hG : ∀ arr, G (w.alloc (.cells arr 36)) w.heap.size) : ∃ W, (Instr.makeSlice 65 (.int .i64 n) (.int .i64 n)).run Tryd.prog w = .ok (.slice (some ⟨w.heap.size, 0, none⟩) n n) W ∧ ListsFrom G W (.slice (some ⟨w.heap.size, 0, none⟩) n n) (List.replicate n []) ∧ Below w.heap.size w W := by
  refine ⟨_, make_row Tryd.underlying65 infoL (by decide) (by decide) n hn w, ?_, bal (Below.refl _ _) _⟩
  refine ⟨some ⟨w.heap.size, 0, none⟩, w.heap.size, 0, n, by rw [List.length_replicate], fun _ => ⟨rfl, hG _⟩, fun j hj => ⟨.slice none 0 0, ?_, ?_⟩⟩
  · rw [List.length_replicate] at hj
    rw [Nat.zero_add, World.cell?_alloc_at _ _ _ _ rfl, made_one _ _ _ rfl hj]
  · rw [List.getElem_replicate]
    exact ints_from_nil _ _
theorem make_tlbs (G : World → Nat → Prop) (n : Nat) (hn : n ≤ 1000) (w : World) (hG : ∀ arr, G (w.alloc (.cells arr 37)) w.heap.size) : ∃ W, (Instr.makeSlice 66 (.int .i64 n) (.int .i64 n)).run Tryd.prog w = .ok (.slice (some ⟨w.heap.size, 0, none⟩) n n) W ∧ TlbsFrom G W (.slice (some ⟨w.heap.size, 0, none⟩) n n) (List.replicate n []) ∧ Below w.heap.size w W := by
  refine ⟨_, make_row Tryd.underlying66 infoB (by decide) (by decide) n hn w, ?_, bal (Below.refl _ _) _⟩
  refine ⟨some ⟨w.heap.size, 0, none⟩, w.heap.size, 0, n, by rw [List.length_replicate], fun _ => ⟨rfl, hG _⟩, fun j hj => ⟨.slice none 0 0, ?_, ?_⟩⟩
  · rw [List.length_replicate] at hj
    rw [Nat.zero_add, World.cell?_alloc_at _ _ _ _ rfl, made_one _ _ _ rfl hj]
  · rw [List.getElem_replicate]
    exact ⟨tlb_from_nil _ _, Nat.le_refl 0⟩
theorem rows_repF {n : Nat} {w : World} {B N : Nat} {f : Nat → Int} (hn : 0 < n) (hB : G w B) (h : ∀ j, j < N → w.rangeAt B (j * n) (cf n f)) : RowsFrom G n w (.slice (some ⟨B, 0, none⟩) N N) (List.replicate N f) := by
  refine ⟨some ⟨B, 0, none⟩, B, 0, N, by rw [List.length_replicate], fun _ => ⟨rfl, hB⟩, fun j hj => ?_, hn⟩
  rw [List.length_replicate] at hj
  rw [Nat.zero_add, List.getElem_replicate]
  exact h j hj
theorem ints_repF {w : World} {B N : Nat} {z : Int} (hB : G w B) (h : ∀ j, j < N → w.rangeAt B (j * 1) [.int .i64 z]) : IntsFrom G w (.slice (some ⟨B, 0, none⟩) N N) (List.replicate N z) := by
  refine ⟨some ⟨B, 0, none⟩, B, 0, N, by rw [List.length_replicate], fun _ => ⟨rfl, hB⟩, fun j hj => ?_⟩
  rw [List.length_replicate] at hj
  have := h j hj 0 _ rfl
  rw [Nat.mul_one, Nat.add_zero] at this
  rw [Nat.zero_add, List.getElem_replicate]
  exact this
theorem own_intsF {w : World} {B : Nat} {v : Value} {zs : List Int} (h : w.ownsRow B 3 1 v zs.length (ints zs)) (hG : ∀ g cur, B ≤ g → w.heap[g]? = some (.cells cur 3 (0, 0)) → G w g) : IntsFrom G w v zs := by
  rcases h.2 with ⟨rfl, h1⟩ | ⟨g, cap, cur, rfl, h1, h2, _⟩
  · rw [List.length_eq_zero_iff.1 h1]
    exact ints_from_nil G w
  · refine ⟨some ⟨g, 0, none⟩, g, 0, cap, rfl, fun _ => ⟨rfl, hG g cur h1 h2⟩, fun j hj => ?_⟩
    rw [Nat.zero_add, h.cellAt j (by omega)]
    unfold ints
    rw [List.getElem?_map, List.getElem?_eq_getElem hj]
    rfl
end
end Go.Proofs.YtfpkbfhaipgibaaDoor.Wd
