/- Parts: a matrix and a queue of one's own in memory; going from frame to frame, plain. · Parts: a matrix of one's own in memory; going from frame to frame, plain; keyholdref.PartsOf's closure, walked. · Parts: keyholdref.PartsOf's matrix and closure; walked. · Parts: keyholdref.PartsOf; walked. -/
import Derived.Test.YtacpjedncjpmpaaGreatDoorPsJoin
import Derived.ArgAppend
import Derived.BigQuiet
import Derived.BigGuard
namespace Go.Proofs.YtacpjedncjpmpaaGreatDoor.Wd
open Go.RowKit Go.Proofs.YtacpjedncjpmpaaGreatDoor.Mem Go.Proofs.YtacpjedncjpmpaaGreatDoor.Bw Go.Proofs.YtacpjedncjpmpaaGreatDoor.Nums Go.Proofs.YtacpjedncjpmpaaGreatDoor.Mmu
/-- A queue of numbers, in a block from B on. -/
def Qu (W : World) (B : Nat) (v : Value) (xs : List Int) : Prop := ∃ b off cap, v = .slice (some ⟨b, off, none⟩) xs.length cap ∧ B ≤ b ∧ b < W.heap.size ∧ xs.length ≤ cap ∧ IntsAt W b off xs ∧ ∀ j, j < cap → (W.cell? ⟨b, off + j, none⟩).isSome = true ∧ W.frozen? ⟨b, off + j, none⟩ = false
theorem Qu.kq {W W' : World} {T : Nat → Prop} {B : Nat} {v : Value} {xs : List Int} (h : Qu W B v xs) (hk : Kq T W W') (hn : ∀ k, B ≤ k → ¬ T k) : Qu W' B v xs := by
 obtain ⟨b, off, cap, h1, h2, h3, h4, h5, h6⟩ := h
 refine ⟨b, off, cap, h1, h2, Nat.lt_of_lt_of_le h3 hk.size, h4, fun j hj => (hk.cell (p := ⟨b, off + j, none⟩) h3 (hn b h2)).trans (h5 j hj), fun j hj => ?_⟩
 rw [hk.cell (p := ⟨b, off + j, none⟩) h3 (hn b h2), hk.frozen (p := ⟨b, off + j, none⟩) h3 (hn b h2)]
 exact h6 j hj
theorem Qu.pop {W : World} {B : Nat} {b off cap : Nat} {x : Int} {xs : List Int} (h : Qu W B (.slice (some ⟨b, off, none⟩) (xs.length + 1) cap) (x :: xs)) : Qu W B (.slice (some (if cap = 1 then ⟨b, off, none⟩ else ⟨b, off + 1, none⟩)) xs.length (cap - 1)) xs ∧ W.cell? ⟨b, off, none⟩ = some (.int .i64 x) ∧ 1 ≤ cap := by
 obtain ⟨b', off', cap', h1, h2, h3, h4, h5, h6⟩ := h
 simp only [Value.slice.injEq, Option.some.injEq, Addr.mk.injEq, and_true] at h1
 obtain ⟨⟨rfl, rfl⟩, -, rfl⟩ := h1
 have h4' : xs.length + 1 ≤ cap := h4
 refine ⟨?_, ?_, by omega⟩
 ·by_cases hc : cap = 1
  ·rw [if_pos hc]
   exact ⟨b, off, cap - 1, rfl, h2, h3, by omega, fun j hj => by omega, fun j hj => by omega⟩
  ·rw [if_neg hc]
   refine ⟨b, off + 1, cap - 1, rfl, h2, h3, by omega, fun j hj => ?_, fun j hj => ?_⟩
   ·have := h5 (j + 1) (by simp; omega)
    rw [show off + 1 + j = off + (j + 1) by omega, this]
    simp
   ·rw [show off + 1 + j = off + (j + 1) by omega]
    exact h6 (j + 1) (by omega)
 ·have := h5 0 (by simp)
  rw [Nat.add_zero] at this
  rw [this]
  simp
theorem Qu.push {wr : World} {B : Nat} {v : Value} {xs : List Int} (h : Qu wr B v xs) (hl : xs.length ≤ 1000) (y : Int) :
  ∃ v' w', (Builtin.append_ #[22, 22] 22 #[v, .slice (some ⟨wr.heap.size, 0, none⟩) 1 1]).run Tryz.prog (wr.alloc (.cells #[.int .i64 y] 3)) = .ok v' w' ∧ Qu w' B v' (xs ++ [y]) ∧ Kq (fun k => B ≤ k) wr w' := by
 obtain ⟨b, off, cap, rfl, h2, h3, h4, h5, h6⟩ := h
 have bn := bal (Below.refl wr.heap.size wr) (.cells #[.int .i64 y] 3)
 have hs1 : (wr.alloc (.cells #[.int .i64 y] 3)).heap.size = wr.heap.size + 1 := by simp
 obtain ⟨i, hi, hz, hs, hy⟩ := info_get infoI
 have hnews : ∀ j u, [Value.int .i64 y][j]? = some u → (wr.alloc (.cells #[.int .i64 y] 3)).cell? ((⟨wr.heap.size, 0, none⟩ : Addr).add j) = some u := fun j u hj => by
  match j, hj with
  | 0, hj => cases hj; exact cells_new wr #[.int .i64 y] 3 0
  | j + 1, hj => simp at hj
 by_cases hr : xs.length + 1 ≤ cap
 ·have hc : ∀ j, j < [Value.int .i64 y].length → ((wr.alloc (.cells #[.int .i64 y] 3)).cell? ⟨b, off + xs.length * i.size + j, none⟩).isSome = true ∧ (wr.alloc (.cells #[.int .i64 y] 3)).frozen? ⟨b, off + xs.length * i.size + j, none⟩ = false := fun j hj => by
   obtain rfl : j = 0 := by simpa using hj
   rw [hs, Nat.mul_one, bn.cell (p := ⟨b, off + xs.length + 0, none⟩) h3, bn.frozen (p := ⟨b, off + xs.length + 0, none⟩) h3]
   exact h6 xs.length (by omega)
  have hrun := run_append_room_cells (P := Tryz.prog) (wr.alloc (.cells #[.int .i64 y] 3)) 22 22 3 i Tryz.underlying22 hi b off xs.length cap ⟨wr.heap.size, 0, none⟩ 1 1 [.int .i64 y] (by rw [hs]; rfl) hnews (int1 y) hr (fun j hj => (hc j hj).1) (fun j hj => (hc j hj).2)
  rw [hs, Nat.mul_one] at hrun
  refine ⟨_, _, hrun, ⟨b, off, cap, by rw [List.length_append]; rfl, h2, ?_, by rw [List.length_append]; exact hr, fun j hj => ?_, fun j hj => ?_⟩, ?_⟩
  ·simp [World.setCells, World.setCell]
   omega
  ·simp only [World.setCells]
   by_cases hj2 : j < xs.length
   ·rw [World.cell?_setCell_other _ _ _ _ (by intro e; have := congrArg Addr.off e; simp only at this; omega), bn.cell (p := ⟨b, off + j, none⟩) h3, h5 j hj2, List.getElem_append_left hj2]
   ·have hjl : j = xs.length := by rw [List.length_append] at hj; simp at hj; omega
    subst hjl
    obtain ⟨u, hu⟩ := Option.isSome_iff_exists.1 (h6 xs.length (by omega)).1
    rw [World.cell?_setCell_same _ _ _ (show (wr.alloc (.cells #[.int .i64 y] 3)).cell? ⟨b, off + xs.length, none⟩ = some u by rw [bn.cell (p := ⟨b, off + xs.length, none⟩) h3]; exact hu)]
    simp
  ·simp only [World.setCells]
   rw [World.frozen?_setCell, bn.frozen (p := ⟨b, off + j, none⟩) h3]
   refine ⟨?_, (h6 j hj).2⟩
   by_cases hj2 : j = xs.length
   ·subst hj2
    obtain ⟨u, hu⟩ := Option.isSome_iff_exists.1 (h6 xs.length hj).1
    rw [World.cell?_setCell_same _ _ _ (show (wr.alloc (.cells #[.int .i64 y] 3)).cell? ⟨b, off + xs.length, none⟩ = some u by rw [bn.cell (p := ⟨b, off + xs.length, none⟩) h3]; exact hu)]
    rfl
   ·rw [World.cell?_setCell_other _ _ _ _ (by intro e; have := congrArg Addr.off e; simp only at this; omega), bn.cell (p := ⟨b, off + j, none⟩) h3]
    exact (h6 j hj).1
  ·simp only [World.setCells]
   exact ((Kq.refl _ wr).alloc _).setCell (Or.inl h2) _
 ·have holds : ∀ j u, (ints xs)[j]? = some u → (wr.alloc (.cells #[.int .i64 y] 3)).cell? ((⟨b, off, none⟩ : Addr).add j) = some u := fun j u hj => by
   have hjx : j < xs.length := by
    have := (List.getElem?_eq_some_iff.1 hj).1
    rwa [ints_length] at this
   rw [Addr.add_mid, bn.cell (p := ⟨b, off + j, none⟩) h3, h5 j hjx]
   unfold ints at hj
   rw [List.getElem?_map, List.getElem?_eq_getElem hjx] at hj
   exact hj
  obtain ⟨v', w', hrun, ho, hgr⟩ := run_append_arg_grows (P := Tryz.prog) (wr.alloc (.cells #[.int .i64 y] 3)) 22 22 3 i (.int .i64 0) 1 8 Tryz.underlying22 hi hz hs hy rfl (by decide) ⟨b, off, none⟩ xs.length cap (ints xs) (by rw [ints_length, Nat.mul_one]) holds ⟨wr.heap.size, 0, none⟩ 1 1 [.int .i64 y] rfl hnews (by omega) (by unfold maxLen; omega) (by omega)
  have ho2 := ho
  rcases ho.2 with ⟨_, h0⟩ | ⟨g, c, cur, rfl, hbg, hg, hnc, hcm, hcs, htk⟩
  ·omega
  ·have hgl : g < w'.heap.size := by
    rcases Nat.lt_or_ge g w'.heap.size with hlt | hge
    ·exact hlt
    ·rw [Array.getElem?_eq_none hge] at hg; cases hg
   have e : ints xs ++ [Value.int .i64 y] = ints (xs ++ [y]) := by unfold ints; simp
   refine ⟨_, w', hrun, ⟨g, 0, c, by rw [List.length_append]; rfl, by omega, hgl, by rw [List.length_append]; exact hnc, fun j hj => ?_, fun j hj => ⟨?_, ?_⟩⟩, ?_⟩
   ·rw [List.length_append] at hj
    rw [Nat.zero_add, ho2.cellAt j (by simp at hj; omega), e]
    unfold ints
    rw [List.getElem?_map, List.getElem?_eq_getElem (by rw [List.length_append]; exact hj)]
    rfl
   ·rw [Nat.zero_add]
    simp [World.cell?, hg, hcs]
    omega
   ·rw [Nat.zero_add]
    exact ho2.frozenAt j
   ·refine ((Kq.refl _ wr).alloc (.cells #[.int .i64 y] 3)).trans (Kq.of_below ((Below.refl _ _).grown hgr (Nat.le_refl _) fun k hk => by cases hk))
/-- Who is near whom. -/
def nrm (es : List (Nat × Nat)) (i j : Nat) : Bool := es.any fun e => (e.1 == i && e.2 == j) || (e.1 == j && e.2 == i)
theorem nrm_nil (i j : Nat) : nrm [] i j = false := rfl
theorem nrm_one (es : List (Nat × Nat)) (a b i j : Nat) : nrm (es ++ [(a, b)]) i j = (nrm es i j || ((a == i && b == j) || (a == j && b == i))) := by
 unfold nrm
 rw [List.any_append]
 simp
theorem nrm_in {es : List (Nat × Nat)} {e : Nat × Nat} (h : e ∈ es) : nrm es e.1 e.2 = true ∧ nrm es e.2 e.1 = true := by
 unfold nrm
 constructor <;> exact List.any_eq_true.2 ⟨e, h, by simp⟩
theorem nrm_ed {n : Nat} {es : List (Nat × Nat)} {L : List Int} (h : Lb n es L) {i j : Nat} (hn : nrm es i j = true) : lv L i = lv L j := by
 unfold nrm at hn
 obtain ⟨e, he, h1⟩ := List.any_eq_true.1 hn
 have := h.ed e he
 simp only [Bool.or_eq_true, Bool.and_eq_true, beq_iff_eq] at h1
 rcases h1 with ⟨rfl, rfl⟩ | ⟨rfl, rfl⟩
 ·exact this
 ·exact this.symm
theorem lv_set {L : List Int} {k : Nat} {x : Int} (j : Nat) (hj : j < L.length) : lv (L.set k x) j = if j = k then x else lv L j := by
 unfold lv
 rw [getD_i (by rw [List.length_set]; exact hj), List.getElem_set, getD_i hj]
 by_cases h : k = j
 ·rw [if_pos h, if_pos h.symm]
 ·rw [if_neg h, if_neg (Ne.symm h)]
/-- Ahead of frame i: the parts ahead of it are told, nothing else is. -/
structure Bo (n : Nat) (L : List Int) (i : Nat) (out : List Int) : Prop where
 len : out.length = n
 ok : ∀ k, k < n → lv out k = -1 ∨ lv out k = lv L k
 lo : ∀ k, k < n → lv L k < i → lv out k = lv L k
 hi : ∀ k, k < n → lv out k ≠ -1 → lv L k < i
/-- In the midst of frame i's part: these are still to be gone from; from f the first k are seen. -/
structure Bi (n : Nat) (es : List (Nat × Nat)) (L : List Int) (i : Nat) (out : List Int) (td : List Nat) (f k : Nat) : Prop where
 len : out.length = n
 ok : ∀ k, k < n → lv out k = -1 ∨ lv out k = lv L k
 lo : ∀ k, k < n → lv L k < i → lv out k = lv L k
 hi : ∀ k, k < n → lv out k ≠ -1 → lv L k ≤ i
 root : lv out i = i
 self : lv L i = i
 tds : ∀ a ∈ td, a < n ∧ lv out a = i
 ex : ∀ a, a < n → lv out a = i → a ∈ td ∨ ∀ b, b < n → nrm es a b = true → (a = f → b < k) → lv out b ≠ -1
theorem bo_0 {n : Nat} {es : List (Nat × Nat)} {L : List Int} (h : Lb n es L) : Bo n L 0 (List.replicate n (-1)) := by
 have e : ∀ k, k < n → lv (List.replicate n (-1)) k = -1 := fun k hk => by unfold lv; rw [getD_i (by simpa using hk)]; simp
 exact ⟨by simp, fun k hk => .inl (e k hk), fun k hk hl => by have := (h.lo k hk).1; omega, fun k hk hn => absurd (e k hk) hn⟩
theorem bo_skip {n : Nat} {es : List (Nat × Nat)} {L : List Int} (h : Lb n es L) {i : Nat} {out : List Int} (hb : Bo n L i out) (hi : i < n) (h0 : 0 ≤ lv out i) : Bo n L (i + 1) out := by
 have h1 := hb.hi i hi (by omega)
 refine ⟨hb.len, hb.ok, fun k hk hl => ?_, fun k hk hn => by have := hb.hi k hk hn; omega⟩
 by_cases he : lv L k = i
 ·have := (h.lo k hk).2.2
  rw [he, Int.toNat_natCast] at this
  omega
 ·exact hb.lo k hk (by omega)
theorem bi_start {n : Nat} {es : List (Nat × Nat)} {L : List Int} (h : Lb n es L) {i : Nat} {out : List Int} (hb : Bo n L i out) (hi : i < n) (h0 : lv out i < 0) : Bi n es L i (out.set i i) [i] n 0 := by
 have hs : lv L i = i := by
  have l := h.lo i hi
  by_cases he : lv L i = i
  ·exact he
  ·have := hb.lo i hi (by omega)
   omega
 have S : ∀ k, k < n → lv (out.set i (i : Int)) k = if k = i then (i : Int) else lv out k := fun k hk => lv_set k (by rw [hb.len]; exact hk)
 refine ⟨by rw [List.length_set]; exact hb.len, fun k hk => ?_, fun k hk hl => ?_, fun k hk hn => ?_, by rw [S i hi, if_pos rfl], hs, fun a ha => ?_, fun a ha hl => ?_⟩
 ·rw [S k hk]
  split
  ·rename_i e; subst e; exact .inr hs.symm
  ·exact hb.ok k hk
 ·rw [S k hk]
  split
  ·rename_i e; subst e; exact hs.symm
  ·exact hb.lo k hk hl
 ·rw [S k hk] at hn
  split at hn
  ·rename_i e; subst e; omega
  ·have := hb.hi k hk hn; omega
 ·obtain rfl := List.mem_singleton.1 ha
  exact ⟨hi, by rw [S a hi, if_pos rfl]⟩
 ·rw [S a ha] at hl
  split at hl
  ·rename_i e; exact .inl (by rw [e]; exact List.mem_singleton.2 rfl)
  ·have h1 := hb.hi a ha (by omega)
   rcases hb.ok a ha with h2 | h2 <;> omega
theorem bi_pop {n : Nat} {es : List (Nat × Nat)} {L : List Int} {i f : Nat} {out : List Int} {td : List Nat} (h : Bi n es L i out (f :: td) n 0) : Bi n es L i out td f 0 := by
 refine ⟨h.len, h.ok, h.lo, h.hi, h.root, h.self, fun a ha => h.tds a (List.mem_cons_of_mem _ ha), fun a ha hl => ?_⟩
 rcases h.ex a ha hl with h1 | h1
 ·rcases List.mem_cons.1 h1 with rfl | h1
  ·exact .inr fun b _ _ hb => absurd (hb rfl) (Nat.not_lt_zero _)
  ·exact .inl h1
 ·exact .inr fun b hb hn _ => h1 b hb hn fun e => by omega
theorem bi_skip {n : Nat} {es : List (Nat × Nat)} {L : List Int} {i f k : Nat} {out : List Int} {td : List Nat} (h : Bi n es L i out td f k) (hs : nrm es f k = true → lv out k ≠ -1) : Bi n es L i out td f (k + 1) := by
 refine ⟨h.len, h.ok, h.lo, h.hi, h.root, h.self, h.tds, fun a ha hl => ?_⟩
 rcases h.ex a ha hl with h1 | h1
 ·exact .inl h1
 ·refine .inr fun b hb hn hc => ?_
  by_cases e : a = f ∧ b = k
  ·obtain ⟨rfl, rfl⟩ := e
   exact hs hn
  ·exact h1 b hb hn fun e1 => by have := hc e1; have : ¬ b = k := fun e2 => e ⟨e1, e2⟩; omega
theorem bi_take {n : Nat} {es : List (Nat × Nat)} {L : List Int} (hb : Lb n es L) {i f k : Nat} {out : List Int} {td : List Nat} (h : Bi n es L i out td f k) (hf : f < n) (hfi : lv out f = i) (hk : k < n) (hn : nrm es f k = true) : Bi n es L i (out.set k i) (td ++ [k]) f (k + 1) := by
 have hin := h.self
 have hLf : lv L f = i := by
  rcases h.ok f hf with h1 | h1
  ·omega
  ·omega
 have hLk : lv L k = i := by rw [← nrm_ed hb hn]; exact hLf
 have S : ∀ j, j < n → lv (out.set k (i : Int)) j = if j = k then (i : Int) else lv out j := fun j hj => lv_set j (by rw [h.len]; exact hj)
 have hil : i < n := by
  have := (hb.lo k hk).2.1
  omega
 refine ⟨by rw [List.length_set]; exact h.len, fun j hj => ?_, fun j hj hl => ?_, fun j hj hne => ?_, ?_, hin, fun a ha => ?_, fun a ha hl => ?_⟩
 ·rw [S j hj]
  split
  ·rename_i e; subst e; exact .inr hLk.symm
  ·exact h.ok j hj
 ·rw [S j hj]
  split
  ·rename_i e; subst e; exact hLk.symm
  ·exact h.lo j hj hl
 ·rw [S j hj] at hne
  split at hne
  ·rename_i e; subst e; omega
  ·exact h.hi j hj hne
 ·rw [S i hil]
  split
  ·rfl
  ·exact h.root
 ·rcases List.mem_append.1 ha with ha | ha
  ·obtain ⟨h1, h2⟩ := h.tds a ha
   refine ⟨h1, ?_⟩
   rw [S a h1]
   split
   ·rfl
   ·exact h2
  ·obtain rfl := List.mem_singleton.1 ha
   exact ⟨hk, by rw [S a hk, if_pos rfl]⟩
 ·rw [S a ha] at hl
  by_cases e : a = k
  ·exact .inl (List.mem_append_right _ (by rw [e]; exact List.mem_singleton.2 rfl))
  ·rw [if_neg e] at hl
   rcases h.ex a ha hl with h1 | h1
   ·exact .inl (List.mem_append_left _ h1)
   ·refine .inr fun b hb' hnn hc => ?_
    rw [S b hb']
    split
    ·omega
    ·rename_i hbk
     exact h1 b hb' hnn fun e1 => by have := hc e1; omega
theorem bi_next {n : Nat} {es : List (Nat × Nat)} {L : List Int} {i f : Nat} {out : List Int} {td : List Nat} (h : Bi n es L i out td f n) : Bi n es L i out td n 0 :=
 ⟨h.len, h.ok, h.lo, h.hi, h.root, h.self, h.tds, fun a ha hl => by
  rcases h.ex a ha hl with h1 | h1
  ·exact .inl h1
  ·exact .inr fun b hb hn _ => h1 b hb hn fun _ => hb⟩
theorem bi_end {n : Nat} {es : List (Nat × Nat)} {L : List Int} (hb : Lb n es L) (he : ∀ e ∈ es, e.1 < n ∧ e.2 < n) {i : Nat} {out : List Int} (h : Bi n es L i out [] n 0) : Bo n L (i + 1) out := by
 have cl : ∀ a b, a < n → b < n → nrm es a b = true → lv out a = i → lv out b = i := fun a b ha hb' hn hl => by
  rcases h.ex a ha hl with h1 | h1
  ·cases h1
  ·have h2 := h1 b hb' hn fun e => by omega
   have h3 := nrm_ed hb hn
   rcases h.ok b hb' with h4 | h4
   ·exact absurd h4 h2
   ·rcases h.ok a ha with h5 | h5 <;> omega
 refine ⟨h.len, h.ok, fun k hk hl => ?_, fun k hk hn => by have := h.hi k hk hn; omega⟩
 by_cases hlt : lv L k < i
 ·exact h.lo k hk hlt
 ·have e : lv L k = i := by omega
  have := (hb.cn (fun a => lv out a = i) (fun e hee => by
   have hr := nrm_in hee
   have hn := he e hee
   exact ⟨cl _ _ hn.1 hn.2 hr.1, cl _ _ hn.2 hn.1 hr.2⟩) k hk).2 (by rw [e, Int.toNat_natCast]; exact h.root)
  rw [e]
  exact this
theorem bo_end {n : Nat} {es : List (Nat × Nat)} {L : List Int} (hb : Lb n es L) {out : List Int} (h : Bo n L n out) : out = L := by
 apply List.ext_getElem (by rw [h.len, hb.len])
 intro k h1 h2
 have hk : k < n := by rw [← h.len]; exact h1
 have := h.lo k hk (by have := (hb.lo k hk).2.1; omega)
 unfold lv at this
 rwa [getD_i h1, getD_i h2] at this
/-- How many are not told yet. -/
def ngs (out : List Int) : Nat := out.countP fun x => x == -1
theorem ngs_set {out : List Int} {k : Nat} {x : Int} (hk : k < out.length) (h : lv out k = -1) (hx : x ≠ -1) : ngs (out.set k x) + 1 = ngs out := by
 unfold ngs
 rw [List.countP_set hk]
 have e : out[k] = -1 := by unfold lv at h; rwa [getD_i hk] at h
 have p : 0 < out.countP fun x => x == -1 := List.countP_pos_iff.2 ⟨out[k], List.getElem_mem hk, by rw [e]; rfl⟩
 rw [e]
 simp [hx]
 omega
/-- A matrix of one's own: its rows' list in block m, that list's variable in the next, a row in each further one. -/
structure Mx (W : World) (m n : Nat) (N : Nat → Nat → Bool) : Prop where
 rows : Mine W m ((List.range n).map fun i => .slice (some ⟨m + 2 + i, 0, none⟩) n n)
 bx : Mine W (m + 1) [.slice (some ⟨m, 0, none⟩) n n]
 bits : ∀ i, i < n → Mine W (m + 2 + i) ((List.range n).map fun j => .bool (N i j))
theorem Mx.kq {W W' : World} {T : Nat → Prop} {m n : Nat} {N : Nat → Nat → Bool} (h : Mx W m n N) (hk : Kq T W W') (hn : ∀ k, m ≤ k → k < m + 2 + n → ¬ T k) : Mx W' m n N :=
 ⟨h.rows.kept hk (hn m (by omega) (by omega)), h.bx.kept hk (hn (m + 1) (by omega) (by omega)), fun i hi => (h.bits i hi).kept hk (hn (m + 2 + i) (by omega) (by omega))⟩
theorem Mx.row {W : World} {m n : Nat} {N : Nat → Nat → Bool} (h : Mx W m n N) {i : Nat} (hi : i < n) : W.cell? ⟨m, i, none⟩ = some (.slice (some ⟨m + 2 + i, 0, none⟩) n n) := by
 rw [h.rows.c i]
 simp [hi]
theorem Mx.bit {W : World} {m n : Nat} {N : Nat → Nat → Bool} (h : Mx W m n N) {i j : Nat} (hi : i < n) (hj : j < n) : W.cell? ⟨m + 2 + i, j, none⟩ = some (.bool (N i j)) := by
 rw [(h.bits i hi).c j]
 simp [hj]
theorem Mx.put {W : World} {m n : Nat} {N : Nat → Nat → Bool} (h : Mx W m n N) {a b : Nat} (ha : a < n) (hb : b < n) : Mx (W.setCell ⟨m + 2 + a, b, none⟩ (.bool true)) m n (fun i j => N i j || (a == i && b == j)) := by
 have k := (Kq.refl (fun k => k = m + 2 + a) W).setCell (b := m + 2 + a) (o := b) (Or.inl rfl) (.bool true)
 refine ⟨h.rows.kept k (by omega), h.bx.kept k (by omega), fun i hi => ?_⟩
 by_cases e : a = i
 ·subst e
  have s := (h.bits a ha).set (i := b) (by simpa using hb) (.bool true)
  have e2 : ((List.range n).map fun j => Value.bool (N a j)).set b (.bool true) = (List.range n).map fun j => .bool (N a j || (a == a && b == j)) := by
   apply List.ext_getElem (by simp)
   intro j h1 h2
   rw [List.getElem_set]
   by_cases ej : b = j
   ·rw [if_pos ej]; simp [ej]
   ·rw [if_neg ej]; simp [ej]
  rw [e2] at s
  exact s
 ·have e2 : ((List.range n).map fun j => Value.bool (N i j || (a == i && b == j))) = (List.range n).map fun j => .bool (N i j) := List.map_congr_left fun j _ => by simp [e]
  rw [e2]
  exact (h.bits i hi).kept k (by omega)
theorem mx_ext {W : World} {m n : Nat} {N M : Nat → Nat → Bool} (h : Mx W m n N) (e : ∀ i j, N i j = M i j) : Mx W m n M := by
 have : N = M := funext fun i => funext fun j => e i j
 rwa [this] at h
set_option maxRecDepth 100000 in
set_option maxHeartbeats 4000000 in
theorem joinRef_any (m n a b : Nat) (es : List (Nat × Nat)) (w : World) (h : Mx w m n (nrm es)) (hn : n ≤ 1000) (ha : a < n) (hb : b < n) :
  Calls Tryz.prog 17 #[.int .i64 a, .int .i64 b, .pointer (some ⟨m + 1, 0, none⟩)] w fun r w' => r = .returned (.tuple #[]) ∧ Mx w' m n (nrm (es ++ [(a, b)])) ∧ Kq (fun k => m ≤ k ∧ k < m + 2 + n) w w' := by
 have HM := hid h
 have ha2 : (a : Int) < (n : Int) := by omega
 have hb2 : (b : Int) < (n : Int) := by omega
 have hn2 : (n : Int) ≤ 1000 := by omega
 have c1 : w.cell? ⟨m + 1, 0, none⟩ = some (.slice (some ⟨m, 0, none⟩) n n) := h.bx.c 0
 have ra := h.row ha
 have cb := h.bit ha hb
 have fb := (h.bits a ha).f b
 clear h
 go_enter Tryz.func17, Tryz.ntmps17
 go_upto_region 2 with fail
 have H2 := hid (HM.out.put ha hb)
 have K2 := hid ((Kq.refl (fun k => m ≤ k ∧ k < m + 2 + n) w).setCell (b := m + 2 + a) (o := b) (Or.inl ⟨by omega, by omega⟩) (.bool true))
 generalize w.setCell ⟨m + 2 + a, b, none⟩ (.bool true) = w2 at *
 have c1 : w2.cell? ⟨m + 1, 0, none⟩ = some (.slice (some ⟨m, 0, none⟩) n n) := H2.out.bx.c 0
 have rb := H2.out.row hb
 have ca := H2.out.bit hb ha
 have fa := (H2.out.bits b hb).f a
 go_wp2_with fail
 refine bodyPost_end (results_none rfl _ _ _) rfl ⟨rfl, mx_ext (H2.out.put hb ha) fun i j => ?_, K2.out.setCell (Or.inl ⟨by omega, by omega⟩) _⟩
 rw [nrm_one, Bool.or_assoc]
 congr 2
 rw [Bool.and_comm]
theorem joinRef_no (m : Nat) (a : Nat) (w : World) :
  Calls Tryz.prog 17 #[.int .i64 a, .int .i64 (-1), .pointer (some ⟨m + 1, 0, none⟩)] w fun r w' => r = .returned (.tuple #[]) ∧ w = w' := by
 go_enter Tryz.func17, Tryz.ntmps17
 go_wp2_with fail
 exact bodyPost_end (results_none rfl _ _ _) rfl ⟨rfl, rfl⟩
theorem infoBs : (Tryz.prog.info? 53).map (fun i => (i.zero, i.size, i.bytes)) = some (some (.slice none 0 0), 1, 24) := by kernel_rfl
theorem infoBo : (Tryz.prog.info? 4).map (fun i => (i.zero, i.size, i.bytes)) = some (some (.bool false), 1, 1) := by kernel_rfl
/-- The matrix, while its rows are made. -/
structure Mk (w1 W : World) (m n k : Nat) : Prop where
 be : Below w1.heap.size w1 W
 hm : w1.heap.size ≤ m
 rows : Mine W m ((List.range n).map fun i => if i < k then .slice (some ⟨m + 2 + i, 0, none⟩) n n else .slice none 0 0)
 bx : Mine W (m + 1) [.slice (some ⟨m, 0, none⟩) n n]
 bits : ∀ i, i < k → Mine W (m + 2 + i) (List.replicate n (.bool false))
 sz : W.heap.size = m + 2 + k
theorem mk_0 (w1 : World) (n : Nat) : Mk w1 ((w1.alloc (.cells (madeCells #[.slice none 0 0] n) 53)).alloc (.cells #[.slice (some ⟨w1.heap.size, 0, none⟩) n n] 52)) w1.heap.size n 0 := by
 have h1 : Mine (w1.alloc (.cells (madeCells #[.slice none 0 0] n) 53)) w1.heap.size (List.replicate n (.slice none 0 0)) := by
  have := made_mine w1 (.slice none 0 0) n 53 rfl
  rwa [Nat.mul_one] at this
 have s1 : (w1.alloc (.cells (madeCells #[.slice none 0 0] n) 53)).heap.size = w1.heap.size + 1 := by simp
 generalize hW : w1.alloc (.cells (madeCells #[.slice none 0 0] n) 53) = W at *
 have b1 : Below w1.heap.size w1 W := by rw [← hW]; exact bal (Below.refl _ _) _
 have h2 : Mine (W.alloc (.cells #[.slice (some ⟨w1.heap.size, 0, none⟩) n n] 52)) (w1.heap.size + 1) [.slice (some ⟨w1.heap.size, 0, none⟩) n n] := by
  refine ⟨fun o => ?_, fun o => World.frozen?_alloc_at _ _ _ _ (by rw [s1]), by simp [s1]⟩
  rw [cells_at W #[.slice (some ⟨w1.heap.size, 0, none⟩) n n] 52 _ (by rw [s1]) o, List.getElem?_toArray]
 refine ⟨bal b1 _, Nat.le_refl _, ?_, h2, fun i hi => by omega, by simp [s1]⟩
 have e : ((List.range n).map fun i => if i < 0 then Value.slice (some ⟨w1.heap.size + 2 + i, 0, none⟩) n n else .slice none 0 0) = List.replicate n (.slice none 0 0) := by
  apply List.ext_getElem (by simp)
  intro i h1 h2
  simp
 rw [e]
 exact h1.next (bal (Below.refl _ _) _)
theorem mk_drew {w1 W : World} {m n k : Nat} (h : Mk w1 W m n k) : Mk w1 W.drew m n k :=
 have bd : Below W.heap.size W W.drew := below_drew W 1
 ⟨btr h.be bd, h.hm, h.rows.next bd, h.bx.next bd, fun i hi => (h.bits i hi).next bd, h.sz⟩
theorem mk_one {w1 W : World} {m n k : Nat} (h : Mk w1 W m n k) (hk : k < n) : Mk w1 ((W.alloc (.cells (madeCells #[.bool false] n) 4)).setCell ⟨m, k, none⟩ (.slice (some ⟨m + 2 + k, 0, none⟩) n n)).drew m n (k + 1) := by
 have sd : W.heap.size = m + 2 + k := h.sz
 have h1 : Mine (W.alloc (.cells (madeCells #[.bool false] n) 4)) (m + 2 + k) (List.replicate n (.bool false)) := by
  have := made_mine W (.bool false) n 4 rfl
  rwa [Nat.mul_one, sd] at this
 have b2 : Below W.heap.size W (W.alloc (.cells (madeCells #[.bool false] n) 4)) := bal (Below.refl _ _) _
 have s2 : (W.alloc (.cells (madeCells #[.bool false] n) 4)).heap.size = m + 2 + (k + 1) := by rw [World.size_alloc, sd]; omega
 generalize W.alloc (.cells (madeCells #[.bool false] n) 4) = X at *
 have kx := (Kq.refl (fun k => k = m) X).setCell (b := m) (o := k) (Or.inl rfl) (.slice (some ⟨m + 2 + k, 0, none⟩) n n)
 refine mk_drew ⟨bset (btr h.be b2) h.hm _, h.hm, ?_, (h.bx.next b2).kept kx (by omega), fun i hi => ?_, by simp [World.setCell, s2]⟩
 ·have := (h.rows.next b2).set (i := k) (by simpa using hk) (.slice (some ⟨m + 2 + k, 0, none⟩) n n)
  have e : (((List.range n).map fun i => if i < k then Value.slice (some ⟨m + 2 + i, 0, none⟩) n n else .slice none 0 0).set k (.slice (some ⟨m + 2 + k, 0, none⟩) n n)) = (List.range n).map fun i => if i < k + 1 then .slice (some ⟨m + 2 + i, 0, none⟩) n n else .slice none 0 0 := by
   apply List.ext_getElem (by simp)
   intro i h1 h2
   rw [List.getElem_set]
   by_cases ei : k = i
   ·subst ei; simp
   ·rw [if_neg ei]
    simp only [List.getElem_map, List.getElem_range]
    by_cases h3 : i < k
    ·rw [if_pos h3, if_pos (by omega)]
    ·rw [if_neg h3, if_neg (by omega)]
  rw [e] at this
  exact this
 ·by_cases ei : i = k
  ·subst ei; exact h1.kept kx (by omega)
  ·exact ((h.bits i (by omega)).next b2).kept kx (by omega)
theorem mk_n {w1 W : World} {m n : Nat} (h : Mk w1 W m n n) : Mx W m n (nrm []) := by
 refine ⟨?_, h.bx, fun i hi => ?_⟩
 ·have e : ((List.range n).map fun i => if i < n then Value.slice (some ⟨m + 2 + i, 0, none⟩) n n else .slice none 0 0) = (List.range n).map fun i => .slice (some ⟨m + 2 + i, 0, none⟩) n n := List.map_congr_left fun i hi => if_pos (List.mem_range.1 hi)
  rw [← e]
  exact h.rows
 ·have e : ((List.range n).map fun j => Value.bool (nrm [] i j)) = List.replicate n (.bool false) := by
   apply List.ext_getElem (by simp)
   intro j h1 h2
   simp [nrm_nil]
  rw [e]
  exact h.bits i hi
/-- A world in its box, and a matrix of one's own behind it. -/
structure Vm (w1 : World) (vb : Nat) (V : Nat → Value) (p : PW) (m : Nat) (es : List (Nat × Nat)) (w : World) : Prop where
 va : ViewAt w1 vb V p
 be : Below w1.heap.size w1 w
 hm : w1.heap.size ≤ m
 mx : Mx w m p.kinds.length (nrm es)
theorem Vm.next {w1 w w' : World} {vb m : Nat} {V : Nat → Value} {p : PW} {es : List (Nat × Nat)} (h : Vm w1 vb V p m es w) (hb : Below w.heap.size w w') : Vm w1 vb V p m es w' :=
 ⟨h.va, btr h.be hb, h.hm, h.mx.kq (Kq.of_below (T := fun _ => False) hb) fun _ _ _ => id⟩
theorem Vm.one {w1 w w' : World} {vb m a b : Nat} {V : Nat → Value} {p : PW} {es : List (Nat × Nat)} (h : Vm w1 vb V p m es w) (hm : Mx w' m p.kinds.length (nrm (es ++ [(a, b)]))) (hk : Kq (fun k => m ≤ k ∧ k < m + 2 + p.kinds.length) w w') : Vm w1 vb V p m (es ++ [(a, b)]) w' :=
 ⟨h.va, hk.below h.be h.be.size (fun k hk e => by have := h.hm; omega), h.hm, hm⟩
theorem Vm.more {w1 w w' : World} {vb m : Nat} {V : Nat → Value} {p : PW} {es fs : List (Nat × Nat)} (h : Vm w1 vb V p m es w) (hm : Mx w' m p.kinds.length (nrm (es ++ fs))) (hk : Kq (fun k => m ≤ k ∧ k < m + 2 + p.kinds.length) w w') : Vm w1 vb V p m (es ++ fs) w' :=
 ⟨h.va, hk.below h.be h.be.size (fun k hk e => by have := h.hm; omega), h.hm, hm⟩
theorem Vm.top {w1 w : World} {vb m : Nat} {V : Nat → Value} {p : PW} {es : List (Nat × Nat)} (h : Vm w1 vb V p m es w) : m + 2 + p.kinds.length ≤ w.heap.size := by
 rcases Nat.eq_zero_or_pos p.kinds.length with h0 | h0
 ·have := h.mx.bx.lt; omega
 ·have := (h.mx.bits (p.kinds.length - 1) (by omega)).lt; omega
theorem Vm.far {w1 w w' : World} {vb m : Nat} {V : Nat → Value} {p : PW} {es : List (Nat × Nat)} (h : Vm w1 vb V p m es w) (hk : Kq (fun k => m + 2 + p.kinds.length ≤ k) w w') : Vm w1 vb V p m es w' :=
 ⟨h.va, hk.below h.be h.be.size (fun k hk e => by have := h.hm; omega), h.hm, h.mx.kq hk fun k h1 h2 e => by omega⟩
theorem joinRef_x (m n a : Nat) (x : Int) (es : List (Nat × Nat)) (w : World) (h : Mx w m n (nrm es)) (hn : n ≤ 1000) (ha : a < n) (hx : x = -1 ∨ ∃ g : Nat, g < n ∧ x = g) :
  Calls Tryz.prog 17 #[.int .i64 a, .int .i64 x, .pointer (some ⟨m + 1, 0, none⟩)] w fun r w' => r = .returned (.tuple #[]) ∧ Mx w' m n (nrm (es ++ if x = -1 then [] else [(a, x.toNat)])) ∧ Kq (fun k => m ≤ k ∧ k < m + 2 + n) w w' := by
 rcases hx with rfl | ⟨g, hg, rfl⟩
 ·rw [if_pos rfl, List.append_nil]
  exact (joinRef_no m a w).mono fun r w' ⟨h1, h2⟩ => ⟨h1, by rw [← h2]; exact h, by rw [← h2]; exact Kq.refl _ _⟩
 ·rw [if_neg (by omega), Int.toNat_natCast]
  exact joinRef_any m n a g es w h hn ha hg
def ngK (n k : Nat) : List Int := (List.range n).map fun i : Nat => if i < k then (-1 : Int) else 0
theorem ngK_0 (n : Nat) : ngK n 0 = List.replicate n 0 := by
 apply List.ext_getElem (by simp [ngK])
 intro i h1 h2
 simp [ngK]
theorem ngK_n (n : Nat) : ngK n n = List.replicate n (-1) := by
 apply List.ext_getElem (by simp [ngK])
 intro i h1 h2
 simp [ngK]
 rw [List.length_replicate] at h2
 omega
theorem ngK_len (n k : Nat) : (ngK n k).length = n := by simp [ngK]
theorem ngK_succ (n k : Nat) : (ngK n k).set k (-1) = ngK n (k + 1) := by
 apply List.ext_getElem (by simp [ngK])
 intro i h1 h2
 rw [List.getElem_set]
 by_cases h : k = i
 ·subst h; simp [ngK]
 ·rw [if_neg h]
  simp only [ngK, List.getElem_map, List.getElem_range]
  by_cases h3 : i < k
  ·rw [if_pos h3, if_pos (by omega)]
  ·rw [if_neg h3, if_neg (by omega)]
def lnOf : Value → Nat
 | .slice _ n _ => n
 | _ => 0
def ngW (W : World) (g n : Nat) : Nat := (List.range n).countP fun i => match W.cell? ⟨g, i, none⟩ with | some (.int _ x) => x == -1 | _ => false
theorem ngW_eq {W : World} {g n : Nat} {out : List Int} (h : Mine W g (ints out)) (hl : out.length = n) : ngW W g n = ngs out := by
 unfold ngW ngs
 have e : out = (List.range n).map fun i => lv out i := by
  apply List.ext_getElem (by simpa using hl)
  intro i h1 h2
  simp only [List.getElem_map, List.getElem_range]
  unfold lv
  rw [getD_i h1]
 conv => rhs; rw [e]
 rw [List.countP_map]
 apply List.countP_congr
 intro i hi
 rw [h.at (i := i) (by rw [hl]; exact List.mem_range.1 hi)]
 simp
theorem qu_one (wr : World) (g i : Nat) (hg : g < wr.heap.size) (o : Nat) : Qu ((wr.alloc (.cells #[.int .i64 i] 3)).setCell ⟨g, o, none⟩ (.int .i64 i)) (g + 1) (.slice (some ⟨wr.heap.size, 0, none⟩) 1 1) ([i].map fun a : Nat => (a : Int)) := by
 have k := (Kq.refl (fun k => k = g) (wr.alloc (.cells #[.int .i64 i] 3))).setCell (b := g) (o := o) (Or.inl rfl) (.int .i64 i)
 refine Qu.kq (T := fun k => k = g) ⟨wr.heap.size, 0, 1, rfl, by omega, by simp, by simp, fun j hj => ?_, fun j hj => ?_⟩ k (by omega)
 ·obtain rfl : j = 0 := by simpa using hj
  exact cells_new wr #[.int .i64 i] 3 0
 ·obtain rfl : j = 0 := by omega
  exact ⟨by rw [show (0 : Nat) + 0 = 0 from rfl, cells_new wr #[.int .i64 i] 3 0]; rfl, World.frozen?_alloc_at _ _ _ _ rfl⟩
set_option maxRecDepth 100000 in
set_option maxHeartbeats 40000000 in
theorem partsOf_ref (V : Nat → Value) (p : PW) (w : World) (hv : WorldV w V p) (hp : p.Fits) (he : Eg p) :
  Calls Tryz.prog 7 #[.agg (arr11 V)] w fun x w' => ∃ g, x = .returned (.slice (some ⟨g, 0, none⟩) p.kinds.length p.kinds.length) ∧ Mine w' g (ints (ptL p)) ∧ Below w.heap.size w w' := by
 have B0 := hid (bal (Below.refl w.heap.size w) (.cells (arr11 V) 28))
 have VA := hid (show ViewAt (w.alloc (.cells (arr11 V) 28)) w.heap.size V p from ⟨boxed w V 28, hv.below B0.out, hp⟩)
 have HE := hid he
 have hl24 : p.kinds.length ≤ 24 := he.lf.k2
 have hl2 : (p.kinds.length : Int) ≤ 24 := by omega
 have c1 : (w.alloc (.cells (arr11 V) 28)).cell? ⟨w.heap.size, 1, none⟩ = some (V 1) := range_cell VA.out.r rfl
 obtain ⟨q1, b1, o1, k1, e1, hq1, hz1⟩ := VA.out.v.kinds
 rw [e1] at c1
 have hmk1 := fun W => make_row (T := 52) Tryz.underlying52 infoBs (by decide) (by decide) p.kinds.length (by omega) W
 have hmk3 := fun W => make_row (T := 22) Tryz.underlying22 infoI (by decide) (by decide) p.kinds.length (by omega) W
 have hmk2 := fun W => make_row (T := 53) Tryz.underlying53 infoBo (by decide) (by decide) p.kinds.length (by omega) W
 have HZ1 := hid hz1
 have HQ1 := hid hq1
 have s0 : (w.alloc (.cells (arr11 V) 28)).heap.size = w.heap.size + 1 := by simp
 have M0 := hid (mk_0 (w.alloc (.cells (arr11 V) 28)) p.kinds.length)
 rw [s0] at M0
 clear s0
 clear hv hp he e1 hq1 hz1
 go_enter Tryz.func7, Tryz.ntmps7
 go_wp2_with fail
 generalize ((w.alloc (.cells (arr11 V) 28)).alloc (.cells (madeCells #[.slice none 0 0] p.kinds.length) 53)).alloc (.cells #[.slice (some ⟨w.heap.size + 1, 0, none⟩) p.kinds.length p.kinds.length] 52) = W1 at *
 generalize w.alloc (.cells (arr11 V) 28) = W0 at *
 clear c1 hmk1
 generalize hm : w.heap.size + 1 = m at *
 have HMM := hid hm
 clear hm
 generalize hn : p.kinds.length = n at *
 have HN := hid hn
 clear hn
 go_loopw [5] (fun i wr => ∃ k : Nat, k ≤ n ∧ i = .int .i64 k ∧ Hid (Mk W0 wr m n k)) (fun i _ => n - (intOf i).toNat)
 case atStart => exact ⟨0, by omega, rfl, M0⟩
 case round =>
  obtain ⟨k, hk, rfl, HK⟩ := hrel
  by_cases hlt : k < n
  ·have hlt2 : (k : Int) < (n : Int) := by omega
   have cb : wr.cell? ⟨m + 1, 0, none⟩ = some (.slice (some ⟨m, 0, none⟩) n n) := HK.out.bx.c 0
   have cr := (HK.out.rows.c k).trans (List.getElem?_eq_getElem (by simpa using hlt))
   have fr := HK.out.rows.f k
   have sz := HK.out.sz
   have HO := hid (mk_one HK.out hlt)
   have bb := bal (Below.refl wr.heap.size wr) (.cells (madeCells #[.bool false] n) 4)
   have cb2 := (bb.cell (p := ⟨m + 1, 0, none⟩) HK.out.bx.lt).trans cb
   have cr2 := (bb.cell (p := ⟨m, k, none⟩) HK.out.rows.lt).trans cr
   have fr2 := (bb.frozen (p := ⟨m, k, none⟩) HK.out.rows.lt).trans fr
   clear bb
   go_wp2_with fail
   go_region
   go_wp2_with fail
   exact ⟨⟨k + 1, by omega, by go_num, HO⟩, by simp [intOf]; omega⟩
  obtain rfl : n = k := by omega
  have hge : ¬ ((n : Int) < (n : Int)) := by omega
  have VM := hid (show Vm W0 w.heap.size V p m (upto (egS p) 0) wr from ⟨VA.out, HK.out.be, HK.out.hm, by rw [HN.out]; exact mk_n HK.out⟩)
  clear HK
  go_wp2_with fail
  go_loopw [7] (fun i wr => ∃ k : Nat, k ≤ p.slots.length ∧ i = .int .i64 k ∧ Hid (Vm W0 w.heap.size V p m (upto (egS p) k) wr)) (fun i _ => p.slots.length - (intOf i).toNat)
  case atStart => exact ⟨0, by omega, rfl, VM⟩
  case round =>
   obtain ⟨k, hk, rfl, HV⟩ := hrel
   have c2 : wr.cell? ⟨w.heap.size, 2, none⟩ = some (V 2) := range_cell (HV.out.va.below HV.out.be).r rfl
   obtain ⟨q2, b2, o2, k2, e2, hq2, hz2⟩ := (VA.out.below HV.out.be).v.slots
   rw [e2] at c2
   have hl : (p.slots.length : Int) ≤ 1000 := by have := VA.out.f.slots; omega
   clear e2
   by_cases hlt : k < p.slots.length
   rotate_left
   ·obtain rfl : p.slots.length = k := by omega
    have hge : ¬ ((p.slots.length : Int) < (p.slots.length : Int)) := by omega
    clear hz2 hq2
    have VM := hid (show Vm W0 w.heap.size V p m (upto (egS p) p.slots.length ++ upto (egR p) 0) wr by rw [upto_0, List.append_nil]; exact HV.out)
    clear HV
    go_wp2_with fail
    clear c2 hge
    go_loopw [10] (fun i wr => ∃ k : Nat, k ≤ p.ram.length ∧ i = .int .i64 k ∧ Hid (Vm W0 w.heap.size V p m (upto (egS p) p.slots.length ++ upto (egR p) k) wr)) (fun i _ => p.ram.length - (intOf i).toNat)
    case atStart => exact ⟨0, by omega, rfl, VM⟩
    case round =>
     obtain ⟨k, hk, rfl, HV⟩ := hrel
     have c0 : wr.cell? ⟨w.heap.size, 0, none⟩ = some (V 0) := range_cell (HV.out.va.below HV.out.be).r rfl
     have c1 : wr.cell? ⟨w.heap.size, 1, none⟩ = some (V 1) := range_cell (HV.out.va.below HV.out.be).r rfl
     obtain ⟨q0, b0, o0, k0, e0, hq0, hz0⟩ := (VA.out.below HV.out.be).v.ram
     obtain ⟨q1, b1, o1, k1, e1, hq1, hz1⟩ := (VA.out.below HV.out.be).v.kinds
     rw [e0] at c0
     rw [e1] at c1
     have hl : (p.ram.length : Int) ≤ 1000 := by have := VA.out.f.ram; omega
     have hrl : p.ram.length = n * 16 := by have := HE.out.lf.ram; rw [HN.out] at this; exact this
     have HRL := hid hrl
     clear e0 e1 hrl
     by_cases hlt : k < p.ram.length
     rotate_left
     ·obtain rfl : p.ram.length = k := by omega
      have hge : ¬ ((p.ram.length : Int) < (p.ram.length : Int)) := by omega
      clear hz0 hq0 hz1 hq1
      have VM := hid (show Vm W0 w.heap.size V p m (upto (egS p) p.slots.length ++ upto (egR p) p.ram.length ++ upto (egT p) 0) wr by rw [upto_0, List.append_nil]; exact HV.out)
      clear HV
      go_wp2_with fail
      clear c0 c1 hge
      go_loopw [12] (fun i wr => ∃ k : Nat, k ≤ n ∧ i = .int .i64 k ∧ Hid (Vm W0 w.heap.size V p m (upto (egS p) p.slots.length ++ upto (egR p) p.ram.length ++ upto (egT p) k) wr)) (fun i _ => n - (intOf i).toNat)
      case atStart => exact ⟨0, by omega, rfl, VM⟩
      case round =>
       obtain ⟨k, hk, rfl, HV⟩ := hrel
       by_cases hkn : k < n
       rotate_left
       ·obtain rfl : n = k := by omega
        have hge : ¬ ((n : Int) < (n : Int)) := by omega
        have VM := hid (show Vm W0 w.heap.size V p m (egA p) wr by unfold egA; rw [HN.out]; exact HV.out)
        have M6 := hid (show Mine (wr.alloc (.cells (madeCells #[.int .i64 0] n) 3)) wr.heap.size (List.replicate n (.int .i64 0)) by
         have := made_mine wr (.int .i64 0) n 3 rfl
         rwa [Nat.mul_one] at this)
        have VH := hid (VM.out.next (bal (Below.refl _ _) (.cells (madeCells #[.int .i64 0] n) 3)))
        have hg : m + 2 + n ≤ wr.heap.size := by have := VM.out.top; rw [HN.out] at this; exact this
        clear HV VM
        go_wp2_with fail
        generalize wr.alloc (.cells (madeCells #[.int .i64 0] n) 3) = W6 at *
        generalize wr.heap.size = g at *
        clear hge
        go_loopw [15] (fun i wr => ∃ k : Nat, k ≤ n ∧ i = .int .i64 k ∧ Hid (Vm W0 w.heap.size V p m (egA p) wr) ∧ Hid (Mine wr g (ints (ngK n k)))) (fun i _ => n - (intOf i).toNat)
        case atStart => exact ⟨0, by omega, rfl, VH, hid (by rw [ngK_0]; unfold ints; rw [List.map_replicate]; exact M6.out)⟩
        case round =>
         obtain ⟨k, hk, rfl, HV, HM⟩ := hrel
         by_cases hlt : k < n
         ·have hlt2 : (k : Int) < (n : Int) := by omega
          have hc := HM.out.at (i := k) (by rw [ngK_len]; exact hlt)
          have hf := HM.out.f k
          have HO := hid (HV.out.far (((Kq.refl (fun k => m + 2 + p.kinds.length ≤ k) wr).setCell (b := g) (o := k) (Or.inl (by rw [HN.out]; exact hg)) (.int .i64 (-1)))))
          go_wp2_with fail
          refine ⟨⟨k + 1, by omega, by go_num, HO, hid ?_⟩, by simp [intOf]; omega⟩
          rw [← ngK_succ, ← ints_set]
          exact HM.out.set (by rw [ints_length, ngK_len]; exact hlt) _
         obtain rfl : n = k := by omega
         have hge : ¬ ((n : Int) < (n : Int)) := by omega
         have HLB := hid (show Lb n (egA p) (ptL p) by have := lb_pt HE.out; rw [HN.out] at this; exact this)
         have HEA := hid (show ∀ e ∈ egA p, e.1 < n ∧ e.2 < n by have := egA_in HE.out; rw [HN.out] at this; exact this)
         have MO := hid (show Mine wr g (ints (List.replicate n (-1))) by rw [← ngK_n]; exact HM.out)
         clear HM VH M6
         go_wp2_with fail
         clear hge
         go_loopw [16] (fun i wr => ∃ (k : Nat) (out : List Int), k ≤ n ∧ i = .int .i64 k ∧ Hid (Vm W0 w.heap.size V p m (egA p) wr) ∧ Hid (Mine wr g (ints out)) ∧ Hid (Bo n (ptL p) k out)) (fun i _ => n - (intOf i).toNat)
         case atStart => exact ⟨0, _, by omega, rfl, HV, MO, hid (bo_0 HLB.out)⟩
         case round =>
          obtain ⟨i, out, hk, rfl, HV, HM, HBO⟩ := hrel
          by_cases hlt : i < n
          rotate_left
          ·obtain rfl : n = i := by omega
           have hge : ¬ ((n : Int) < (n : Int)) := by omega
           go_wp2_with fail
           go_ret
           refine ⟨g, by rw [HN.out]; rfl, ?_, btr B0.out HV.out.be⟩
           rw [← bo_end HLB.out HBO.out]
           exact HM.out
          have hlt2 : (i : Int) < (n : Int) := by omega
          have hc := HM.out.at (i := i) (by rw [HBO.out.len]; exact hlt)
          have hf := HM.out.f i
          by_cases h0 : 0 ≤ lv out i
          ·have HB2 := hid (bo_skip HLB.out HBO.out hlt h0)
           generalize lv out i = x at hc h0
           go_wp2_with fail
           exact ⟨⟨i + 1, out, by omega, by go_num, HV, HM, HB2⟩, by simp [intOf]; omega⟩
          have hneg : lv out i < 0 := by omega
          have HBI := hid (bi_start HLB.out HBO.out hlt hneg)
          have h0' : ¬ (0 ≤ lv out i) := h0
          have HLN := hid HBO.out.len
          generalize lv out i = x at hc h0' hneg h0
          clear h0 hneg
          have MI := hid (show Mine ((wr.alloc (.cells #[.int .i64 i] 3)).setCell ⟨g, i, none⟩ (.int .i64 i)) g (ints (out.set i i)) by
           rw [← ints_set]
           exact (HM.out.next (bal (Below.refl _ _) _)).set (by rw [ints_length, HLN.out]; exact hlt) _)
          have VI := hid (HV.out.far ((((Kq.refl (fun k => m + 2 + p.kinds.length ≤ k) wr).alloc (.cells #[.int .i64 i] 3)).setCell (b := g) (o := i) (Or.inl (by rw [HN.out]; exact hg)) (.int .i64 i))))
          have QI := hid (qu_one wr g i HM.out.lt i)
          have hc2 := (bal (Below.refl wr.heap.size wr) (.cells #[.int .i64 i] 3)).cell (p := ⟨g, i, none⟩) HM.out.lt
          rw [hc] at hc2
          have hf2 := (bal (Below.refl wr.heap.size wr) (.cells #[.int .i64 i] 3)).frozen (p := ⟨g, i, none⟩) HM.out.lt
          rw [hf] at hf2
          go_wp2_with fail
          generalize (wr.alloc (.cells #[.int .i64 i] 3)).setCell ⟨g, i, none⟩ (.int .i64 i) = W7 at *
          generalize Value.slice (some ⟨wr.heap.size, 0, none⟩) 1 1 = tv at *
          clear hc hf hc2 hf2 HM HV HBO h0'
          go_loopw [17] (fun v wr => ∃ (td : List Nat) (out : List Int), Hid (Vm W0 w.heap.size V p m (egA p) wr) ∧ Hid (Mine wr g (ints out)) ∧ Hid (Qu wr (g + 1) v (td.map fun a : Nat => (a : Int))) ∧ Hid (Bi n (egA p) (ptL p) i out td n 0) ∧ Hid (2 * ngs out + td.length ≤ 2 * n + 1)) (fun v wr => 2 * ngW wr g n + lnOf v)
          case atStart => exact ⟨[i], _, VI, MI, QI, HBI, hid (by have h6 : ngs (out.set i i) ≤ (out.set i i).length := List.countP_le_length; have h7 := HBI.out.len; rw [h7] at h6; simp only [List.length_cons, List.length_nil]; omega)⟩
          case round =>
           obtain ⟨td, out, HV, HM, HQ, HBI, HTD⟩ := hrel
           obtain ⟨b, off, cap, hv, -⟩ := HQ.out
           subst hv
           have HLN := hid HBI.out.len
           cases td with
           | nil =>
            have HB2 := hid (bi_end HLB.out HEA.out HBI.out)
            simp only [List.map_nil, List.length_nil]
            go_wp2_with fail
            exact ⟨⟨i + 1, out, by omega, by go_num, HV, HM, HB2⟩, by simp [intOf]; omega⟩
           | cons f td =>
            have hfn := (HBI.out.tds f (List.mem_cons_self ..)).1
            have HFI := hid (HBI.out.tds f (List.mem_cons_self ..)).2
            have HBP := hid (bi_pop HBI.out)
            rw [List.map_cons, List.length_cons] at HQ ⊢
            obtain ⟨qp, cf0, hc1⟩ := HQ.out.pop
            have QP := hid qp
            have HMS := hid (show 2 * ngW wr g n + lnOf (.slice (some ⟨b, off, none⟩) ((td.map fun a : Nat => (a : Int)).length + 1) cap) = 2 * ngs out + td.length + 1 by rw [ngW_eq HM.out HLN.out]; simp [lnOf]; omega)
            generalize hlen : (td.map fun a : Nat => (a : Int)).length = ln at *
            have hcl : ln + 1 ≤ cap := by
             obtain ⟨b', off', cap', e, -, -, h4, -⟩ := HQ.out
             simp only [Value.slice.injEq] at e
             rw [List.length_cons, hlen] at h4
             omega
            have hgt : (0 : Int) < (ln : Int) + 1 := by omega
            clear qp HQ HBI
            by_cases h1 : cap = 1
            ·subst h1
             obtain rfl : ln = 0 := by omega
             rw [show (0 : Nat) + 1 = 1 from rfl]
             rw [if_pos rfl] at QP
             have Q2 := hid (show Qu wr (g + 1) (.slice (some ⟨b, off, none⟩) 0 0) _ from QP.out)
             clear QP
             go_wp2_with fail
             generalize Value.slice (some ⟨b, off, none⟩) 0 0 = pv at Q2 ⊢
             clear cf0 hc1 hcl hgt hlen
             have QP := Q2
             clear Q2
             go_loopw [17, 19] (fun v u wx => ∃ (k : Nat) (td' : List Nat) (out' : List Int), k ≤ n ∧ u = .int .i64 k ∧ Hid (Vm W0 w.heap.size V p m (egA p) wx) ∧ Hid (Mine wx g (ints out')) ∧ Hid (Qu wx (g + 1) v (td'.map fun a : Nat => (a : Int))) ∧ Hid (Bi n (egA p) (ptL p) i out' td' f k) ∧ Hid (lv out' f = i) ∧ Hid (2 * ngs out' + td'.length ≤ 2 * ngs out + td.length)) (fun _ u _ => n - (intOf u).toNat)
             case atStart => exact ⟨0, td, out, by omega, rfl, HV, HM, QP, HBP, HFI, hid (Nat.le_refl _)⟩
             case round =>
              obtain ⟨k, td', out', hk, rfl, HV, HM, HQ, HB, HF, HS⟩ := hrel
              have HL2 := hid HB.out.len
              by_cases hkn : k < n
              rotate_left
              ·obtain rfl : n = k := by omega
               have hge : ¬ ((n : Int) < (n : Int)) := by omega
               have HB2 := hid (bi_next HB.out)
               obtain ⟨b', off', cap', hv', -⟩ := HQ.out
               subst hv'
               go_wp2_with fail
               refine ⟨⟨td', out', HV, HM, HQ, HB2, hid (by have h5 := HS.out; have h6 := HTD.out; rw [List.length_cons] at h6; omega)⟩, ?_⟩
               have h5 := HMS.out
               have h6 := HS.out
               simp only [lnOf, List.length_map] at h5 ⊢
               rw [ngW_eq HM.out HL2.out]
               omega
              have hkn2 : (k : Int) < (n : Int) := by omega
              have hfn2 : (f : Int) < (n : Int) := by omega
              have cb : wr.cell? ⟨m + 1, 0, none⟩ = some (.slice (some ⟨m, 0, none⟩) n n) := by have := HV.out.mx.bx.c 0; rw [HN.out] at this; exact this
              have cr : wr.cell? ⟨m, f, none⟩ = some (.slice (some ⟨m + 2 + f, 0, none⟩) n n) := by have := HV.out.mx.row (i := f) (by rw [HN.out]; exact hfn); rw [HN.out] at this; exact this
              have ce := HV.out.mx.bit (i := f) (j := k) (by rw [HN.out]; exact hfn) (by rw [HN.out]; exact hkn)
              have hc := HM.out.at (i := k) (by rw [HL2.out]; exact hkn)
              have hf := HM.out.f k
              have HSK := hid (fun h => bi_skip HB.out h)
              have HTK := hid (fun h => bi_take HLB.out HB.out hfn HF.out hkn h)
              have HOK := hid (show lv out' k = -1 ∨ 0 ≤ lv out' k from by rcases HB.out.ok k hkn with h | h; exact .inl h; exact .inr (by rw [h]; exact (HLB.out.lo k hkn).1))
              have HNG := hid (fun h => ngs_set (out := out') (k := k) (x := (i : Int)) (by rw [HL2.out]; exact hkn) h (by omega))
              obtain ⟨bv, hbv⟩ : ∃ bv, nrm (egA p) f k = bv := ⟨_, rfl⟩
              rw [hbv] at ce HSK HTK
              cases bv with
              | false =>
               have HB2 := hid (HSK.out fun h => by cases h)
               clear hbv HSK HTK HNG HOK
               go_wp2_with fail
               exact ⟨⟨k + 1, td', out', by omega, by go_num, HV, HM, HQ, HB2, HF, HS⟩, by simp [intOf]; omega⟩
              | true =>
               by_cases h0 : 0 ≤ lv out' k
               ·have HB2 := hid (HSK.out fun _ => by omega)
                have h0' : ¬ (lv out' k < 0) := by omega
                generalize lv out' k = x at hc h0 h0'
                clear hbv HSK HTK HNG HOK
                go_wp2_with fail
                exact ⟨⟨k + 1, td', out', by omega, by go_num, HV, HM, HQ, HB2, HF, HS⟩, by simp [intOf]; omega⟩
               ·have hm1 : lv out' k = -1 := HOK.out.resolve_right h0
                have HB2 := hid (HTK.out rfl)
                have HN2 := hid (HNG.out hm1)
                rw [hm1] at hc
                have HM2 := hid (show Mine (wr.setCell ⟨g, k, none⟩ (.int .i64 i)) g (ints (out'.set k i)) by rw [← ints_set]; exact HM.out.set (by rw [ints_length, HL2.out]; exact hkn) _)
                have KS := (Kq.refl (fun k => k = g) wr).setCell (b := g) (o := k) (Or.inl rfl) (.int .i64 i)
                have HV2 := hid (HV.out.far (KS.wider fun k _ e => by rw [HN.out, e]; exact hg))
                have HQ2 := hid (HQ.out.kq KS (by omega))
                have hil : td'.length ≤ 1000 := by
                 have h5 := HS.out
                 have h6 := HTD.out
                 rw [List.length_cons] at h6
                 omega
                have HF2 := hid (show lv (out'.set k i) f = i by
                 rw [lv_set f (by rw [HL2.out]; exact hfn)]
                 split
                 ·rfl
                 ·exact HF.out)
                clear hbv HSK HTK HNG HOK h0 KS HV HM HQ
                go_upto_region 52 with fail
                generalize wr.setCell ⟨g, k, none⟩ (.int .i64 i) = W9 at *
                obtain ⟨v', w', hr, hq, hkq⟩ := HQ2.out.push (by rw [List.length_map]; exact hil) (k : Int)
                have HR := hid hr
                have HQ3 := hid (show Qu w' (g + 1) v' ((td' ++ [k]).map fun a : Nat => (a : Int)) by rw [List.map_append]; exact hq)
                have HV3 := hid (HV2.out.far (hkq.wider fun k _ e => by rw [HN.out]; omega))
                have HM3 := hid (HM2.out.kept hkq (by omega))
                clear hr hq hkq HQ2 HV2 HM2
                obtain ⟨b9, off9, cap9, hv9, -⟩ := HQ3.out
                subst hv9
                generalize ((td' ++ [k]).map fun a : Nat => (a : Int)).length = ln9 at *
                go_wp2_with (first | (at_builtin; refine wpList_appP rfl _ _ 22 rfl _ (.slice (some ⟨W9.heap.size, 0, none⟩) 1 1) (.slice (some ⟨b9, off9, none⟩) ln9 cap9) rfl rfl HR.out ?_))
                refine ⟨⟨k + 1, td' ++ [k], out'.set k i, by omega, by go_num, HV3, HM3, HQ3, HB2, HF2, hid ?_⟩, by simp [intOf]; omega⟩
                have h5 := HS.out
                have h6 := HN2.out
                rw [List.length_append]
                simp only [List.length_cons, List.length_nil]
                omega
            ·rw [if_neg h1] at QP
             have Q2 := hid (show Qu wr (g + 1) (.slice (some ⟨b, off + 1, none⟩) ln (cap - 1)) _ from QP.out)
             clear QP
             go_wp2_with fail
             generalize Value.slice (some ⟨b, off + 1, none⟩) ln (cap - 1) = pv at Q2 ⊢
             clear cf0 hc1 hcl hgt hlen h1
             have QP := Q2
             clear Q2
             go_loopw [17, 19] (fun v u wx => ∃ (k : Nat) (td' : List Nat) (out' : List Int), k ≤ n ∧ u = .int .i64 k ∧ Hid (Vm W0 w.heap.size V p m (egA p) wx) ∧ Hid (Mine wx g (ints out')) ∧ Hid (Qu wx (g + 1) v (td'.map fun a : Nat => (a : Int))) ∧ Hid (Bi n (egA p) (ptL p) i out' td' f k) ∧ Hid (lv out' f = i) ∧ Hid (2 * ngs out' + td'.length ≤ 2 * ngs out + td.length)) (fun _ u _ => n - (intOf u).toNat)
             case atStart => exact ⟨0, td, out, by omega, rfl, HV, HM, QP, HBP, HFI, hid (Nat.le_refl _)⟩
             case round =>
              obtain ⟨k, td', out', hk, rfl, HV, HM, HQ, HB, HF, HS⟩ := hrel
              have HL2 := hid HB.out.len
              by_cases hkn : k < n
              rotate_left
              ·obtain rfl : n = k := by omega
               have hge : ¬ ((n : Int) < (n : Int)) := by omega
               have HB2 := hid (bi_next HB.out)
               obtain ⟨b', off', cap', hv', -⟩ := HQ.out
               subst hv'
               go_wp2_with fail
               refine ⟨⟨td', out', HV, HM, HQ, HB2, hid (by have h5 := HS.out; have h6 := HTD.out; rw [List.length_cons] at h6; omega)⟩, ?_⟩
               have h5 := HMS.out
               have h6 := HS.out
               simp only [lnOf, List.length_map] at h5 ⊢
               rw [ngW_eq HM.out HL2.out]
               omega
              have hkn2 : (k : Int) < (n : Int) := by omega
              have hfn2 : (f : Int) < (n : Int) := by omega
              have cb : wr.cell? ⟨m + 1, 0, none⟩ = some (.slice (some ⟨m, 0, none⟩) n n) := by have := HV.out.mx.bx.c 0; rw [HN.out] at this; exact this
              have cr : wr.cell? ⟨m, f, none⟩ = some (.slice (some ⟨m + 2 + f, 0, none⟩) n n) := by have := HV.out.mx.row (i := f) (by rw [HN.out]; exact hfn); rw [HN.out] at this; exact this
              have ce := HV.out.mx.bit (i := f) (j := k) (by rw [HN.out]; exact hfn) (by rw [HN.out]; exact hkn)
              have hc := HM.out.at (i := k) (by rw [HL2.out]; exact hkn)
              have hf := HM.out.f k
              have HSK := hid (fun h => bi_skip HB.out h)
              have HTK := hid (fun h => bi_take HLB.out HB.out hfn HF.out hkn h)
              have HOK := hid (show lv out' k = -1 ∨ 0 ≤ lv out' k from by rcases HB.out.ok k hkn with h | h; exact .inl h; exact .inr (by rw [h]; exact (HLB.out.lo k hkn).1))
              have HNG := hid (fun h => ngs_set (out := out') (k := k) (x := (i : Int)) (by rw [HL2.out]; exact hkn) h (by omega))
              obtain ⟨bv, hbv⟩ : ∃ bv, nrm (egA p) f k = bv := ⟨_, rfl⟩
              rw [hbv] at ce HSK HTK
              cases bv with
              | false =>
               have HB2 := hid (HSK.out fun h => by cases h)
               clear hbv HSK HTK HNG HOK
               go_wp2_with fail
               exact ⟨⟨k + 1, td', out', by omega, by go_num, HV, HM, HQ, HB2, HF, HS⟩, by simp [intOf]; omega⟩
              | true =>
               by_cases h0 : 0 ≤ lv out' k
               ·have HB2 := hid (HSK.out fun _ => by omega)
                have h0' : ¬ (lv out' k < 0) := by omega
                generalize lv out' k = x at hc h0 h0'
                clear hbv HSK HTK HNG HOK
                go_wp2_with fail
                exact ⟨⟨k + 1, td', out', by omega, by go_num, HV, HM, HQ, HB2, HF, HS⟩, by simp [intOf]; omega⟩
               ·have hm1 : lv out' k = -1 := HOK.out.resolve_right h0
                have HB2 := hid (HTK.out rfl)
                have HN2 := hid (HNG.out hm1)
                rw [hm1] at hc
                have HM2 := hid (show Mine (wr.setCell ⟨g, k, none⟩ (.int .i64 i)) g (ints (out'.set k i)) by rw [← ints_set]; exact HM.out.set (by rw [ints_length, HL2.out]; exact hkn) _)
                have KS := (Kq.refl (fun k => k = g) wr).setCell (b := g) (o := k) (Or.inl rfl) (.int .i64 i)
                have HV2 := hid (HV.out.far (KS.wider fun k _ e => by rw [HN.out, e]; exact hg))
                have HQ2 := hid (HQ.out.kq KS (by omega))
                have hil : td'.length ≤ 1000 := by
                 have h5 := HS.out
                 have h6 := HTD.out
                 rw [List.length_cons] at h6
                 omega
                have HF2 := hid (show lv (out'.set k i) f = i by
                 rw [lv_set f (by rw [HL2.out]; exact hfn)]
                 split
                 ·rfl
                 ·exact HF.out)
                clear hbv HSK HTK HNG HOK h0 KS HV HM HQ
                go_upto_region 52 with fail
                generalize wr.setCell ⟨g, k, none⟩ (.int .i64 i) = W9 at *
                obtain ⟨v', w', hr, hq, hkq⟩ := HQ2.out.push (by rw [List.length_map]; exact hil) (k : Int)
                have HR := hid hr
                have HQ3 := hid (show Qu w' (g + 1) v' ((td' ++ [k]).map fun a : Nat => (a : Int)) by rw [List.map_append]; exact hq)
                have HV3 := hid (HV2.out.far (hkq.wider fun k _ e => by rw [HN.out]; omega))
                have HM3 := hid (HM2.out.kept hkq (by omega))
                clear hr hq hkq HQ2 HV2 HM2
                obtain ⟨b9, off9, cap9, hv9, -⟩ := HQ3.out
                subst hv9
                generalize ((td' ++ [k]).map fun a : Nat => (a : Int)).length = ln9 at *
                go_wp2_with (first | (at_builtin; refine wpList_appP rfl _ _ 22 rfl _ (.slice (some ⟨W9.heap.size, 0, none⟩) 1 1) (.slice (some ⟨b9, off9, none⟩) ln9 cap9) rfl rfl HR.out ?_))
                refine ⟨⟨k + 1, td' ++ [k], out'.set k i, by omega, by go_num, HV3, HM3, HQ3, HB2, HF2, hid ?_⟩, by simp [intOf]; omega⟩
                have h5 := HS.out
                have h6 := HN2.out
                rw [List.length_append]
                simp only [List.length_cons, List.length_nil]
                omega
       have hlt2 : (k : Int) < (n : Int) := by omega
       have hlt : k < p.tasks.length := by have := HE.out.lf.tasks; rw [HN.out] at this; omega
       have htl : (k : Int) < (p.tasks.length : Int) := by omega
       have hl : (p.tasks.length : Int) ≤ 1000 := by have := VA.out.f.tasks; omega
       have c3 : wr.cell? ⟨w.heap.size, 3, none⟩ = some (V 3) := range_cell (HV.out.va.below HV.out.be).r rfl
       obtain ⟨q3, b3, o3, k3, e3, hq3, hz3⟩ := (VA.out.below HV.out.be).v.tasks
       rw [e3] at c3
       obtain rfl := hq3 (by omega)
       have X0 := hid (hz3 k hlt)
       have HU := hid (upto_succ (egT p) k)
       have HC := hid (show ∀ c, egC p k c = if p.tasks[k] c = -1 then [] else [(k, (p.tasks[k] c).toNat)] from fun c => by unfold egC; rw [getD_z hlt])
       have HT := hid (show ∀ c, c = 11 ∨ c = 12 ∨ c = 13 ∨ c = 14 ∨ c = 17 → p.tasks[k] c = -1 ∨ ∃ g : Nat, g < n ∧ p.tasks[k] c = g from fun c hc => by have := HE.out.ta k (by rw [HN.out]; exact hkn) c hc; rwa [getD_z hlt, HN.out] at this)
       generalize p.tasks[k] = s at X0 HC HT
       have hgl : m + 2 + n ≤ wr.heap.size := by have := HV.out.top; rw [HN.out] at this; exact this
       clear e3 hq3 hz3
       have T5 := hid (there_new wr #[.int .i64 0, .int .i64 0, .int .i64 0, .int .i64 0, .int .i64 0, .int .i64 0, .int .i64 0, .int .i64 0, .int .i64 0, .int .i64 0, .int .i64 0, .int .i64 0, .int .i64 0, .int .i64 0, .int .i64 0, .int .i64 0, .int .i64 0, .int .i64 0, .int .i64 0, .int .i64 0] 61 wr.heap.size 20 rfl (by decide))
       have R5 := hid (World.rangeAt_setCells_same _ wr.heap.size 0 (cf 20 s) (by rw [cf_len]; exact T5.out))
       have B5 := hid (below_setCells (bal (Below.refl wr.heap.size wr) (.cells #[.int .i64 0, .int .i64 0, .int .i64 0, .int .i64 0, .int .i64 0, .int .i64 0, .int .i64 0, .int .i64 0, .int .i64 0, .int .i64 0, .int .i64 0, .int .i64 0, .int .i64 0, .int .i64 0, .int .i64 0, .int .i64 0, .int .i64 0, .int .i64 0, .int .i64 0, .int .i64 0] 61)) (Nat.le_refl _) (cf 20 s) 0)
       have T6 := hid (show (wr.alloc (.cells #[.int .i64 0, .int .i64 0, .int .i64 0, .int .i64 0, .int .i64 0, .int .i64 0, .int .i64 0, .int .i64 0, .int .i64 0, .int .i64 0, .int .i64 0, .int .i64 0, .int .i64 0, .int .i64 0, .int .i64 0, .int .i64 0, .int .i64 0, .int .i64 0, .int .i64 0, .int .i64 0] 61)).there wr.heap.size 0 (cf 20 s).toArray.size by rw [show (cf 20 s).toArray.size = 20 by simp [cf_len]]; exact T5.out)
       have I7 := hid (show (Tryz.prog.info? 61).map (·.size) = some (cf 20 s).length by rw [cf_len]; exact info20)
       have J7 := hid (show (Tryz.prog.info? 61).map (·.size) = some (cf 20 s).toArray.size by rw [List.size_toArray]; exact I7.out)
       have B6 := hid (show wr.heap.size < ((wr.alloc (.cells #[.int .i64 0, .int .i64 0, .int .i64 0, .int .i64 0, .int .i64 0, .int .i64 0, .int .i64 0, .int .i64 0, .int .i64 0, .int .i64 0, .int .i64 0, .int .i64 0, .int .i64 0, .int .i64 0, .int .i64 0, .int .i64 0, .int .i64 0, .int .i64 0, .int .i64 0, .int .i64 0] 61)).setCells wr.heap.size 0 (cf 20 s)).heap.size from World.block_lt_of_cell? _ _ (R5.out 0 _ (cf_at 20 s 0 (by omega))))
       go_wp2_with (first
        | ((with_reducible (show wpList _ _ _ (⟨_, Op.store 61 _ _, _, _, _, _⟩ :: _) _ _)); refine wpList_store_mid rfl 61 _ _ rfl wr.heap.size 0 (cf 20 s).toArray rfl rfl T6.out J7.out (all_oneCell_toArray (cf_one 20 s)) ?_; (generalize hW5 : World.setCells _ _ _ _ = W5 at R5 B5 B6 ⊢); clear hW5; have VG := hid (HV.out.next B5.out); have BX := hid (⟨R5.out, B6.out⟩ : Bx W5 wr.heap.size 20 s); (generalize wr.heap.size = bx at *); have x11 := BX.out.at 11 (by omega))
        | ((with_reducible (show wpList _ _ _ (⟨_, Op.load 61 _, _, _, _, _⟩ :: _) _ _)); refine wpList_load_mid rfl 61 _ rfl b3 (o3 + k * 20) rfl (cf 20 s) _ X0.out Tryz.underlying61 rfl I7.out ?_))
       clear x11 T5 T6 I7 J7 X0 HV c3 R5 B5 B6
       have HV := VG
       have HX := BX
       clear VG BX
       have HJ := hid (joinRef_x m p.kinds.length k (s 11) _ _ HV.out.mx (by rw [HN.out]; omega) (by rw [HN.out]; exact hkn) (by rw [HN.out]; exact HT.out 11 (by simp)))
       refine HJ.out.mono ?_
       rintro r w11 ⟨rfl, hmi, hkq⟩
       replace HV := hid (HV.out.more hmi hkq)
       replace HX := hid (HX.out.kq hkq (by rw [HN.out]; omega))
       clear hmi hkq HJ
       have x12 := HX.out.at 12 (by omega)
       have HJ := hid (joinRef_x m p.kinds.length k (s 12) _ _ HV.out.mx (by rw [HN.out]; omega) (by rw [HN.out]; exact hkn) (by rw [HN.out]; exact HT.out 12 (by simp)))
       go_wp2_with fail
       refine HJ.out.mono ?_
       rintro r w12 ⟨rfl, hmi, hkq⟩
       replace HV := hid (HV.out.more hmi hkq)
       replace HX := hid (HX.out.kq hkq (by rw [HN.out]; omega))
       clear hmi hkq HJ x12
       have x13 := HX.out.at 13 (by omega)
       have HJ := hid (joinRef_x m p.kinds.length k (s 13) _ _ HV.out.mx (by rw [HN.out]; omega) (by rw [HN.out]; exact hkn) (by rw [HN.out]; exact HT.out 13 (by simp)))
       go_wp2_with fail
       refine HJ.out.mono ?_
       rintro r w13 ⟨rfl, hmi, hkq⟩
       replace HV := hid (HV.out.more hmi hkq)
       replace HX := hid (HX.out.kq hkq (by rw [HN.out]; omega))
       clear hmi hkq HJ x13
       have x14 := HX.out.at 14 (by omega)
       have HJ := hid (joinRef_x m p.kinds.length k (s 14) _ _ HV.out.mx (by rw [HN.out]; omega) (by rw [HN.out]; exact hkn) (by rw [HN.out]; exact HT.out 14 (by simp)))
       go_wp2_with fail
       refine HJ.out.mono ?_
       rintro r w14 ⟨rfl, hmi, hkq⟩
       replace HV := hid (HV.out.more hmi hkq)
       replace HX := hid (HX.out.kq hkq (by rw [HN.out]; omega))
       clear hmi hkq HJ x14
       have x17 := HX.out.at 17 (by omega)
       have HJ := hid (joinRef_x m p.kinds.length k (s 17) _ _ HV.out.mx (by rw [HN.out]; omega) (by rw [HN.out]; exact hkn) (by rw [HN.out]; exact HT.out 17 (by simp)))
       go_wp2_with fail
       refine HJ.out.mono ?_
       rintro r w17 ⟨rfl, hmi, hkq⟩
       replace HV := hid (HV.out.more hmi hkq)
       replace HX := hid (HX.out.kq hkq (by rw [HN.out]; omega))
       clear hmi hkq HJ x17
       go_wp2_with fail
       refine ⟨⟨k + 1, by omega, by go_num, hid ?_⟩, by simp [intOf]; omega⟩
       rw [HU.out]
       unfold egT
       rw [HC.out 11, HC.out 12, HC.out 13, HC.out 14, HC.out 17]
       simp only [← List.append_assoc]
       exact HV.out
     have hlt2 : (k : Int) < (p.ram.length : Int) := by omega
     obtain ⟨f, hf⟩ : ∃ f : Nat, k / 16 = f := ⟨_, rfl⟩
     have hf2 : (k : Int) / 16 = (f : Int) := by omega
     have hfn : f < n := by have := HRL.out; omega
     have hfk : f < p.kinds.length := by rw [HN.out]; exact hfn
     have hfn2 : (f : Int) < (p.kinds.length : Int) := by omega
     obtain rfl := hq0 (by omega)
     obtain rfl := hq1 (by omega)
     have cx := hz0 k hlt
     have ck := hz1 f hfk
     have HU := hid (upto_succ (egR p) k)
     have HG := hid (show egR p k = if (p.kinds[f] = 3 ∨ p.kinds[f] = 4) ∧ p.ram[k] ≠ 0 then [(f, p.ram[k].toNat % 1024)] else [] by unfold egR; rw [hf, getD_i hfk, getD_i hlt])
     have HX := hid (show p.kinds[f] = 3 ∨ p.kinds[f] = 4 → p.ram[k] = 0 ∨ ∃ g : Nat, g < n ∧ (p.ram[k] = 32768 + g ∨ p.ram[k] = 49152 + g) from fun h => by have := HE.out.ra k hlt; rw [hf, getD_i hfk, getD_i hlt, HN.out] at this; exact this h)
     generalize p.ram[k] = x at cx HG HX
     generalize p.kinds[f] = kd at ck HG HX
     clear hz0 hq0 hz1 hq1 hf
     by_cases hx : x = 0
     ·subst hx
      rw [if_neg fun h => h.2 rfl] at HG
      clear HX
      go_wp2_with fail
      exact ⟨⟨k + 1, by omega, by go_num, hid (by rw [HU.out, HG.out, List.append_nil]; exact HV.out)⟩, by simp [intOf]; omega⟩
     have hxb : (x != 0) = true := by simpa using hx
     by_cases h34 : kd = 3 ∨ kd = 4
     rotate_left
     ·have h3 : (kd == 3) = false := by simp; omega
      have h4 : (kd == 4) = false := by simp; omega
      rw [if_neg fun h => h34 h.1] at HG
      clear HX h34 hx
      go_wp2_with fail
      exact ⟨⟨k + 1, by omega, by go_num, hid (by rw [HU.out, HG.out, List.append_nil]; exact HV.out)⟩, by simp [intOf]; omega⟩
     obtain ⟨g, hg, hxg⟩ := (HX.out h34).resolve_left hx
     rw [if_pos ⟨h34, hx⟩, show x.toNat % 1024 = g by omega] at HG
     have hm1 : x % 1024 = (g : Int) := by omega
     have hm2 : Int.tmod x 1024 = (g : Int) := by rw [Int.tmod_eq_emod_of_nonneg (by omega)]; exact hm1
     have HJ := hid (joinRef_any m p.kinds.length f g _ wr HV.out.mx (by rw [HN.out]; omega) hfk (by rw [HN.out]; exact hg))
     clear HX hx hxg
     rcases h34 with rfl | rfl
     all_goals
      go_wp2_with fail
      refine HJ.out.mono ?_
      rintro r w2 ⟨rfl, hmi, hkq⟩
      have V2 := hid (HV.out.one hmi hkq)
      clear hmi hkq HJ cx ck c0 c1
      go_wp2_with fail
      refine ⟨⟨k + 1, by omega, by go_num, hid ?_⟩, by simp [intOf]; omega⟩
      rw [HU.out, HG.out, ← List.append_assoc]
      exact V2.out
   have hlt2 : (k : Int) < (p.slots.length : Int) := by omega
   obtain rfl := hq2 (by omega)
   have X0 := hid (hz2 k hlt)
   have HS := hid (show egS p k = ((List.range (p.slots[k] 2).toNat).map fun i => (k / 16, (p.slots[k] 1).toNat + i)) ++ if p.slots[k] 6 = -1 then [] else [(k / 16, (p.slots[k] 6).toNat / 16)] by unfold egS; rw [getD_z hlt])
   have HU := hid (upto_succ (egS p) k)
   have HL := hid (show 0 ≤ p.slots[k] 1 ∧ 0 ≤ p.slots[k] 2 ∧ p.slots[k] 1 + p.slots[k] 2 ≤ (n : Int) ∧ -1 ≤ p.slots[k] 6 ∧ p.slots[k] 6 < (n : Int) * 16 by have := HE.out.sl k hlt; rw [getD_z hlt, HN.out] at this; exact this)
   generalize p.slots[k] = s at X0 HS HL
   have T5 := hid (there_new wr #[.int .i64 0, .int .i64 0, .int .i64 0, .int .i64 0, .int .i64 0, .int .i64 0, .int .i64 0] 58 wr.heap.size 7 rfl (by decide))
   have R5 := hid (World.rangeAt_setCells_same _ wr.heap.size 0 (cf 7 s) (by rw [cf_len]; exact T5.out))
   have B5 := hid (below_setCells (bal (Below.refl wr.heap.size wr) (.cells #[.int .i64 0, .int .i64 0, .int .i64 0, .int .i64 0, .int .i64 0, .int .i64 0, .int .i64 0] 58)) (Nat.le_refl _) (cf 7 s) 0)
   have T6 := hid (show (wr.alloc (.cells #[.int .i64 0, .int .i64 0, .int .i64 0, .int .i64 0, .int .i64 0, .int .i64 0, .int .i64 0] 58)).there wr.heap.size 0 (cf 7 s).toArray.size by rw [show (cf 7 s).toArray.size = 7 by simp [cf_len]]; exact T5.out)
   have I7 := hid (show (Tryz.prog.info? 58).map (·.size) = some (cf 7 s).length by rw [cf_len]; exact info7)
   have J7 := hid (show (Tryz.prog.info? 58).map (·.size) = some (cf 7 s).toArray.size by rw [List.size_toArray]; exact I7.out)
   have B6 := hid (show wr.heap.size < ((wr.alloc (.cells #[.int .i64 0, .int .i64 0, .int .i64 0, .int .i64 0, .int .i64 0, .int .i64 0, .int .i64 0] 58)).setCells wr.heap.size 0 (cf 7 s)).heap.size from World.block_lt_of_cell? _ _ (R5.out 0 _ (cf_at 7 s 0 (by omega))))
   have hgl : m + 2 + n ≤ wr.heap.size := by
    rcases Nat.eq_zero_or_pos n with h0 | h0
    ·have := HV.out.mx.bx.lt; omega
    ·have := (HV.out.mx.bits (n - 1) (by rw [HN.out]; omega)).lt; omega
   obtain ⟨f, hf⟩ : ∃ f : Nat, k / 16 = f := ⟨_, rfl⟩
   have hf2 : (k : Int) / 16 = (f : Int) := by omega
   have hfn : f < n := by have := HE.out.lf.slots; rw [HN.out] at this; omega
   obtain ⟨ln, hln⟩ : ∃ ln : Nat, s 2 = ln := ⟨(s 2).toNat, by have := HL.out; omega⟩
   obtain ⟨bs, hbs⟩ : ∃ bs : Nat, s 1 = bs := ⟨(s 1).toNat, by have := HL.out; omega⟩
   rw [hf, hln, hbs, Int.toNat_natCast, Int.toNat_natCast] at HS
   have HLN := hid hln
   have HBS := hid hbs
   have hle : bs + ln ≤ n := by have := HL.out; omega
   clear hln hbs hf hz2 hq2
   go_wp2_with (first
    | ((with_reducible (show wpList _ _ _ (⟨_, Op.store 58 _ _, _, _, _, _⟩ :: _) _ _)); refine wpList_store_mid rfl 58 _ _ rfl wr.heap.size 0 (cf 7 s).toArray rfl rfl T6.out J7.out (all_oneCell_toArray (cf_one 7 s)) ?_; (generalize hW5 : World.setCells _ _ _ _ = W5 at R5 B5 B6 ⊢); clear hW5; have VG := hid (HV.out.next B5.out); have BX := hid (⟨R5.out, B6.out⟩ : Bx W5 wr.heap.size 7 s))
    | ((with_reducible (show wpList _ _ _ (⟨_, Op.load 58 _, _, _, _, _⟩ :: _) _ _)); refine wpList_load_mid rfl 58 _ rfl b2 (o2 + k * 7) rfl (cf 7 s) _ X0.out Tryz.underlying58 rfl I7.out ?_))
   clear T5 R5 B5 T6 I7 J7 B6 X0 HV c2
   generalize wr.heap.size = bx at *
   go_loopw [9] (fun i wx => ∃ j : Nat, j ≤ ln ∧ i = .int .i64 j ∧ Hid (Vm W0 w.heap.size V p m (upto (egS p) k ++ (List.range j).map fun i => (f, bs + i)) wx) ∧ Hid (Bx wx bx 7 s)) (fun i _ => ln - (intOf i).toNat)
   case atStart => exact ⟨0, by omega, rfl, hid (by simpa using VG.out), BX⟩
   case round =>
    obtain ⟨j, hj, rfl, HV, HX⟩ := hrel
    have x6 := HX.out.at 6 (by omega)
    have x2 := HX.out.at 2 (by omega)
    have x1 := HX.out.at 1 (by omega)
    rw [HBS.out] at x1
    rw [HLN.out] at x2
    by_cases hjl : j < ln
    ·have hjl2 : (j : Int) < (ln : Int) := by omega
     have HJ := hid (joinRef_any m p.kinds.length f (bs + j) _ wr HV.out.mx (by rw [HN.out]; omega) (by rw [HN.out]; exact hfn) (by rw [HN.out]; omega))
     rw [Int.natCast_add] at HJ
     go_wp2_with fail
     refine HJ.out.mono ?_
     rintro r w2 ⟨rfl, hmi, hkq⟩
     have V2 := hid (HV.out.one hmi hkq)
     have X2 := hid (HX.out.kq hkq (by rw [HN.out]; omega))
     clear hmi hkq HJ x1 x6 x2
     go_wp2_with fail
     refine ⟨⟨j + 1, by omega, by go_num, hid ?_, X2⟩, by simp [intOf]; omega⟩
     rw [List.range_succ, List.map_append, ← List.append_assoc]
     exact V2.out
    ·obtain rfl : ln = j := by omega
     have hge : ¬ ((ln : Int) < (ln : Int)) := by omega
     by_cases h6 : s 6 = -1
     ·have HS2 := hid (show upto (egS p) (k + 1) = upto (egS p) k ++ (List.range ln).map fun i => (f, bs + i) by rw [HU.out, HS.out, if_pos h6, List.append_nil])
      rw [h6] at x6
      clear h6 x1
      go_wp2_with fail
      exact ⟨⟨k + 1, by omega, by go_num, hid (by rw [HS2.out]; exact HV.out)⟩, by simp [intOf]; omega⟩
     ·obtain ⟨f6, hf6⟩ : ∃ f : Nat, s 6 = f := ⟨(s 6).toNat, by have := HL.out; omega⟩
      obtain ⟨d6, hd6⟩ : ∃ d : Nat, f6 / 16 = d := ⟨_, rfl⟩
      have HS2 := hid (show upto (egS p) (k + 1) = upto (egS p) k ++ ((List.range ln).map (fun i => (f, bs + i)) ++ [(f, d6)]) by rw [HU.out, HS.out, if_neg h6, hf6, Int.toNat_natCast, hd6])
      have hdn : d6 < n := by have := HL.out; omega
      have hd2 : (f6 : Int) / 16 = (d6 : Int) := by omega
      rw [hf6] at x6
      have hn6 : (0 : Int) ≤ (f6 : Int) := by omega
      have HJ := hid (joinRef_any m p.kinds.length f d6 _ wr HV.out.mx (by rw [HN.out]; omega) (by rw [HN.out]; exact hfn) (by rw [HN.out]; exact hdn))
      clear h6 x1 hf6 hd6
      go_wp2_with fail
      refine HJ.out.mono ?_
      rintro r w2 ⟨rfl, hmi, hkq⟩
      have V2 := hid (HV.out.one hmi hkq)
      clear hmi hkq HJ x6 x2
      go_wp2_with fail
      refine ⟨⟨k + 1, by omega, by go_num, hid ?_⟩, by simp [intOf]; omega⟩
      rw [HS2.out, ← List.append_assoc]
      exact V2.out
end Go.Proofs.YtacpjedncjpmpaaGreatDoor.Wd
