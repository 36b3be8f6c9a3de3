/- The pieces of keyholdref.NewWorld. -/
import Derived.Test.YtfpkbfhaipgibaaDoorWdTy
import Derived.Test.YtfpkbfhaipgibaaDoorWdNewNo
namespace Go.Proofs.YtfpkbfhaipgibaaDoor.Wd
open Go.RowKit Go.Proofs.YtfpkbfhaipgibaaDoor.Mem Go.Proofs.YtfpkbfhaipgibaaDoor.Bw Go.Proofs.YtfpkbfhaipgibaaDoor.Nums Go.Proofs.YtfpkbfhaipgibaaDoor.Mmu

/-- A new world ahead of its slots, tasks and cores. -/
def midP (f c : Nat) (zs : List Int) : PW := { newP f c zs with slots := [], tasks := [], cores := [] }
/-- What each operation of the making leaves. -/
def nwRel (L f c : Nat) (zs : List Int) (dv : Value) : Nat → Value → World → Prop
  | 0, v, _ => v = .int .i64 f
  | 1, v, _ => v = .int .i64 ((f * 16 : Nat) : Int)
  | 2, v, w => IntsFrom GT w v (List.replicate (f * 16) 0)
  | 3, v, _ => v = .int .i64 f
  | 4, v, w => IntsFrom GT w v (List.replicate f 0)
  | 5, v, _ => v = .int .i64 f
  | 6, v, w => IntsFrom GT w v (List.replicate f 0)
  | 7, v, _ => v = .int .i64 f
  | 8, v, w => ListsFrom GT w v (List.replicate f [])
  | 9, v, _ => v = .int .i64 c
  | 10, v, _ => v = .int .i64 ((c * 4 : Nat) : Int)
  | 11, v, w => ListsFrom GT w v (List.replicate (c * 4) [])
  | 12, v, _ => v = .int .i64 c
  | 13, v, w => TlbsFrom GT w v (List.replicate c [])
  | 14, v, _ => ∃ b, v = .slice (some ⟨b, 0, none⟩) 0 0
  | 15, v, _ => v = dv
  | 16, v, w => IntsFrom GT w v zs
  | 17, v, w => ∃ V, v = .agg (arr11 V) ∧ WorldF GT w V (midP f c zs) ∧ (V 2 = .slice none 0 0 ∧ V 3 = .slice none 0 0 ∧ V 6 = .slice none 0 0) ∧ ∀ k, (V k).oneCell' = true
  | 18, v, w => ∃ b, v = .pointer (some ⟨b, 0, none⟩) ∧ L ≤ b ∧ w.there b 0 11 ∧ tyOf w b = some 68
  | _, _, _ => True
theorem nwRel_mono (L f c : Nat) (zs : List Int) (dv : Value) : ∀ i v w w', Below w.heap.size w w' → nwRel L f c zs dv i v w → nwRel L f c zs dv i v w' := by
  intro i v w w' hb h
  match i, h with
  | 0, h => exact h
  | 1, h => exact h
  | 2, h => exact h.keep (keepsT_below hb)
  | 3, h => exact h
  | 4, h => exact h.keep (keepsT_below hb)
  | 5, h => exact h
  | 6, h => exact h.keep (keepsT_below hb)
  | 7, h => exact h
  | 8, h => exact h.keep (keepsT_below hb)
  | 9, h => exact h
  | 10, h => exact h
  | 11, h => exact h.keep (keepsT_below hb)
  | 12, h => exact h
  | 13, h => exact h.keep (keepsT_below hb)
  | 14, h => exact h
  | 15, h => exact h
  | 16, h => exact h.keep (keepsT_below hb)
  | 17, h => exact by obtain ⟨V, h1, h2, h3, h4⟩ := h; exact ⟨V, h1, h2.keep (keepsT_below hb), h3, h4⟩
  | 18, h => exact by obtain ⟨b, h1, h2, h3, h4⟩ := h; exact ⟨b, h1, h2, there_belowO h3 hb, (ty_below hb (ty_lt h4)).trans h4⟩
  | _ + 19, _ => trivial
theorem rep_snoc (k : Nat) (c : List Value) : rep k c ++ c = rep (k + 1) c := by
  unfold rep
  rw [List.replicate_succ', List.flatten_append]
  simp
theorem list_new (W : World) (l : List Value) (arr : Array Value) (e : TypeId) (ha : arr = l.toArray) : ∀ (j : Nat) (x : Value), l[j]? = some x → (W.alloc (.cells arr e)).cell? ((⟨W.heap.size, 0, none⟩ : Addr).add j) = some x := by
  intro j x h
  subst ha
  rw [Addr.add_mid, Nat.zero_add, World.cell?_alloc_at _ _ _ _ rfl]
  simpa using h
theorem own_form {B e size n : Nat} {w : World} {v : Value} {xs : List Value} (h : w.ownsRow B e size v n xs) : ∃ q c, v = .slice q n c := by
  rcases h.2 with ⟨rfl, rfl⟩ | ⟨g, cap, cur, rfl, _⟩
  · exact ⟨none, 0, rfl⟩
  · exact ⟨_, cap, rfl⟩
theorem own_rowsF {G : World → Nat → Prop} {n N E B : Nat} {w : World} {v : Value} {f : Nat → Int} (hn : 0 < n) (h : w.ownsRow B E n v N (rep N (cf n f))) (hG : ∀ g cur, B ≤ g → w.heap[g]? = some (.cells cur E (0, 0)) → G w g) : RowsFrom G n w v (List.replicate N f) := by
  rcases h.2 with ⟨rfl, h1⟩ | ⟨g, cap, cur, rfl, h1, h2, _⟩
  · subst h1
    exact ⟨none, 0, 0, 0, rfl, fun e => by simp at e, fun j hj => by simp at hj, hn⟩
  · refine ⟨some ⟨g, 0, none⟩, g, 0, cap, by rw [List.length_replicate], fun _ => ⟨rfl, hG g cur h1 h2⟩, fun j hj i u hu => ?_, hn⟩
    rw [List.length_replicate] at hj
    rw [List.getElem_replicate] at hu
    have hi : i < n := by have := (List.getElem?_eq_some_iff.1 hu).1; rwa [cf_len] at this
    have hj2 : j * n + i < N * n := by
      have h5 : (j + 1) * n ≤ N * n := Nat.mul_le_mul_right _ hj
      rw [Nat.succ_mul] at h5
      omega
    rw [Nat.zero_add, h.cellAt (j * n + i) hj2]
    have := rep_at N (cf n f) j i hj (by rw [cf_len]; exact hi)
    rw [cf_len] at this
    rw [this]
    exact hu
theorem own_repF {G : World → Nat → Prop} {N B : Nat} {w : World} {v : Value} {z : Int} (h : w.ownsRow B 3 1 v N (rep N [.int .i64 z])) (hG : ∀ g cur, B ≤ g → w.heap[g]? = some (.cells cur 3 (0, 0)) → G w g) : IntsFrom G w v (List.replicate N z) := by
  rcases h.2 with ⟨rfl, h1⟩ | ⟨g, cap, cur, rfl, h1, h2, _⟩
  · subst h1
    exact ⟨none, 0, 0, 0, rfl, fun e => by simp at e, fun j hj => by simp at hj⟩
  · refine ⟨some ⟨g, 0, none⟩, g, 0, cap, by rw [List.length_replicate], fun _ => ⟨rfl, hG g cur h1 h2⟩, fun j hj => ?_⟩
    rw [List.length_replicate] at hj
    have := rep_at N [.int .i64 z] j 0 hj (by simp)
    simp only [List.length_singleton, Nat.mul_one, Nat.add_zero] at this
    rw [List.getElem_replicate, Nat.zero_add, h.cellAt j (by omega), this]
    rfl
/-- A world's own block while its lists grow. -/
structure NW (W : World) (b : Nat) (V : Nat → Value) (x2 x3 x6 : Value) (wr : World) : Prop where
  kp : Kp (fun k => k = b) W wr
  lt : b < W.heap.size
  r : wr.rangeAt b 0 [V 0, V 1, x2, x3, V 4, V 5, x6, V 7, V 8, V 9, V 10]
  t : wr.there b 0 11
  ty : tyOf wr b = some 68
theorem NW.below {W wr wr' : World} {b : Nat} {V : Nat → Value} {x2 x3 x6 : Value} (h : NW W b V x2 x3 x6 wr) (hb : Below wr.heap.size wr wr') : NW W b V x2 x3 x6 wr' :=
  ⟨h.kp.trans (.of_below hb), h.lt, range_below h.r hb, there_belowO h.t hb, (ty_below hb (ty_lt h.ty)).trans h.ty⟩
theorem NW.grown {W wr wr' : World} {b : Nat} {V : Nat → Value} {x2 x3 x6 : Value} {row : Option Nat} (h : NW W b V x2 x3 x6 wr) (hg : wr.grownBy wr' row) (hr : ∀ k, row = some k → W.heap.size ≤ k) : NW W b V x2 x3 x6 wr' := by
  have hbl : wr'.heap[b]? = wr.heap[b]? := hg.block b (Nat.lt_of_lt_of_le h.lt h.kp.size) (fun e => by have := hr b e.symm; have := h.lt; omega)
  refine ⟨Kp.grown h.kp hg (fun k hk => .inr (hr k hk)), h.lt, fun j v hv => ?_, fun j hj => ?_, (ty_block hbl).trans h.ty⟩
  · rw [World.cell?_of_block (w := wr) (a := ⟨b, 0 + j, none⟩) hbl]
    exact h.r j v hv
  · rw [World.cell?_of_block (w := wr) (a := ⟨b, 0 + j, none⟩) hbl, World.frozen?_of_block (w := wr) (a := ⟨b, 0 + j, none⟩) hbl]
    exact h.t j hj
theorem NW.set2 {W wr : World} {b : Nat} {V : Nat → Value} {x2 x3 x6 : Value} (h : NW W b V x2 x3 x6 wr) (v : Value) : NW W b V v x3 x6 (wr.setCell ⟨b, 2, none⟩ v) := ⟨h.kp.setCell (.inl rfl) v, h.lt, range_set h.r (by simp) v, there_set h.t _ v, (ty_setCell _ _ _ _).trans h.ty⟩
theorem NW.set3 {W wr : World} {b : Nat} {V : Nat → Value} {x2 x3 x6 : Value} (h : NW W b V x2 x3 x6 wr) (v : Value) : NW W b V x2 v x6 (wr.setCell ⟨b, 3, none⟩ v) := ⟨h.kp.setCell (.inl rfl) v, h.lt, range_set h.r (by simp) v, there_set h.t _ v, (ty_setCell _ _ _ _).trans h.ty⟩
theorem NW.set6 {W wr : World} {b : Nat} {V : Nat → Value} {x2 x3 x6 : Value} (h : NW W b V x2 x3 x6 wr) (v : Value) : NW W b V x2 x3 v (wr.setCell ⟨b, 6, none⟩ v) := ⟨h.kp.setCell (.inl rfl) v, h.lt, range_set h.r (by simp) v, there_set h.t _ v, (ty_setCell _ _ _ _).trans h.ty⟩
theorem NW.again {W wr : World} {b : Nat} {V : Nat → Value} {x2 x3 x6 : Value} (h : NW W b V x2 x3 x6 wr) : NW wr b V x2 x3 x6 wr := ⟨Kp.refl _ _, Nat.lt_of_lt_of_le h.lt h.kp.size, h.r, h.t, h.ty⟩
theorem blank_refL (w : World) : Calls Tryd.prog 56 #[] w fun e w' => e = .returned (.agg #[.int .i64 0, .int .i64 0, .int .i64 0, .int .i64 0, .int .i64 0, .int .i64 0, .int .i64 0, .int .i64 0, .int .i64 0, .int .i64 0, .int .i64 0, .int .i64 (-1), .int .i64 (-1), .int .i64 (-1), .int .i64 (-1), .int .i64 0, .int .i64 0, .int .i64 (-1), .int .i64 0, .int .i64 0]) ∧ Below w.heap.size w w' := blank_ref w
theorem step_append_ownW {P : Program} {ops : Array Oper} {o : Oper} {a : Act} {w : World} {K : Act → World → Prop} {Q : Exit → Act → World → Prop} {E : Prop}
    (hg : o.guard = none) (s x : Operand) (t : TypeId) (hop : o.op = Op.call { callee := Callee.builtin Builtin.append, args := #[s, x], argTypes := #[t, t] })
    (B : Nat) (e : TypeId) (i : TypeInfo) (z : Value) (size bytes : Nat) (h1 : P.underlying t = some (.slice e)) (h2 : P.info? e = some i) (h3 : i.zero = some z) (h4 : i.size = size) (h5 : i.bytes = bytes) (h6 : z.cells.size = size) (h7 : 0 < size)
    (v : Value) (n : Nat) (xs : List Value) (hs : a.eval s = v) (hown : w.ownsRow B e size v n xs)
    (ad : Addr) (m c : Nat) (news : List Value) (hx : a.eval x = .slice (some ad) m c) (hn : news.length = m * size) (hc : ∀ j u, news[j]? = some u → w.cell? (ad.add j) = some u) (h1c : ∀ u ∈ news, u.oneCell' = true)
    (b1 : n + m ≤ maxLen) (b2 : (n + m) * bytes ≤ 140737488355328) (hB : B ≤ w.heap.size)
    (hK : ∀ v' w', w'.ownsRow B e size v' (n + m) (xs ++ news) → w.grownBy w' v.ownBlock → K (a.put o.dst v') w') :
    if Region.wanted o (yielded ops a.tmps) = true then Oper.wp P o a w K Q else E := by
  have hw : Region.wanted o (yielded ops a.tmps) = true := by simp [Region.wanted, hg]
  rw [if_pos hw]
  obtain ⟨v', w', hrun, r1, r2, _⟩ := run_append_own (P := P) w B t o.type e i z size bytes h1 h2 h3 h4 h5 h6 h7 v n xs hown ad m c news hn hc h1c b1 b2 hB
  unfold Oper.wp
  simp [execOp, hop, resolve, invoke, builtin, hs, hx, hrun, Result.andThen]
  exact hK v' w' r1 r2
theorem err_anyW (n : Int) (w : World) :
    Calls Tryd.prog 15 #[.int .i64 n] w fun e w' => e = .returned (.agg #[.int .i64 n, .int .i64 (-1)]) ∧ Below w.heap.size w w' := by
  go_enter Tryd.func15, Tryd.ntmps15
  go_wp2
  refine bodyPost_ret (v := .agg #[.int .i64 n, .int .i64 (-1)]) (by simp [results, Tryd.results15, go_sem]) rfl ⟨rfl, ?_⟩
  exact bal (Below.refl _ _) _
theorem infoBad : (Tryd.prog.info? 25).map (·.size) = some 2 := by kernel_rfl
theorem bOne : (#[.int .i64 0, .int .i64 (-1)] : Array Value).all (·.oneCell') = true := by simp [Value.oneCell']
theorem results_cc {fn : Func} {p u : Tmp} {ty tz : TypeId} (h : fn.results = #[.cell p ty, .cell u tz]) {tmps : Array Value} {P : Program} {w : World} {b b2 : Nat} {x y : Value} (hp : tmps.getD p undef = .pointer (some ⟨b, 0, none⟩)) (hl : (loadVar ty ⟨b, 0, none⟩).run P w = .ok x w) (hu : tmps.getD u undef = .pointer (some ⟨b2, 0, none⟩)) (hl2 : (loadVar tz ⟨b2, 0, none⟩).run P w = .ok y w) :
    (results fn tmps).run P w = .ok (.tuple #[x, y]) w := by
  rw [Array.getD_eq_getD_getElem?] at hp hu
  simp only [results, h]
  simp [Result.andThen, asAddr, hp, hu, hl, hl2]
theorem fine_any (w : World) : Calls Tryd.prog 40 #[] w fun e w' => e = .returned (.agg #[.int .i64 0, .int .i64 (-1)]) ∧ Below w.heap.size w w' := by
  go_enter Tryd.func40, Tryd.ntmps40
  go_wp2
  refine bodyPost_ret (v := .agg #[.int .i64 0, .int .i64 (-1)]) (by simp [results, Tryd.results40, go_sem]) rfl ⟨rfl, ?_⟩
  exact bal (Below.refl _ _) _
end Go.Proofs.YtfpkbfhaipgibaaDoor.Wd
