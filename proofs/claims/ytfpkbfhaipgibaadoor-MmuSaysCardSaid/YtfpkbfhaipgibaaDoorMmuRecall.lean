/- mmu.recall walked. -/
import Derived.Test.YtfpkbfhaipgibaaDoorMmuFilled
import Derived.Test.YtfpkbfhaipgibaaDoorMmuWalk2
namespace Go.Proofs.YtfpkbfhaipgibaaDoor.Mmu
open Go.RowKit Go.Proofs.YtfpkbfhaipgibaaDoor.Mem Go.Proofs.YtfpkbfhaipgibaaDoor.Bw Go.Proofs.YtfpkbfhaipgibaaDoor.Nums

def entV (e : Ent) : Value := .agg #[.int .i64 e.1, .int .i64 e.2.1, .int .i64 e.2.2.1, .bool e.2.2.2]
/-- A block of four cells that can be written. -/
def Cell4 (w : World) (B : Nat) (a b c d : Value) : Prop := (∀ o, w.cell? ⟨B, o, none⟩ = (#[a, b, c, d] : Array Value)[o]?) ∧ ∀ k, k < 4 → w.frozen? ⟨B, k, none⟩ = false
theorem Cell4.lt {w : World} {B : Nat} {a b c d : Value} (h : Cell4 w B a b c d) : B < w.heap.size := World.block_lt_of_cell? w ⟨B, 0, none⟩ (h.1 0)
theorem Cell4.below {w w' : World} {B : Nat} {a b c d : Value} (h : Cell4 w B a b c d) (hb : Below w.heap.size w w') : Cell4 w' B a b c d :=
  ⟨cells_next h.1 h.lt hb, fun k hk => (hb.frozen (p := ⟨B, k, none⟩) h.lt).trans (h.2 k hk)⟩
def recR (zs : List Int) (l : List Ent) (s a : Int) : Ent × List Ent × Int :=
  if (findR l s (a / 16)).2 = true then ((findR l s (a / 16)).1, l, 0)
  else if (walkR zs s a).2.2 = 0 then ((s, a / 16, (walkR zs s a).1, (walkR zs s a).2.1), fillR l (s, a / 16, (walkR zs s a).1, (walkR zs s a).2.1), 0)
  else ((0, 0, 0, false), [], (walkR zs s a).2.2)
theorem tlb_nil (w : World) : TlbIn w (.slice none 0 0) [] := ⟨none, 0, 0, 0, rfl, fun e => by simp at e, fun j hj => by simp at hj, by simp⟩
theorem four_far {W : World} {B C : Nat} {v0 v1 v2 v3 a b c d : Value} (hne : B ≠ C) (h : W.cell? ⟨C, 0, none⟩ = some a ∧ W.cell? ⟨C, 1, none⟩ = some b ∧ W.cell? ⟨C, 2, none⟩ = some c ∧ W.cell? ⟨C, 3, none⟩ = some d) :
    ((((W.setCell ⟨B, 0, none⟩ v0).setCell ⟨B, 1, none⟩ v1).setCell ⟨B, 2, none⟩ v2).setCell ⟨B, 3, none⟩ v3).cell? ⟨C, 0, none⟩ = some a ∧ ((((W.setCell ⟨B, 0, none⟩ v0).setCell ⟨B, 1, none⟩ v1).setCell ⟨B, 2, none⟩ v2).setCell ⟨B, 3, none⟩ v3).cell? ⟨C, 1, none⟩ = some b ∧ ((((W.setCell ⟨B, 0, none⟩ v0).setCell ⟨B, 1, none⟩ v1).setCell ⟨B, 2, none⟩ v2).setCell ⟨B, 3, none⟩ v3).cell? ⟨C, 2, none⟩ = some c ∧ ((((W.setCell ⟨B, 0, none⟩ v0).setCell ⟨B, 1, none⟩ v1).setCell ⟨B, 2, none⟩ v2).setCell ⟨B, 3, none⟩ v3).cell? ⟨C, 3, none⟩ = some d := by
  have k : ∀ (W : World) (i o : Nat) (x : Value), (W.setCell ⟨B, i, none⟩ x).cell? ⟨C, o, none⟩ = W.cell? ⟨C, o, none⟩ := fun W i o x => World.cell?_setCell_other W _ _ _ (by intro e; cases e; exact hne rfl)
  simp only [k]
  exact h
theorem rec_found {zs : List Int} {l : List Ent} {s a : Int} {e : Ent} (h : findR l s (a / 16) = (e, true)) : recR zs l s a = (e, l, 0) := by
  unfold recR
  rw [h, if_pos rfl]
theorem rec_no {zs : List Int} {l : List Ent} {s a : Int} {e : Ent} {t k : Int} {b : Bool} (h : findR l s (a / 16) = (e, false)) (h2 : walkR zs s a = (t, b, k)) (hk : k ≠ 0) : recR zs l s a = ((0, 0, 0, false), [], k) := by
  unfold recR
  rw [h, if_neg Bool.false_ne_true, h2, if_neg hk]
theorem rec_yes {zs : List Int} {l : List Ent} {s a : Int} {e : Ent} {t : Int} {b : Bool} (h : findR l s (a / 16) = (e, false)) (h2 : walkR zs s a = (t, b, 0)) : recR zs l s a = ((s, a / 16, t, b), fillR l (s, a / 16, t, b), 0) := by
  unfold recR
  rw [h, if_neg Bool.false_ne_true, h2, if_pos rfl]
set_option maxRecDepth 100000 in
set_option maxHeartbeats 8000000 in
theorem recall_any (vr v : Value) (zs : List Int) (l : List Ent) (s a : Int) (w : World) (hr : RamAt w vr zs) (hv : TlbIn w v l) (a0 : 0 ≤ a) (a1 : a < 4096) :
    Calls Tryd.prog 55 #[vr, v, .int .i64 s, .int .i64 a] w fun r w' => ∃ u, r = .returned (.tuple #[entV (recR zs l s a).1, u, errV (recR zs l s a).2.2]) ∧ TlbIn w' u (recR zs l s a).2.1 ∧ Below w.heap.size w w' := by
  have hl : l.length ≤ 100 := by obtain ⟨_, _, _, _, _, _, _, h⟩ := hv; exact h
  have HV := hid hv
  have HR := hid hr
  clear hv hr
  have B0 := hid (bal (Below.refl w.heap.size w) (.cells #[.int .i64 0, .int .i64 0, .int .i64 0, .bool false] 39))
  have X0 := hid (show Cell4 (w.alloc (.cells #[.int .i64 0, .int .i64 0, .int .i64 0, .bool false] 39)) w.heap.size _ _ _ _ from ⟨cells_new w #[.int .i64 0, .int .i64 0, .int .i64 0, .bool false] 39, there_four w⟩)
  go_enter Tryd.func55, Tryd.ntmps55
  go_wp2_with fail
  generalize World.alloc _ _ = W at B0 X0 ⊢
  refine (find_any _ l s (a / 16) W (HV.out.below B0.out)).mono ?_
  rintro r w1 ⟨rfl, hb1⟩
  have B1 := hid (btr B0.out hb1)
  have X1 := hid (X0.out.below hb1)
  clear hb1 X0
  obtain ⟨f, hf⟩ : ∃ f, findR l s (a / 16) = f := ⟨_, rfl⟩
  rw [hf]
  obtain ⟨⟨x, y, z, u⟩, ok⟩ := f
  unfold foundV
  cases ok with
  | true =>
    have HG := hid (rec_found (zs := zs) hf)
    clear hf
    have B2 := hid (bal B1.out (.cells #[.int .i64 x, .int .i64 y, .int .i64 z, .bool u] 39))
    have X2 := hid (X1.out.below (bal (Below.refl w1.heap.size w1) (.cells #[.int .i64 x, .int .i64 y, .int .i64 z, .bool u] 39)))
    have C2 := hid (cells_new w1 #[.int .i64 x, .int .i64 y, .int .i64 z, .bool u] 39)
    have s1 : w.heap.size < w1.heap.size := X1.out.lt
    clear X1 B1
    go_wp2_with fail
    generalize World.alloc _ _ = W2 at B2 X2 C2 ⊢
    have BD := hid (below_drew W2 1)
    have BE : Hid (Below W2.heap.size W2 W2.drew) := BD
    have KS := hid (show ∀ W, Below W2.heap.size W2 W → W.cell? ⟨w1.heap.size, 0, none⟩ = some (.int .i64 x) ∧ W.cell? ⟨w1.heap.size, 1, none⟩ = some (.int .i64 y) ∧ W.cell? ⟨w1.heap.size, 2, none⟩ = some (.int .i64 z) ∧ W.cell? ⟨w1.heap.size, 3, none⟩ = some (.bool u) from fun W hb => by
      have hs : w1.heap.size < W2.heap.size := World.block_lt_of_cell? W2 ⟨w1.heap.size, 0, none⟩ (C2.out 0)
      exact ⟨(hb.cell hs).trans (C2.out 0), (hb.cell hs).trans (C2.out 1), (hb.cell hs).trans (C2.out 2), (hb.cell hs).trans (C2.out 3)⟩)
    have hne : w.heap.size ≠ w1.heap.size := by omega
    have hs3 : w.heap.size < (W2.drewN 1).heap.size := Nat.lt_of_lt_of_le X2.out.lt BD.out.size
    go_region_held3 (fun W => W.cell? ⟨w1.heap.size, 0, none⟩ = some (.int .i64 x) ∧ W.cell? ⟨w1.heap.size, 1, none⟩ = some (.int .i64 y) ∧ W.cell? ⟨w1.heap.size, 2, none⟩ = some (.int .i64 z) ∧ W.cell? ⟨w1.heap.size, 3, none⟩ = some (.bool u))
      (first
        | (with_reducible exact KS.out _ BE.out)
        | (with_reducible exact KS.out _ B3.out)
        | (with_reducible exact four_far hne (KS.out _ B3.out)))
      (first
        | (go_at_call 54; refine (clone_any v l _ (HV.out.below (btr B2.out BD.out))).mono ?_; rintro r w3 ⟨uu, rfl, hO, hb⟩; have B3 := hid (btr BD.out hb); have TS3 := hid (own_new hO hl); have X3 := hid (X2.out.below B3.out); have x0 := X3.out.1 0; have x1 := X3.out.1 1; have x2 := X3.out.1 2; have x3 := X3.out.1 3; have z0 := X3.out.2 0 (by decide); have z1 := X3.out.2 1 (by decide); have z2 := X3.out.2 2 (by decide); have z3 := X3.out.2 3 (by decide); clear hO hb))
    go_wp2_with fail
    have four := four_set (v0 := .int .i64 x) (v1 := .int .i64 y) (v2 := .int .i64 z) (v3 := .bool u) X3.out.1
    refine bodyPost_ret (v := .tuple #[entV (x, y, z, u), uu, errV 0]) (by simp [entV, errV, results, Tryd.results55, go_sem, four]) rfl ⟨uu, by rw [HG.out], ?_, ?_⟩
    · rw [HG.out]
      exact TS3.out.set4 hs3
    · exact bset (bset (bset (bset (btr B2.out B3.out) (Nat.le_refl _) _) (Nat.le_refl _) _) (Nat.le_refl _) _) (Nat.le_refl _) _
  | false =>
    have B2 := hid (bal B1.out (.cells #[.int .i64 x, .int .i64 y, .int .i64 z, .bool u] 39))
    have X2 := hid (X1.out.below (bal (Below.refl w1.heap.size w1) (.cells #[.int .i64 x, .int .i64 y, .int .i64 z, .bool u] 39)))
    clear X1 B1
    go_wp2_with fail
    generalize World.alloc _ _ = W2 at B2 X2 ⊢
    refine (walk_any _ zs s a W2 (HR.out.below B2.out)).mono ?_
    rintro r w2 ⟨rfl, rfl⟩
    obtain ⟨g, hg⟩ : ∃ g, walkR zs s a = g := ⟨_, rfl⟩
    rw [hg]
    obtain ⟨t, b, k⟩ := g
    by_cases hk : k = 0
    · subst hk
      have HG := hid (rec_yes hf hg)
      clear hf hg
      have HE := hid (show errV 0 = .nilIface by unfold errV; rw [if_pos rfl])
      simp only
      rw [HE.out]
      have B3 := hid (bal B2.out (.cells #[.int .i64 s, .int .i64 (a / 16), .int .i64 t, .bool b] 39))
      have X3 := hid (X2.out.below (bal (Below.refl W2.heap.size W2) (.cells #[.int .i64 s, .int .i64 (a / 16), .int .i64 t, .bool b] 39)))
      have C3 := hid (cells_new W2 #[.int .i64 s, .int .i64 (a / 16), .int .i64 t, .bool b] 39)
      have s1 : w.heap.size < W2.heap.size := X2.out.lt
      clear X2 B2
      go_wp2_with fail
      generalize World.alloc _ _ = W3 at B3 X3 C3 ⊢
      have BD := hid (below_drew W3 1)
      have BE : Hid (Below W3.heap.size W3 W3.drew) := BD
      have KS := hid (show ∀ W, Below W3.heap.size W3 W → W.cell? ⟨W2.heap.size, 0, none⟩ = some (.int .i64 s) ∧ W.cell? ⟨W2.heap.size, 1, none⟩ = some (.int .i64 (a / 16)) ∧ W.cell? ⟨W2.heap.size, 2, none⟩ = some (.int .i64 t) ∧ W.cell? ⟨W2.heap.size, 3, none⟩ = some (.bool b) from fun W hb => by
        have hs : W2.heap.size < W3.heap.size := World.block_lt_of_cell? W3 ⟨W2.heap.size, 0, none⟩ (C3.out 0)
        exact ⟨(hb.cell hs).trans (C3.out 0), (hb.cell hs).trans (C3.out 1), (hb.cell hs).trans (C3.out 2), (hb.cell hs).trans (C3.out 3)⟩)
      have hne : w.heap.size ≠ W2.heap.size := by omega
      have hs4 : w.heap.size < (W3.drewN 1).heap.size := Nat.lt_of_lt_of_le X3.out.lt BD.out.size
      go_region_held3 (fun W => W.cell? ⟨W2.heap.size, 0, none⟩ = some (.int .i64 s) ∧ W.cell? ⟨W2.heap.size, 1, none⟩ = some (.int .i64 (a / 16)) ∧ W.cell? ⟨W2.heap.size, 2, none⟩ = some (.int .i64 t) ∧ W.cell? ⟨W2.heap.size, 3, none⟩ = some (.bool b))
        (first
          | (with_reducible exact KS.out _ BE.out)
          | (with_reducible exact KS.out _ B4.out)
          | (with_reducible exact four_far hne (KS.out _ B4.out)))
        (first
          | (go_at_call 21; refine (fill_any v l s (a / 16) t b _ (HV.out.below (btr B3.out BD.out))).mono ?_; rintro r w3 ⟨uu, rfl, hT, hb⟩; have B4 := hid (btr BD.out hb); have TS4 := hid hT; have X4 := hid (X3.out.below B4.out); have x0 := X4.out.1 0; have x1 := X4.out.1 1; have x2 := X4.out.1 2; have x3 := X4.out.1 3; have z0 := X4.out.2 0 (by decide); have z1 := X4.out.2 1 (by decide); have z2 := X4.out.2 2 (by decide); have z3 := X4.out.2 3 (by decide); clear hT hb))
      go_wp2_with fail
      have four := four_set (v0 := .int .i64 s) (v1 := .int .i64 (a / 16)) (v2 := .int .i64 t) (v3 := .bool b) X4.out.1
      refine bodyPost_ret (v := .tuple #[entV (s, a / 16, t, b), uu, errV 0]) (by simp [entV, errV, results, Tryd.results55, go_sem, four]) rfl ⟨uu, by rw [HG.out], ?_, ?_⟩
      · rw [HG.out]
        exact TS4.out.set4 hs4
      · exact bset (bset (bset (bset (btr B3.out B4.out) (Nat.le_refl _) _) (Nat.le_refl _) _) (Nat.le_refl _) _) (Nat.le_refl _) _
    · have HG := hid (rec_no hf hg hk)
      clear hf hg
      have HE := hid (show errV k = .iface 23 (.int .i64 k) by unfold errV; rw [if_neg hk])
      simp only
      rw [HE.out]
      have x0 := X2.out.1 0
      have x1 := X2.out.1 1
      have x2 := X2.out.1 2
      have x3 := X2.out.1 3
      have z0 := X2.out.2 0 (by decide)
      have z1 := X2.out.2 1 (by decide)
      have z2 := X2.out.2 2 (by decide)
      have z3 := X2.out.2 3 (by decide)
      clear hk
      go_wp2_with fail
      have four := four_set (v0 := .int .i64 0) (v1 := .int .i64 0) (v2 := .int .i64 0) (v3 := .bool false) X2.out.1
      refine bodyPost_ret (v := .tuple #[entV (0, 0, 0, false), .slice none 0 0, errV k]) (by simp [entV, HE.out, results, Tryd.results55, go_sem, four]) rfl ⟨_, by rw [HG.out], ?_, ?_⟩
      · rw [HG.out]
        exact tlb_nil _
      · exact bset (bset (bset (bset B2.out (Nat.le_refl _) _) (Nat.le_refl _) _) (Nat.le_refl _) _) (Nat.le_refl _) _
end Go.Proofs.YtfpkbfhaipgibaaDoor.Mmu
