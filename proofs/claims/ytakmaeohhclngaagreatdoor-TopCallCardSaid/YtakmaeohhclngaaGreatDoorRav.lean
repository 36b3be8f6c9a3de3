/- The line 'world' of a text: keyholdref.worldLine, where nothing is wrong; walked. -/
import Derived.Test.YtakmaeohhclngaaGreatDoorRal
import Derived.Test.YtakmaeohhclngaaGreatDoorRaj
import Derived.Test.YtakmaeohhclngaaGreatDoorRam
import Derived.Test.YtakmaeohhclngaaGreatDoorRau
namespace Go.Proofs.YtakmaeohhclngaaGreatDoor.Wd
open Go.RowKit Go.Proofs.YtakmaeohhclngaaGreatDoor.Mem Go.Proofs.YtakmaeohhclngaaGreatDoor.Bw Go.Proofs.YtakmaeohhclngaaGreatDoor.Nums Go.Proofs.YtakmaeohhclngaaGreatDoor.Mmu Go.Proofs.YtakmaeohhclngaaGreatDoor.Hex
/-- A node's own key. -/
def ndk (k : Nat) : Int := [5, 0, 1, 0, 7, 0, -1].getD k 0
/-- What the line makes. -/
def wlP (f c : Nat) (zs : List Int) : PW := { newP f c zs with kinds := (newP f c zs).kinds.set 0 5, slots := (newP f c zs).slots.set 0 ndk }
/-- What is there while two variables are made and a call is done, in any order. -/
structure Pw (w0 W : World) (p : PW) (b6 b7 : Option Nat) (X : Option (Nat → Value)) : Prop where
 be : Below w0.heap.size w0 W
 c6 : ∀ b, b6 = some b → W.heap[b]? = some (.cells #[.slice none 0 0, .slice none 0 0, .slice none 0 0, .slice none 0 0, .slice none 0 0, .slice none 0 0, .slice none 0 0, .slice none 0 0, .slice none 0 0, .slice none 0 0, .int .i64 0] 28) ∧ w0.heap.size ≤ b
 c7 : ∀ b, b7 = some b → W.heap[b]? = some (.cells #[.int .i64 0, .int .i64 0] 48) ∧ w0.heap.size ≤ b
 x : ∀ V, X = some V → NwX W w0.heap.size p V
theorem blk_up {W W' : World} (h : Below W.heap.size W W') {b : Nat} {o : Obj} (e : W.heap[b]? = some o) : W'.heap[b]? = some o := (h.block b (Array.getElem?_eq_some_iff.1 e).1).trans e
theorem Pw.next {w0 W W' : World} {p : PW} {b6 b7 : Option Nat} {X : Option (Nat → Value)} (h : Pw w0 W p b6 b7 X) (hb : Below W.heap.size W W') : Pw w0 W' p b6 b7 X :=
 ⟨btr h.be hb, fun b e => ⟨blk_up hb (h.c6 b e).1, (h.c6 b e).2⟩, fun b e => ⟨blk_up hb (h.c7 b e).1, (h.c7 b e).2⟩, fun V e => (h.x V e).below hb⟩
theorem cup {W0 W : World} (h : Below W0.heap.size W0 W) {a : Addr} {v : Value} (e : W0.cell? a = some v) : W.cell? a = some v := (h.cell (World.block_lt_of_cell? _ _ e)).trans e
theorem blk_new (W : World) (o : Obj) : (W.alloc o).heap[W.heap.size]? = some o := by unfold World.alloc; simp
theorem Pw.al6 {w0 W : World} {p : PW} {b7 : Option Nat} {X : Option (Nat → Value)} (h : Pw w0 W p none b7 X) : Pw w0 (W.alloc (.cells #[.slice none 0 0, .slice none 0 0, .slice none 0 0, .slice none 0 0, .slice none 0 0, .slice none 0 0, .slice none 0 0, .slice none 0 0, .slice none 0 0, .slice none 0 0, .int .i64 0] 28)) p (some W.heap.size) b7 X :=
 have n := h.next (bal (Below.refl _ _) _)
 ⟨n.be, fun b e => by cases e; exact ⟨blk_new _ _, h.be.size⟩, n.c7, n.x⟩
theorem Pw.al7 {w0 W : World} {p : PW} {b6 : Option Nat} {X : Option (Nat → Value)} (h : Pw w0 W p b6 none X) : Pw w0 (W.alloc (.cells #[.int .i64 0, .int .i64 0] 48)) p b6 (some W.heap.size) X :=
 have n := h.next (bal (Below.refl _ _) _)
 ⟨n.be, n.c6, fun b e => by cases e; exact ⟨blk_new _ _, h.be.size⟩, n.x⟩
theorem NwX.low {w : World} {L M : Nat} {p : PW} {X : Nat → Value} (h : NwX w M p X) (hl : L ≤ M) : NwX w L p X := ⟨fun i hi => own_mono (h.own i hi) hl, h.dj, h.f4, h.f7, h.f8, h.t⟩
theorem Pw.call {w0 W W' : World} {p : PW} {b6 b7 : Option Nat} (h : Pw w0 W p b6 b7 none) {V : Nat → Value} (hb : Below W.heap.size W W') (hx : NwX W' W.heap.size p V) : Pw w0 W' p b6 b7 (some V) :=
 have n := h.next hb
 ⟨n.be, n.c6, n.c7, fun V' e => by cases e; exact hx.low h.be.size⟩
theorem there_blk {W : World} {b : Nat} {arr : Array Value} {T : TypeId} (h : W.heap[b]? = some (.cells arr T)) (k : Nat) (hk : k ≤ arr.size) : W.there b 0 k := fun j hj => by
 have e : W.cell? ⟨b, 0 + j, none⟩ = arr[0 + j]? := by simp [World.cell?, h]
 refine ⟨?_, by simp [World.frozen?, h]⟩
 rw [e, Array.getElem?_eq_getElem (by omega)]
 rfl
theorem nx_bad {w : World} {L x : Nat} {p : PW} {X : Nat → Value} (h : NwX w L p X) {arr : Array Value} (hy : w.heap[x]? = some (.cells arr 48)) : ∀ i, i < 10 → (X i).ownBlock ≠ some x := fun i hi e => by
 rcases (h.own i hi).2 with ⟨e1, _⟩ | ⟨g, cap, cur, e1, _, h4, _⟩
 ·rw [e1] at e; cases e
 ·rw [e1] at e
  obtain rfl : g = x := by simpa [Value.ownBlock] using e
  rw [hy] at h4
  have : wE i = 48 := by simp at h4; exact h4.2.symm
  have hn : ∀ i, i < 10 → wE i ≠ 48 := by decide
  exact hn i hi this
theorem tag_low {X : Nat → Value} {k : Nat} : ∀ n, (∀ i, i < n → (X i).ownBlock ≠ some k) → tagN' X k n = 0
 | 0, _ => rfl
 | n + 1, h => by
  unfold tagN'
  rw [if_neg (h n (by omega))]
  exact tag_low n (fun i hi => h i (by omega))
/-- Both variables are written: a world of one's own in its box. -/
theorem Pw.box {w0 W : World} {p : PW} {b6 b7 : Nat} {X : Nat → Value} (h : Pw w0 W p (some b6) (some b7) (some X)) (l4 : ∀ l ∈ p.lines, l = []) (l7 : ∀ l ∈ p.ready, l = []) (l8 : ∀ l ∈ p.tlbs, l = []) :
  BoxT ((W.setCells b6 0 (arr11 X).toList).setCells b7 0 [.int .i64 0, .int .i64 (-1)]) b6 (tagW X b6) X p ∧ Below w0.heap.size w0 ((W.setCells b6 0 (arr11 X).toList).setCells b7 0 [.int .i64 0, .int .i64 (-1)]) ∧ ((W.setCells b6 0 (arr11 X).toList).setCells b7 0 [.int .i64 0, .int .i64 (-1)]).cell? ⟨b7, 0, none⟩ = some (.int .i64 0) ∧ w0.heap.size ≤ b6 ∧ ∀ k, k < w0.heap.size → tagN' X k 10 = 0 := by
 obtain ⟨c6, g6⟩ := h.c6 b6 rfl
 obtain ⟨c7, g7⟩ := h.c7 b7 rfl
 have hX := h.x X rfl
 have t6 := there_blk c6 11 (by decide)
 have t7 := there_blk c7 2 (by decide)
 have ne : b6 ≠ b7 := fun e => by rw [e, c7] at c6; simp at c6
 have k1 : Kp (fun k => k = b6 ∨ k = b7) W (W.setCells b6 0 (arr11 X).toList) := Kp.setCells (.inl (.inl rfl)) _ _ _ (Kp.refl _ _)
 have k2 : Kp (fun k => k = b6 ∨ k = b7) W ((W.setCells b6 0 (arr11 X).toList).setCells b7 0 [.int .i64 0, .int .i64 (-1)]) := Kp.setCells (.inl (.inr rfl)) _ _ _ k1
 have k3 : Kp (fun k => k = b7) (W.setCells b6 0 (arr11 X).toList) ((W.setCells b6 0 (arr11 X).toList).setCells b7 0 [.int .i64 0, .int .i64 (-1)]) := Kp.setCells (T := fun k => k = b7) (.inl rfl) _ _ _ (Kp.refl _ _)
 have n6 := nx_of hX c6
 have n7 := nx_bad hX c7
 have lt6 : b6 < W.heap.size := (Array.getElem?_eq_some_iff.1 c6).1
 refine ⟨Wb.box (B := w0.heap.size) ⟨⟨Nat.lt_of_lt_of_le lt6 k2.size, fun i hi => own_kp (hX.own i hi) k2 (fun k e hk => by rcases hk with hk | hk; exact n6 i hi (hk ▸ e); exact n7 i hi (hk ▸ e)), hX.dj, n6⟩, range_kp (World.rangeAt_setCells_same W b6 0 (arr11 X).toList t6) k3 ne, World.there_setCells (World.there_setCells t6 _ _ _) _ _ _⟩ hX.f4 hX.f7 hX.f8 hX.t l4 l7 l8, k2.below h.be h.be.size (fun k hk e => by omega), ?_, g6, fun k hk => tag_low 10 (fun i hi e => ?_)⟩
 ·exact World.rangeAt_setCells_same _ b7 0 [.int .i64 0, .int .i64 (-1)] (World.there_setCells t7 _ _ _) 0 _ rfl
 ·have := ((hX.own i hi).lt k e).1
  omega
theorem InT.one {w : World} {tag : Nat → Nat} {t I s : Nat} {u : Value} {c : Nat × List Value} (h : InT w tag t I s u c) : u.oneCell' = true := by obtain ⟨q, k, e⟩ := own_formN h.1; rw [e]; rfl
theorem ListT.one {w : World} {tag : Nat → Nat} {t i O I s n : Nat} {v : Value} {cc : Nat → Nat × List Value} (h : ListT w tag t i O I s n v cc) : v.oneCell' = true := by obtain ⟨g, us, rfl, _⟩ := h; rfl
theorem WorldT.ones {w : World} {tag : Nat → Nat} {X : Nat → Value} {p : PW} (h : WorldT w tag X p) : (arr11 X).all (·.oneCell') = true := by
 simp only [List.all_toArray, List.all_cons, List.all_nil, Bool.and_true, h.ram.one, h.kinds.one, h.slots.one, h.tasks.one, h.lines.one, h.bits.one, h.cores.one, h.ready.one, h.tlbs.one, h.doms.one, Bool.true_and]
 rw [h.time]; rfl
theorem wp_stBad {op : Oper} {a : Act} {w : World} {K : Act → World → Prop} {Q : Exit → Act → World → Prop} {x y : Tmp} (ho : op.op = .store 48 (.tmp x) (.tmp y)) (b : Nat) (hx : a.eval (.tmp x) = .pointer (some ⟨b, 0, none⟩)) (hy : a.eval (.tmp y) = .agg #[.int .i64 0, .int .i64 (-1)]) (ht : w.there b 0 2)
  (h : K (a.put op.dst undef) (w.setCells b 0 [.int .i64 0, .int .i64 (-1)])) : op.wp Tryz.prog a w K Q :=
 wp_store_mid 48 _ _ ho b 0 #[.int .i64 0, .int .i64 (-1)] hx hy ht infoBadx bOnex h
theorem wnt {c : Bool} {A B : Prop} (hc : c = true) (h : A) : if c = true then A else B := by rw [if_pos hc]; exact h
theorem with_fin {P : Program} {md : Region.Mode} {ops : Array Oper} {Q : Exit → Act → World → Prop} {S R : World → Prop} {fs : List Nat} {fuel : Nat} {listed : Array Bool} {a : Act} {w : World} (F : (Nat → Value) → Nat → Nat → World → Prop) (l2 : Array Bool) (a2 : (Nat → Value) → Nat → Nat → Act)
  (hf : ∀ m X b6 b7 W, F X b6 b7 W → Rf.wpAnyF P md ops Q S R fs (m + 2) l2 (a2 X b6 b7) W) (h : Hid (∀ X b6 b7 W, F X b6 b7 W → Rf.wpAnyF P md ops Q S R fs 2 l2 (a2 X b6 b7) W) → Rf.wpAnyF P md ops Q S R fs fuel listed a w) : Rf.wpAnyF P md ops Q S R fs fuel listed a w := h (hf 0)
set_option maxRecDepth 100000 in
set_option maxHeartbeats 8000000 in
theorem worldLine_ref (b off cap f c : Nat) (zs : List Int) (l : List ByteArray) (w : World) (hS : StrsAt w b off l) (hok : ∀ t ∈ l, numOk t = true) (hl : l.length ≤ 100) (hm : l.map Prs.decV = (f : Int) :: (c : Int) :: zs) (f0 : 1 ≤ f) (f1 : f ≤ 24) (c0 : 1 ≤ c) (c1 : c ≤ 4) (z0 : 1 ≤ zs.length) (z1 : zs.length ≤ 8) (hz : ∀ z ∈ zs, 0 ≤ z ∧ z ≤ 3) :
  Calls Tryz.prog 43 #[.slice (some ⟨b, off, none⟩) l.length cap] w fun r w' => ∃ X tag, r = .returned (.tuple #[.agg (arr11 X), .int .i64 0]) ∧ WorldT w' tag X (wlP f c zs) ∧ (∀ k, k < w.heap.size → tag k = 0) ∧ Below w.heap.size w w' := by
 have B0 := hid (bal (Below.refl w.heap.size w) (.cells #[.slice none 0 0, .slice none 0 0, .slice none 0 0, .slice none 0 0, .slice none 0 0, .slice none 0 0, .slice none 0 0, .slice none 0 0, .slice none 0 0, .slice none 0 0, .int .i64 0] 28))
 have T0 := hid (there_new w #[.slice none 0 0, .slice none 0 0, .slice none 0 0, .slice none 0 0, .slice none 0 0, .slice none 0 0, .slice none 0 0, .slice none 0 0, .slice none 0 0, .slice none 0 0, .int .i64 0] 28 w.heap.size 11 rfl (by decide))
 have HN := hid (nums_any b off cap l _ (StrsAt.below' hS B0.out) hok hl)
 rw [hm] at HN
 have HLL := hid (show l.length = zs.length + 2 by have := congrArg List.length hm; simpa using this)
 have ZL : (zs.length : Int) ≤ 8 := by omega
 have ZL0 : (1 : Int) ≤ zs.length := by omega
 have HZ := hid hz
 clear hm hS hok hl
 go_enter Tryz.func43, Tryz.ntmps43
 go_wp2_with fail
 refine HN.out.mono ?_
 rintro r w1 ⟨u, rfl, hu, hb1⟩
 rw [HLL.out] at hu
 obtain ⟨b2, cap2, rfl, hcp, hlo, hi⟩ := own_pos hu (by simp) (by omega)
 have HI := hid hi
 have g3 : ¬ cap2 = 2 := by omega
 have B1 := hid (btr B0.out hb1)
 have HB1 := hid hb1
 clear hb1
 clear hu hcp hi hlo
 have g0 : (0 : Int) < (zs.length : Int) + 2 := by omega
 have g1 : (1 : Int) < (zs.length : Int) + 2 := by omega
 have g2 : (2 : Int) ≤ (zs.length : Int) + 2 := by omega
 have n0 := HI.out 0 (by simp)
 have n1 := HI.out 1 (by simp)
 rw [Nat.add_zero] at n0
 rw [Nat.zero_add] at n1
 simp only [List.getElem_cons_zero, List.getElem_cons_succ] at n0 n1
 have KC := hid (fun W (h : Below w1.heap.size w1 W) => (⟨cup h n0, cup h n1⟩ : _ ∧ _))
 have NW := hid (fun W (h : Below w1.drew.heap.size w1.drew W) => newWorld_own f c (.slice (some ⟨b2, 2, none⟩) zs.length (cap2 - 2)) zs W ⟨_, b2, 2, _, rfl, fun _ => rfl, fun j hj => by
  have := (HI.out.below (btr (below_drew w1 1) h)) (j + 2) (by simp; omega)
  simp only [List.getElem_cons_succ] at this
  rw [show 2 + j = 0 + (j + 2) by omega]
  exact this⟩ f0 f1 c0 c1 z0 z1 HZ.out)
 have P := hid (show Pw w1.drew w1.drew (newP f c zs) none none none from ⟨Below.refl _ _, fun _ h => (by cases h), fun _ h => (by cases h), fun _ h => (by cases h)⟩)
 clear n0 n1
 have BD := hid (show Below w1.heap.size w1 w1.drew from below_drew w1 1)
 go_upto_region 6 with fail
 refine Rf.wp_region_H (R := fun W => Below w1.drew.heap.size w1.drew W) [14] [0, 1, 2, 3, 4, 5, 6, 7] 8 (by kernel_rfl) (Below.refl _ _) (by kernel_rfl) (by kernel_rfl) (by kernel_rfl) (fun _ => ?_)
 repeat (refine Rf.rd_st rfl (by rfl) (fun _ _ _ _ h => h) ?_; apply Exists.intro; refine ⟨fun W h => ?_, ?_⟩; (focus (obtain ⟨h1, h2⟩ := KC.out _ (btr (below_drew w1 1) h); clear h; go_simp; try rfl)); simp only [jj])
 refine Rf.rd_nil ?_
 clear KC HI
 generalize w1.drew = w2 at *
 refine with_fin (fun X b6 b7 W => Pw w2 W (newP f c zs) (some b6) (some b7) (some X)) #[true, true, true, true, true, true, true, true, true, true, true, true, true, true, false, false] (fun X b6 b7 => ⟨#[.slice (some ⟨b, off, none⟩) l.length cap, undef, .pointer (some ⟨w.heap.size, 0, none⟩), .int .i64 0, .slice (some ⟨b2, 0, none⟩) (zs.length + 2) cap2, .int .i64 0, .pointer (some ⟨b6, 0, none⟩), .pointer (some ⟨b7, 0, none⟩), .tuple #[.slice (some ⟨b2, 0, none⟩) (zs.length + 2) cap2, .int .i64 0], .slice (some ⟨b, off, none⟩) l.length cap, .tuple #[.slice (some ⟨b2, 0, none⟩) (zs.length + 2) cap2, .int .i64 0], .slice (some ⟨b2, 0, none⟩) (zs.length + 2) cap2, .int .i64 0, .int .i64 0, .bool false, undef, undef, .slice (some ⟨b2, 0, none⟩) (zs.length + 2) cap2, .int .i64 ((zs.length : Int) + 2), .bool (decide ((zs.length : Int) + 2 < 3)), undef, .tuple #[.agg (arr11 X), .agg #[.int .i64 0, .int .i64 (-1)]], .slice (some ⟨b2, 0, none⟩) (zs.length + 2) cap2, .pointer (some ⟨b2, 0, none⟩), .int .i64 f, .slice (some ⟨b2, 0, none⟩) (zs.length + 2) cap2, .pointer (some ⟨b2, 1, none⟩), .int .i64 c, .slice (some ⟨b2, 0, none⟩) (zs.length + 2) cap2, .slice (some ⟨b2, 2, none⟩) zs.length (cap2 - 2), .tuple #[.agg (arr11 X), .agg #[.int .i64 0, .int .i64 (-1)]], .agg (arr11 X), .agg #[.int .i64 0, .int .i64 (-1)], undef, undef, undef, undef, undef, undef, undef, undef, undef, undef, undef, undef, undef, undef, undef], []⟩) ?_ (fun FIN => ?_)
 ·intro m X b6 b7 W hP
  dsimp only
  have PB := hid (hP.box (fun l h => (List.mem_replicate.1 h).2) (fun l h => (List.mem_replicate.1 h).2) (fun l h => (List.mem_replicate.1 h).2))
  have T6 := hid (there_blk (hP.c6 b6 rfl).1 11 (by decide))
  have T7 := hid (show (W.setCells b6 0 [X 0, X 1, X 2, X 3, X 4, X 5, X 6, X 7, X 8, X 9, X 10]).there b7 0 2 from World.there_setCells (there_blk (hP.c7 b7 rfl).1 2 (by decide)) _ _ _)
  have O1 := hid (Array.all_eq_true'.2 (nw_one (hP.x X rfl)))
  clear hP
  refine Rf.wpAnyF_ready (rs := [14]) (by kernel_rfl) (by simp) (Rf.AllReadyF.cons rfl (fun K hK => ?_) Rf.AllReadyF.nil)
  refine wnt (by rfl) ?_
  simp only [List.getElem_toArray, List.getElem_cons_succ, List.getElem_cons_zero]
  refine wp_store_mid 28 _ _ rfl b6 0 (arr11 X) rfl rfl T6.out infoW O1.out ?_
  refine hK.out _ _ trivial (Rf.notClean (by kernel_rfl)) (fun _ _ => ?_)
  clear hK K
  try simp only [jj]
  change Hid (BoxT ((W.setCells b6 0 [X 0, X 1, X 2, X 3, X 4, X 5, X 6, X 7, X 8, X 9, X 10]).setCells b7 0 [.int .i64 0, .int .i64 (-1)]) b6 (tagW X b6) X (newP f c zs) ∧ Below w2.heap.size w2 ((W.setCells b6 0 [X 0, X 1, X 2, X 3, X 4, X 5, X 6, X 7, X 8, X 9, X 10]).setCells b7 0 [.int .i64 0, .int .i64 (-1)]) ∧ ((W.setCells b6 0 [X 0, X 1, X 2, X 3, X 4, X 5, X 6, X 7, X 8, X 9, X 10]).setCells b7 0 [.int .i64 0, .int .i64 (-1)]).cell? ⟨b7, 0, none⟩ = some (.int .i64 0) ∧ w2.heap.size ≤ b6 ∧ ∀ k, k < w2.heap.size → tagN' X k 10 = 0) at PB
  clear T6 O1
  generalize W.setCells b6 0 [X 0, X 1, X 2, X 3, X 4, X 5, X 6, X 7, X 8, X 9, X 10] = W2 at T7 PB ⊢
  refine Rf.wpAnyF_ready (rs := [15]) (by kernel_rfl) (by simp) (Rf.AllReadyF.cons rfl (fun K hK => ?_) Rf.AllReadyF.nil)
  refine wnt (by rfl) ?_
  simp only [List.getElem_toArray, List.getElem_cons_succ, List.getElem_cons_zero]
  refine wp_stBad rfl b7 rfl rfl T7.out ?_
  refine hK.out _ _ trivial (Rf.notClean (by kernel_rfl)) (fun _ _ => ?_)
  clear hK K
  try simp only [jj]
  refine Rf.wpAnyF_done (by kernel_rfl) ?_ _
  clear T7 NW P
  generalize W2.setCells b7 0 [.int .i64 0, .int .i64 (-1)] = W3 at PB ⊢
  have BX := hid PB.out.1
  have BB := hid (btr B1.out (btr BD.out PB.out.2.1))
  have BA := hid (btr HB1.out (btr BD.out PB.out.2.1))
  have c7 := PB.out.2.2.1
  have TZ := hid (show ∀ k, k < w1.heap.size → tagW X b6 k = 0 from fun k hk => by
   have h1 := PB.out.2.2.2.1
   unfold tagW
   have h2 := BD.out.size
   rw [if_neg (by omega)]
   exact PB.out.2.2.2.2 k (by omega))
  obtain ⟨g1, k1, e1⟩ := BX.out.o.kinds.form (show 0 < (newP f c zs).kinds.length by rw [show (newP f c zs).kinds.length = f from List.length_replicate]; omega)
  obtain ⟨g2, k2, e2⟩ := BX.out.o.slots.form (show 0 < (newP f c zs).slots.length by rw [show (newP f c zs).slots.length = f * 16 from List.length_replicate]; omega)
  have r1 : W3.cell? ⟨b6, 1, none⟩ = some (X 1) := range_cell BX.out.r rfl
  rw [e1] at r1
  have I1 := BX.out.o.kinds
  rw [e1] at I1
  obtain ⟨u1, hu1⟩ := Option.isSome_iff_exists.1 (I1.there 0 1 (by rw [show (newP f c zs).kinds.length = f from List.length_replicate]; omega) 0 (by omega)).1
  rw [Nat.add_zero] at hu1
  have fz1 := I1.frozen 0
  have lk1 : (0 : Int) < ((newP f c zs).kinds.length : Int) := by rw [show (newP f c zs).kinds.length = f from List.length_replicate]; omega
  have K1 := hid (BX.out.kindsCell e1 0 5)
  clear PB I1
  go_upto_region 10 with fail
  clear r1 hu1 fz1 lk1 c7
  have B4 := hid K1.out.1
  have KT4 := hid K1.out.2
  clear K1 BX
  generalize W3.setCell ⟨g1, 0, none⟩ (.int .i64 5) = W4 at B4 KT4 ⊢
  have r2 : W4.cell? ⟨b6, 2, none⟩ = some (X 2) := range_cell B4.out.r rfl
  rw [e2] at r2
  have I2 := B4.out.o.slots
  rw [e2] at I2
  have HL2 := hid (show (newP f c zs).slots.length = f * 16 from List.length_replicate)
  have TH2 := hid (show W4.there g2 (0 * 7) 7 from I2.there (0 * 7) 7 (by show 0 * 7 + 7 ≤ (newP f c zs).slots.length * 7; rw [HL2.out]; omega))
  have lk2 : (0 : Int) < ((newP f c zs).slots.length : Int) := by rw [HL2.out]; omega
  have K2 := hid (B4.out.slotsRow e2 (i := 0) (by show 0 < (newP f c zs).slots.length; rw [HL2.out]; omega) ndk)
  clear I2
  go_upto_region 11 with (first | ((with_reducible (show wpList _ _ _ (⟨_, Op.store 117 _ _, _, _, _, _⟩ :: _) _ _)); refine wp_stS rfl _ _ rfl g2 (0 * 7) rfl (cf 7 ndk) rfl (cf_len _ _) (cf_one _ _) TH2.out ?_))
  have B5 := hid K2.out.1
  have KT5 := hid (KT4.out.trans K2.out.2)
  clear r2 lk2 TH2 K2 B4 KT4
  generalize W4.setCells g2 (0 * 7) (cf 7 ndk) = W5 at B5 KT5 ⊢
  have L0 : w.heap.size < w1.heap.size := Nat.lt_of_lt_of_le (by simp) HB1.out.size
  have T5 := hid (there_kp (there_kp T0.out (T := fun _ => False) (.of_below BA.out) id) KT5.out.k (by rw [TZ.out _ L0]; exact fun h => h rfl))
  have O5 := hid (B5.out.o.ones)
  have RX := hid (show (W5.setCells w.heap.size 0 [X 0, X 1, X 2, X 3, X 4, X 5, X 6, X 7, X 8, X 9, X 10]).rangeAt w.heap.size 0 (arr11 X).toList from World.rangeAt_setCells_same W5 w.heap.size 0 (arr11 X).toList T5.out)
  have KX := hid (show Kp (fun k => k = w.heap.size) W5 (W5.setCells w.heap.size 0 [X 0, X 1, X 2, X 3, X 4, X 5, X 6, X 7, X 8, X 9, X 10]) from Kp.setCells (T := fun k => k = w.heap.size) (.inl rfl) _ _ _ (Kp.refl _ _))
  have B6 := hid (B5.out.kp KX.out (fun k _ e => by rw [e]; exact TZ.out _ L0) (fun _ _ => rfl))
  have BE := hid (show Below w.heap.size w (W5.setCells w.heap.size 0 [X 0, X 1, X 2, X 3, X 4, X 5, X 6, X 7, X 8, X 9, X 10]) from KX.out.below (KT5.out.k.below BB.out BB.out.size (fun k hk h => h (TZ.out k (by omega)))) (Nat.le_trans BB.out.size KT5.out.k.size) (fun k hk e => by omega))
  clear e1 e2
  go_wp2_with (first | ((with_reducible (show wpList _ _ _ (⟨_, Op.load 28 _, _, _, _, _⟩ :: _) _ _)); refine wp_ldW rfl _ rfl b6 rfl X B5.out.r ?_) | ((with_reducible (show wpList _ _ _ (⟨_, Op.store 28 _ _, _, _, _, _⟩ :: _) _ _)); refine wpList_store_mid rfl 28 _ _ rfl w.heap.size 0 (arr11 X) rfl rfl T5.out infoW O5.out ?_))
  clear KX T5 O5 B5 KT5
  generalize W5.setCells w.heap.size 0 [X 0, X 1, X 2, X 3, X 4, X 5, X 6, X 7, X 8, X 9, X 10] = W6 at RX B6 BE ⊢
  exact bodyPost_ret (v := .tuple #[.agg (arr11 X), .int .i64 0]) (results_d2 rfl rfl (run_loadVar_mid _ w.heap.size 0 28 (arr11 X).toList _ RX.out Tryz.underlying28 rfl infoW) rfl) rfl ⟨X, rfl, tagW X b6, B6.out.o, fun k hk => TZ.out k (by omega), BE.out⟩
 refine Rf.wpAnyF_ready (rs := [8, 12, 13]) (by kernel_rfl) (by simp) (Rf.AllReadyF.cons rfl (fun K hK => ?_) (Rf.AllReadyF.cons rfl (fun K hK => ?_) (Rf.AllReadyF.cons rfl (fun K hK => ?_) Rf.AllReadyF.nil)))
 ·skip
  refine wnt (by rfl) ?_
  go_simp
  refine (NW.out _ P.out.be).mono ?_
  rintro q w3 ⟨X, rfl, hx, hb⟩
  have Pc := hid (P.out.call hb hx)
  clear hx hb
  go_wp2_with fail
  refine hK.out _ _ trivial (fun _ => Pc.out.be) (fun _ _ => ?_)
  clear hK K
  try simp only [jj]
  refine Rf.wpAnyF_groupS (R := fun W => Below w2.heap.size w2 W) (by kernel_rfl) _ Pc.out.be [9, 10, 11] 4 _ _ (by kernel_rfl) ?_
  repeat (refine Rf.rd_st rfl (by rfl) (fun _ _ _ _ h => h) ?_; apply Exists.intro; refine ⟨fun W h => ?_, ?_⟩; (focus (clear h; go_simp; try rfl)); simp only [jj])
  refine Rf.rd_nil ?_
  refine Rf.wpAnyF_ready (rs := [12, 13]) (by kernel_rfl) (by simp) (Rf.AllReadyF.cons rfl (fun K hK => ?_) (Rf.AllReadyF.cons rfl (fun K hK => ?_) Rf.AllReadyF.nil))
  ·skip
   refine wnt (by rfl) ?_
   have Pc6 := hid Pc.out.al6
   go_simp
   refine hK.out _ _ trivial (fun _ => Pc6.out.be) (fun _ _ => ?_)
   clear hK K
   try simp only [jj]
   generalize World.alloc _ _ = W61 at Pc6 ⊢
   refine Rf.wpAnyF_ready (rs := [13]) (by kernel_rfl) (by simp) (Rf.AllReadyF.cons rfl (fun K hK => ?_) Rf.AllReadyF.nil)
   ·skip
    refine wnt (by rfl) ?_
    have Pc67 := hid Pc6.out.al7
    go_simp
    refine hK.out _ _ trivial (fun _ => Pc67.out.be) (fun _ _ => ?_)
    clear hK K
    try simp only [jj]
    generalize World.alloc _ _ = W72 at Pc67 ⊢
    exact FIN.out _ _ _ _ Pc67.out
  ·skip
   refine wnt (by rfl) ?_
   have Pc7 := hid Pc.out.al7
   go_simp
   refine hK.out _ _ trivial (fun _ => Pc7.out.be) (fun _ _ => ?_)
   clear hK K
   try simp only [jj]
   generalize World.alloc _ _ = W71 at Pc7 ⊢
   refine Rf.wpAnyF_ready (rs := [12]) (by kernel_rfl) (by simp) (Rf.AllReadyF.cons rfl (fun K hK => ?_) Rf.AllReadyF.nil)
   ·skip
    refine wnt (by rfl) ?_
    have Pc76 := hid Pc7.out.al6
    go_simp
    refine hK.out _ _ trivial (fun _ => Pc76.out.be) (fun _ _ => ?_)
    clear hK K
    try simp only [jj]
    generalize World.alloc _ _ = W62 at Pc76 ⊢
    exact FIN.out _ _ _ _ Pc76.out
 ·skip
  refine wnt (by rfl) ?_
  have P6 := hid P.out.al6
  go_simp
  refine hK.out _ _ trivial (fun _ => P6.out.be) (fun _ _ => ?_)
  clear hK K
  try simp only [jj]
  generalize World.alloc _ _ = W60 at P6 ⊢
  refine Rf.wpAnyF_ready (rs := [8, 13]) (by kernel_rfl) (by simp) (Rf.AllReadyF.cons rfl (fun K hK => ?_) (Rf.AllReadyF.cons rfl (fun K hK => ?_) Rf.AllReadyF.nil))
  ·skip
   refine wnt (by rfl) ?_
   go_simp
   refine (NW.out _ P6.out.be).mono ?_
   rintro q w4 ⟨X, rfl, hx, hb⟩
   have P6c := hid (P6.out.call hb hx)
   clear hx hb
   go_wp2_with fail
   refine hK.out _ _ trivial (fun _ => P6c.out.be) (fun _ _ => ?_)
   clear hK K
   try simp only [jj]
   refine Rf.wpAnyF_groupS (R := fun W => Below w2.heap.size w2 W) (by kernel_rfl) _ P6c.out.be [9, 10, 11] 3 _ _ (by kernel_rfl) ?_
   repeat (refine Rf.rd_st rfl (by rfl) (fun _ _ _ _ h => h) ?_; apply Exists.intro; refine ⟨fun W h => ?_, ?_⟩; (focus (clear h; go_simp; try rfl)); simp only [jj])
   refine Rf.rd_nil ?_
   refine Rf.wpAnyF_ready (rs := [13]) (by kernel_rfl) (by simp) (Rf.AllReadyF.cons rfl (fun K hK => ?_) Rf.AllReadyF.nil)
   ·skip
    refine wnt (by rfl) ?_
    have P6c7 := hid P6c.out.al7
    go_simp
    refine hK.out _ _ trivial (fun _ => P6c7.out.be) (fun _ _ => ?_)
    clear hK K
    try simp only [jj]
    generalize World.alloc _ _ = W72 at P6c7 ⊢
    exact FIN.out _ _ _ _ P6c7.out
  ·skip
   refine wnt (by rfl) ?_
   have P67 := hid P6.out.al7
   go_simp
   refine hK.out _ _ trivial (fun _ => P67.out.be) (fun _ _ => ?_)
   clear hK K
   try simp only [jj]
   generalize World.alloc _ _ = W71 at P67 ⊢
   refine Rf.wpAnyF_ready (rs := [8]) (by kernel_rfl) (by simp) (Rf.AllReadyF.cons rfl (fun K hK => ?_) Rf.AllReadyF.nil)
   ·skip
    refine wnt (by rfl) ?_
    go_simp
    refine (NW.out _ P67.out.be).mono ?_
    rintro q w5 ⟨X, rfl, hx, hb⟩
    have P67c := hid (P67.out.call hb hx)
    clear hx hb
    go_wp2_with fail
    refine hK.out _ _ trivial (fun _ => P67c.out.be) (fun _ _ => ?_)
    clear hK K
    try simp only [jj]
    refine Rf.wpAnyF_groupS (R := fun W => Below w2.heap.size w2 W) (by kernel_rfl) _ P67c.out.be [9, 10, 11] 2 _ _ (by kernel_rfl) ?_
    repeat (refine Rf.rd_st rfl (by rfl) (fun _ _ _ _ h => h) ?_; apply Exists.intro; refine ⟨fun W h => ?_, ?_⟩; (focus (clear h; go_simp; try rfl)); simp only [jj])
    refine Rf.rd_nil ?_
    exact FIN.out _ _ _ _ P67c.out
 ·skip
  refine wnt (by rfl) ?_
  have P7 := hid P.out.al7
  go_simp
  refine hK.out _ _ trivial (fun _ => P7.out.be) (fun _ _ => ?_)
  clear hK K
  try simp only [jj]
  generalize World.alloc _ _ = W70 at P7 ⊢
  refine Rf.wpAnyF_ready (rs := [8, 12]) (by kernel_rfl) (by simp) (Rf.AllReadyF.cons rfl (fun K hK => ?_) (Rf.AllReadyF.cons rfl (fun K hK => ?_) Rf.AllReadyF.nil))
  ·skip
   refine wnt (by rfl) ?_
   go_simp
   refine (NW.out _ P7.out.be).mono ?_
   rintro q w4 ⟨X, rfl, hx, hb⟩
   have P7c := hid (P7.out.call hb hx)
   clear hx hb
   go_wp2_with fail
   refine hK.out _ _ trivial (fun _ => P7c.out.be) (fun _ _ => ?_)
   clear hK K
   try simp only [jj]
   refine Rf.wpAnyF_groupS (R := fun W => Below w2.heap.size w2 W) (by kernel_rfl) _ P7c.out.be [9, 10, 11] 3 _ _ (by kernel_rfl) ?_
   repeat (refine Rf.rd_st rfl (by rfl) (fun _ _ _ _ h => h) ?_; apply Exists.intro; refine ⟨fun W h => ?_, ?_⟩; (focus (clear h; go_simp; try rfl)); simp only [jj])
   refine Rf.rd_nil ?_
   refine Rf.wpAnyF_ready (rs := [12]) (by kernel_rfl) (by simp) (Rf.AllReadyF.cons rfl (fun K hK => ?_) Rf.AllReadyF.nil)
   ·skip
    refine wnt (by rfl) ?_
    have P7c6 := hid P7c.out.al6
    go_simp
    refine hK.out _ _ trivial (fun _ => P7c6.out.be) (fun _ _ => ?_)
    clear hK K
    try simp only [jj]
    generalize World.alloc _ _ = W62 at P7c6 ⊢
    exact FIN.out _ _ _ _ P7c6.out
  ·skip
   refine wnt (by rfl) ?_
   have P76 := hid P7.out.al6
   go_simp
   refine hK.out _ _ trivial (fun _ => P76.out.be) (fun _ _ => ?_)
   clear hK K
   try simp only [jj]
   generalize World.alloc _ _ = W61 at P76 ⊢
   refine Rf.wpAnyF_ready (rs := [8]) (by kernel_rfl) (by simp) (Rf.AllReadyF.cons rfl (fun K hK => ?_) Rf.AllReadyF.nil)
   ·skip
    refine wnt (by rfl) ?_
    go_simp
    refine (NW.out _ P76.out.be).mono ?_
    rintro q w5 ⟨X, rfl, hx, hb⟩
    have P76c := hid (P76.out.call hb hx)
    clear hx hb
    go_wp2_with fail
    refine hK.out _ _ trivial (fun _ => P76c.out.be) (fun _ _ => ?_)
    clear hK K
    try simp only [jj]
    refine Rf.wpAnyF_groupS (R := fun W => Below w2.heap.size w2 W) (by kernel_rfl) _ P76c.out.be [9, 10, 11] 2 _ _ (by kernel_rfl) ?_
    repeat (refine Rf.rd_st rfl (by rfl) (fun _ _ _ _ h => h) ?_; apply Exists.intro; refine ⟨fun W h => ?_, ?_⟩; (focus (clear h; go_simp; try rfl)); simp only [jj])
    refine Rf.rd_nil ?_
    exact FIN.out _ _ _ _ P76c.out
end Go.Proofs.YtakmaeohhclngaaGreatDoor.Wd
