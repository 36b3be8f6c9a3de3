/- append onto an empty slice of one's own, nil or not; keyholdref.copyAll, walked. (Written by mk_copy0.py.) · What holds while a world is copied, list by list. (Written by mk_copy.py.) · keyholdref.Copy, walked. (Written by mk_copy.py.) -/
import Derived.Test.YtoebmjgkfkfhjaaGreatDoorOwTwin
import Derived.Laws.AppendOwnNone
import Derived.Deep.RegionHeld3
namespace Go.Proofs.YtoebmjgkfkfhjaaGreatDoor.Wd
open Go.RowKit Go.Proofs.YtoebmjgkfkfhjaaGreatDoor.Mem Go.Proofs.YtoebmjgkfkfhjaaGreatDoor.Bw Go.Proofs.YtoebmjgkfkfhjaaGreatDoor.Nums Go.Proofs.YtoebmjgkfkfhjaaGreatDoor.Mmu
theorem run_app_none {P : Program} {w : World} (base : Nat) (t ty e : TypeId) (i : TypeInfo) (size c : Nat) (ht : P.underlying t = some (.slice e)) (hi : P.info? e = some i) (v : Value) (n : Nat) (xs : List Value) (hown : w.ownsRow base e size v n xs) :
  (Builtin.append_ #[t, t] ty #[v, .slice none 0 c]).run P w = .ok v w := by
 rcases hown.2 with ⟨rfl, rfl⟩ | ⟨g, cap, cur, rfl, _, _, hnc, _⟩
 ·simp [Builtin.append_, run_underlying ht, sizeOf, typeInfo, hi, Builtin.lenOf, Builtin.firstCells]
 ·simp [Builtin.append_, run_underlying ht, sizeOf, typeInfo, hi, Builtin.lenOf, Builtin.firstCells, hnc, storeCells]
/-- 'append(v, x...)' where v is one's own and empty, and x is any row. -/
theorem run_app {P : Program} {w : World} (t ty e : TypeId) (i : TypeInfo) (z : Value) (size bytes : Nat) (ht : P.underlying t = some (.slice e)) (hi : P.info? e = some i) (hz : i.zero = some z) (hsize : i.size = size) (hby : i.bytes = bytes) (hzs : z.cells.size = size) (hsz : 0 < size)
  (base : Nat) (v : Value) (hown : w.ownsRow base e size v 0 []) (q : Option Addr) (m c : Nat) (news : List Value) (hq : 0 < m → q.isSome = true) (hl : news.length = m * size) (hnews : ∀ ad, q = some ad → ∀ j u, news[j]? = some u → w.cell? (ad.add j) = some u) (h1 : ∀ u ∈ news, u.oneCell' = true)
  (h63 : m ≤ maxLen) (hbytes : m * bytes ≤ 140737488355328) (hbase : base ≤ w.heap.size) :
  ∃ v' w', (Builtin.append_ #[t, t] ty #[v, .slice q m c]).run P w = .ok v' w' ∧ w'.ownsRow base e size v' m news ∧ w.grownBy w' v.ownBlock := by
 cases q with
 | none =>
  have hm : m = 0 := by
   rcases Nat.eq_zero_or_pos m with h | h
   ·exact h
   ·have := hq h
    cases this
  subst hm
  have hn : news = [] := List.length_eq_zero_iff.1 (by rw [hl, Nat.zero_mul])
  subst hn
  exact ⟨v, w, run_app_none base t ty e i size c ht hi v 0 [] hown, hown, ⟨rfl, rfl, rfl, Nat.le_refl _, fun _ _ _ => rfl⟩⟩
 | some ad =>
  obtain ⟨v', w', hr, h2, h3, _⟩ := run_append_own (P := P) w base t ty e i z size bytes ht hi hz hsize hby hzs hsz v 0 [] hown ad m c news hl (hnews ad rfl) h1 (by omega) (by rw [Nat.zero_add]; exact hbytes) hbase
  rw [Nat.zero_add, List.nil_append] at h2
  exact ⟨v', w', hr, h2, h3⟩
/-- The same onto 'T{}', which is made first. -/
theorem run_app_new {P : Program} (w : World) (t ty e : TypeId) (z : Value) (size bytes : Nat) (ht : P.underlying t = some (.slice e)) (hinfo : (P.info? e).map (fun i => (i.zero, i.size, i.bytes)) = some (some z, size, bytes)) (hzs : z.cells.size = size) (hsz : 0 < size)
  (q : Option Addr) (m c : Nat) (news : List Value) (hq : 0 < m → q.isSome = true) (hl : news.length = m * size) (hnews : ∀ ad, q = some ad → ∀ j u, news[j]? = some u → (w.alloc (.cells #[] e)).cell? (ad.add j) = some u) (h1 : ∀ u ∈ news, u.oneCell' = true)
  (h63 : m ≤ 1000) (hb : bytes ≤ 1000) :
  ∃ qv cv w', (Builtin.append_ #[t, t] ty #[.slice (some ⟨w.heap.size, 0, none⟩) 0 0, .slice q m c]).run P (w.alloc (.cells #[] e)) = .ok (.slice qv m cv) w' ∧ w'.ownsRow w.heap.size e size (.slice qv m cv) m news ∧ Below w.heap.size w w' := by
 obtain ⟨i, hi, hz, hs, hy⟩ := info_get hinfo
 have O0 := World.ownsRow_made (base := w.heap.size) (e := e) (size := size) w #[] 0 (Nat.le_refl _) (Nat.zero_le _) (by simp)
 have hm : m * bytes ≤ 1000 * 1000 := Nat.mul_le_mul h63 hb
 obtain ⟨v', w', hr, h2, h3⟩ := run_app t ty e i z size bytes ht hi hz hs hy hzs hsz w.heap.size _ O0 q m c news hq hl hnews h1 (by unfold maxLen; omega) (by omega) (by simp)
 obtain ⟨qv, cv, rfl⟩ := own_form h2
 exact ⟨qv, cv, w', hr, h2, (bal (Below.refl w.heap.size w) (.cells #[] e)).grown h3 (by simp) (fun k hk => (O0.lt k hk).1)⟩
/-- 'append' whose run is known, as a step of the walk. -/
theorem wpList_app {P : Program} {w w' : World} {ops : Array Oper} {rest : List Oper} {o : Oper} {a : Act} {Q : Exit → Act → World → Prop} (hgd : o.guard = none) (s x : Operand) (t : TypeId)
  (ho : o.op = .call { callee := .builtin .append, args := #[s, x], argTypes := #[t, t] }) (v u v' : Value) (hs : a.eval s = v) (hx : a.eval x = u) (hr : (Builtin.append_ #[t, t] o.type #[v, u]).run P w = .ok v' w')
  (h : wpList P ops Q rest (a.put o.dst v') w') : wpList P ops Q (o :: rest) a w := by
 refine wpList_plain hgd fun K hK => ?_
 unfold Oper.wp
 simp [execOp, ho, resolve, invoke, builtin, hs, hx, hr, Result.andThen]
 exact hK _ _ h
theorem ints_src {w W : World} {q : Option Addr} {b off : Nat} {zs : List Int} (hq : 0 < zs.length → q = some ⟨b, off, none⟩) (hz : IntsAt w b off zs) (hb : Below w.heap.size w W) : (0 < zs.length → q.isSome = true) ∧ ∀ ad, q = some ad → ∀ j u, (ints zs)[j]? = some u → W.cell? (ad.add j) = some u := by
 refine ⟨fun h => by rw [hq h]; rfl, fun ad e j u hj => ?_⟩
 by_cases h0 : 0 < zs.length
 ·rw [hq h0] at e
  cases e
  exact ints_at (hz.below hb) j u hj
 ·have : zs = [] := List.length_eq_zero_iff.1 (by omega)
  rw [this] at hj
  simp [ints] at hj
set_option maxRecDepth 100000 in
set_option maxHeartbeats 4000000 in
theorem copyAll_any (v : Value) (ls : List (List Int)) (w : World) (hv : ListsIn w v ls) (hl : ls.length ≤ 1000) (hll : ∀ l ∈ ls, l.length ≤ 1000) :
  Calls Tryz.prog 49 #[v] w fun r w' => ∃ u, r = .returned u ∧ OwnL w' w.heap.size w'.heap.size 22 3 1 ls.length u (ci ls) ∧ Below w.heap.size w w' := by
 obtain ⟨q, b, off, cap, rfl, hq, hz⟩ := hv
 have HQ := hid hq
 have HZ := hid hz
 have HX := hid hll
 have hl2 : (ls.length : Int) ≤ 1000 := by omega
 have mk := make_row Tryz.underlying25 infoL (by decide) (by decide) ls.length hl w
 rw [made_nil] at mk
 have P0 := hid (Part.start w ls.length 22 3 1 (ci ls) (by unfold maxLen; omega) _ rfl)
 have B0 := hid (bal (Below.refl w.heap.size w) (.cells (Array.replicate ls.length (Value.slice none 0 0)) 22))
 clear hq hz hll
 go_enter Tryz.func49, Tryz.ntmps49
 go_wp2_with fail
 generalize World.alloc _ _ = W0 at P0 B0 ⊢
 clear mk
 go_loopw [4] (fun i wr => ∃ (k : Nat), k ≤ ls.length ∧ i = .int .i64 k ∧ Hid (∃ us m, Part wr w.heap.size ls.length 22 3 1 (ci ls) k us m ∧ ∀ j, j < k → m j ≤ m (j + 1)) ∧ Hid (Below w.heap.size w wr)) (fun i _ => ls.length - (intOf i).toNat)
 case atStart => exact ⟨0, by omega, rfl, hid ⟨[], _, P0.out, fun j hj => by omega⟩, B0⟩
 case round =>
  obtain ⟨k, hk, rfl, HP, HB⟩ := hrel
  by_cases hlt : k < ls.length
  ·have hlt2 : (k : Int) < (ls.length : Int) := by omega
   obtain ⟨us, m, hp, hm⟩ := HP.out
   have hqe := HQ.out (by omega)
   subst hqe
   obtain ⟨x, hx, hxi⟩ := HZ.out k hlt
   have cx := (HB.out.cell (World.block_lt_of_cell? _ _ hx)).trans hx
   have cx2 := (World.cell?_alloc_lt wr (.cells #[] 3) _ (World.block_lt_of_cell? _ _ cx)).trans cx
   obtain ⟨q1, b1, off1, cap1, rfl, hq1, hz1⟩ := hxi
   have SR := ints_src hq1 hz1 (bal HB.out (.cells #[] 3))
   obtain ⟨qv, cv, w1, hrun, hu, hb⟩ := run_app_new (P := Tryz.prog) wr 22 22 3 (.int .i64 0) 1 8 Tryz.underlying22 infoI rfl (by decide) q1 ls[k].length cap1 (ints ls[k]) SR.1 (ints_len _) SR.2 (ints_one _) (HX.out _ (List.getElem_mem hlt)) (by decide)
   have HC := hid (show (ci ls) k = (ls[k].length, ints ls[k]) by unfold ci; rw [List.getD_eq_getElem?_getD, List.getElem?_eq_getElem hlt]; rfl)
   have ck := (hp.below hb).cell hlt
   have fk := (hp.below hb).row.frozenAt k
   have HN := hid (hp.more hlt hb (u := .slice qv ls[k].length cv) (by rw [HC.out]; exact hu))
   have B1 := hid (bset (btr HB.out hb) (o := k) (Nat.le_refl _) (.slice qv ls[k].length cv))
   have H1 := hid (show m k ≤ w1.heap.size from Nat.le_trans hp.hi hb.size)
   have HM := hid hm
   have HR := hid hrun
   clear hx hp hm HP hq1 hz1 SR hu hb HC hrun
   go_wp2_with (at_builtin; refine wpList_app rfl _ _ _ rfl _ _ _ rfl rfl HR.out ?_)
   refine ⟨⟨k + 1, by omega, by go_num, hid ⟨_, _, HN.out, fun j hj => ?_⟩, B1⟩, by simp [intOf]; omega⟩
   by_cases e : j < k
   ·rw [if_pos (by omega), if_pos (by omega)]
    exact HM.out j e
   ·rw [if_pos (by omega), if_neg (by omega), show j = k by omega]
    exact H1.out
  ·obtain rfl : k = ls.length := by omega
   have hge : ¬ ((ls.length : Int) < (ls.length : Int)) := by omega
   obtain ⟨us, m, hp, hm⟩ := HP.out
   have HPP := hid hp
   have HM := hid hm
   clear hp hm HP
   go_wp2_with fail
   go_ret
   exact ⟨_, rfl, ⟨w.heap.size, us, m, rfl, Nat.le_refl _, HPP.out.hi, HM.out, HPP.out⟩, HB.out⟩
theorem own_belowN {w w' : World} {N B e size n : Nat} {v : Value} {xs : List Value} (h : w.ownsRow B e size v n xs) (hn : ∀ k, v.ownBlock = some k → k < N) (hb : Below N w w') : w'.ownsRow B e size v n xs := by
 refine ⟨h.1, ?_⟩
 rcases h.2 with h2 | ⟨g, cap, cur, rfl, h3, h4, h5⟩
 ·exact .inl h2
 ·exact .inr ⟨g, cap, cur, rfl, h3, by rw [hb.block g (hn g rfl)]; exact h4, h5⟩
theorem InO.belowN {w w' : World} {N lo hi I s : Nat} {u : Value} {c : Nat × List Value} (h : InO w lo hi I s u c) (hN : hi ≤ N) (hb : Below N w w') : InO w' lo hi I s u c := ⟨own_belowN h.1 (fun k hk => Nat.lt_of_lt_of_le (h.2 k hk) hN) hb, h.2⟩
theorem OwnL.belowN {w w' : World} {N lo hi O I s n : Nat} {v : Value} {cc : Nat → Nat × List Value} (h : OwnL w lo hi O I s n v cc) (hN : hi ≤ N) (hb : Below N w w') (hs : N ≤ w'.heap.size) : OwnL w' lo hi O I s n v cc := by
 obtain ⟨g, us, m, h1, h2, h3, h4, h5⟩ := h
 have up : ∀ d j, j + d = n → m j ≤ m n := fun d => by
  induction d with
  | zero => intro j hj; rw [show j = n by omega]; exact Nat.le_refl _
  | succ d ih => intro j hj; exact Nat.le_trans (h4 j (by omega)) (ih (j + 1) (by omega))
 have g1 : g < N := Nat.lt_of_lt_of_le (h5.lo n (Nat.le_refl _)) (Nat.le_trans h3 hN)
 refine ⟨g, us, m, h1, h2, h3, h4, ⟨h5.len, own_belowN h5.row (fun k hk => ?_) hb, h5.lo, Nat.le_trans h3 (Nat.le_trans hN hs), fun j hj => (h5.each j hj).belowN (Nat.le_trans (up (n - (j + 1)) (j + 1) (by rw [h5.len] at hj; omega)) (Nat.le_trans h3 hN)) hb⟩⟩
 have : g = k := by simpa [Value.ownBlock] using hk
 omega
/-- While the lists are copied one by one: where the world that is copied lies (at w's next block), and where the new one. -/
structure CS (w : World) (V : Nat → Value) (W : World) (xs : List Value) : Prop where
 bel : Below w.heap.size w W
 src : W.rangeAt w.heap.size 0 (arr11 V).toList
 out : W.rangeAt (w.heap.size + 2) 0 xs
 th : W.there (w.heap.size + 2) 0 11
 res : W.there (w.heap.size + 1) 0 11
 sz : w.heap.size + 3 ≤ W.heap.size
theorem CS.grow {w W W' : World} {V : Nat → Value} {xs : List Value} (h : CS w V W xs) (hb : Below W.heap.size W W') : CS w V W' xs :=
 ⟨btr h.bel hb, range_below h.src hb, range_below h.out hb, there_belowO h.th hb, there_belowO h.res hb, Nat.le_trans h.sz hb.size⟩
theorem CS.put {w W : World} {V : Nat → Value} {xs : List Value} (h : CS w V W xs) {j : Nat} (hj : j < xs.length) (v : Value) : CS w V (W.setCell ⟨w.heap.size + 2, j, none⟩ v) (xs.set j v) :=
 ⟨bset h.bel (by omega) v, range_far h.src (by omega) v, range_set h.out hj v, there_set h.th _ v, there_set h.res _ v, by simpa using h.sz⟩
theorem CS.cell {w W : World} {V : Nat → Value} {xs : List Value} (h : CS w V W xs) {j : Nat} {v : Value} (hj : (arr11 V).toList[j]? = some v) : W.cell? ⟨w.heap.size, j, none⟩ = some v := range_cell h.src hj
theorem CS.ocell {w W : World} {V : Nat → Value} {xs : List Value} (h : CS w V W xs) {j : Nat} {v : Value} (hj : xs[j]? = some v) : W.cell? ⟨w.heap.size + 2, j, none⟩ = some v := range_cell h.out hj
theorem CS.frz {w W : World} {V : Nat → Value} {xs : List Value} (h : CS w V W xs) {j : Nat} (hj : j < 11) : W.frozen? ⟨w.heap.size + 2, j, none⟩ = false := by
 have := (h.th j hj).2
 rwa [Nat.zero_add] at this
theorem there_N {N : Nat} {w w' : World} {b n : Nat} (h : w.there b 0 n) (hb : Below N w w') (hN : b < N) : w'.there b 0 n := fun j hj => by
 obtain ⟨h1, h2⟩ := h j hj
 exact ⟨by rw [hb.cell (p := ⟨b, 0 + j, none⟩) hN]; exact h1, by rw [hb.frozen (p := ⟨b, 0 + j, none⟩) hN]; exact h2⟩
theorem range_N {N : Nat} {w w' : World} {b : Nat} {cs : List Value} (h : w.rangeAt b 0 cs) (hb : Below N w w') (hN : b < N) : w'.rangeAt b 0 cs := fun j v hv => (hb.cell (p := ⟨b, 0 + j, none⟩) hN).trans (h j v hv)
theorem CS.growN {w W W' : World} {N : Nat} {V : Nat → Value} {xs : List Value} (h : CS w V W xs) (hN : w.heap.size + 3 ≤ N) (hb : Below N W W') (hs : N ≤ W'.heap.size) : CS w V W' xs :=
 ⟨h.bel.trans (hb.mono (by omega)), range_N h.src hb (by omega), range_N h.out hb (by omega), there_N h.th hb (by omega), there_N h.res hb (by omega), Nat.le_trans hN hs⟩
theorem rows_src {n : Nat} {w W : World} {q : Option Addr} {b off : Nat} {fs : List (Nat → Int)} (hq : 0 < fs.length → q = some ⟨b, off, none⟩) (hz : ∀ j (h : j < fs.length), w.rangeAt b (off + j * n) (cf n fs[j])) (hb : Below w.heap.size w W) : (0 < fs.length → q.isSome = true) ∧ ∀ ad, q = some ad → ∀ j u, (rowsC n fs)[j]? = some u → W.cell? (ad.add j) = some u := by
 refine ⟨fun h => by rw [hq h]; rfl, fun ad e j u hj => ?_⟩
 by_cases h0 : 0 < fs.length
 ·rw [hq h0] at e
  cases e
  exact rowsC_cells (fun j hj => range_belowO (hz j hj) hb) j u hj
 ·have : fs = [] := List.length_eq_zero_iff.1 (by omega)
  rw [this] at hj
  simp [rowsC] at hj
theorem ents_src {w W : World} {q : Option Addr} {b off : Nat} {l : List Ent} (hq : 0 < l.length → q = some ⟨b, off, none⟩) (hz : EntsAt w b off l) (hb : Below w.heap.size w W) : (0 < l.length → q.isSome = true) ∧ ∀ ad, q = some ad → ∀ j u, (cellsE l)[j]? = some u → W.cell? (ad.add j) = some u := by
 refine ⟨fun h => by rw [hq h]; rfl, fun ad e j u hj => ?_⟩
 by_cases h0 : 0 < l.length
 ·rw [hq h0] at e
  cases e
  exact ents_cells (hz.below hb) j u hj
 ·have : l = [] := List.length_eq_zero_iff.1 (by omega)
  rw [this] at hj
  simp [cellsE] at hj
/-- 'append' whose run is known, as one operation. -/
theorem wp_app1 {P : Program} {w w' : World} {o : Oper} {a : Act} {K : Act → World → Prop} {Q : Exit → Act → World → Prop} (s x : Operand) (t : TypeId)
  (ho : o.op = .call { callee := .builtin .append, args := #[s, x], argTypes := #[t, t] }) (v u v' : Value) (hs : a.eval s = v) (hx : a.eval x = u) (hr : (Builtin.append_ #[t, t] o.type #[v, u]).run P w = .ok v' w')
  (h : K (a.put o.dst v') w') : o.wp P a w K Q := by
 unfold Oper.wp
 simp [execOp, ho, resolve, invoke, builtin, hs, hx, hr, Result.andThen]
 exact h
theorem IntsIn.one {w : World} {v : Value} {zs : List Int} (h : IntsIn w v zs) : v.oneCell' = true := by obtain ⟨q, b, off, cap, rfl, _⟩ := h; rfl
theorem ListsIn.one {w : World} {v : Value} {zs : List (List Int)} (h : ListsIn w v zs) : v.oneCell' = true := by obtain ⟨q, b, off, cap, rfl, _⟩ := h; rfl
theorem TlbsIn.one {w : World} {v : Value} {zs : List (List Ent)} (h : TlbsIn w v zs) : v.oneCell' = true := by obtain ⟨q, b, off, cap, rfl, _⟩ := h; rfl
theorem RowsIn.one {n : Nat} {w : World} {v : Value} {zs : List (Nat → Int)} (h : RowsIn n w v zs) : v.oneCell' = true := by obtain ⟨q, b, off, cap, rfl, _⟩ := h; rfl
theorem there_sets {b n B : Nat} : ∀ (vs : List Value) (o : Nat) (w : World), w.there b 0 n → (w.setCells B o vs).there b 0 n
 | [], _, _, h => h
 | v :: r, o, w, h => by
  rw [World.setCells]
  exact there_sets r (o + 1) _ (there_set h ⟨B, o, none⟩ v)
theorem world_one {w : World} {V : Nat → Value} {p : PW} (h : WorldV w V p) : (arr11 V).all (·.oneCell') = true := Array.all_eq_true'.2 fun x hx => by
 simp only [List.mem_toArray, List.mem_cons, List.not_mem_nil, or_false] at hx
 rcases hx with rfl | rfl | rfl | rfl | rfl | rfl | rfl | rfl | rfl | rfl | rfl
 ·exact h.ram.one
 ·exact h.kinds.one
 ·exact h.slots.one
 ·exact h.tasks.one
 ·exact h.lines.one
 ·exact h.bits.one
 ·exact h.cores.one
 ·exact h.ready.one
 ·exact h.tlbs.one
 ·exact h.doms.one
 ·rw [h.time]; rfl
set_option maxRecDepth 100000 in
set_option maxHeartbeats 20000000 in
theorem copy_ref (V : Nat → Value) (p : PW) (w : World) (hv : WorldV w V p) (hp : p.Fits) :
  Calls Tryz.prog 22 #[.agg (arr11 V)] w fun r w' => ∃ V' L, r = .returned (.agg (arr11 V')) ∧ WorldO w' L V' p ∧ w.heap.size ≤ L 0 ∧ L 10 ≤ w'.heap.size ∧ Below w.heap.size w w' := by
 have RG1 := boxed w V 28
 have RG2 := range_below RG1 (bal (Below.refl _ (w.alloc (.cells (arr11 V) 28))) (.cells #[.slice none 0 0, .slice none 0 0, .slice none 0 0, .slice none 0 0, .slice none 0 0, .slice none 0 0, .slice none 0 0, .slice none 0 0, .slice none 0 0, .slice none 0 0, .int .i64 0] 28))
 have RG := hid RG2
 have RG3 := range_below RG2 (bal (Below.refl _ ((w.alloc (.cells (arr11 V) 28)).alloc (.cells #[.slice none 0 0, .slice none 0 0, .slice none 0 0, .slice none 0 0, .slice none 0 0, .slice none 0 0, .slice none 0 0, .slice none 0 0, .slice none 0 0, .slice none 0 0, .int .i64 0] 28))) (.cells #[.slice none 0 0, .slice none 0 0, .slice none 0 0, .slice none 0 0, .slice none 0 0, .slice none 0 0, .slice none 0 0, .slice none 0 0, .slice none 0 0, .slice none 0 0, .int .i64 0] 28))
 have TO := hid (there_new ((w.alloc (.cells (arr11 V) 28)).alloc (.cells #[.slice none 0 0, .slice none 0 0, .slice none 0 0, .slice none 0 0, .slice none 0 0, .slice none 0 0, .slice none 0 0, .slice none 0 0, .slice none 0 0, .slice none 0 0, .int .i64 0] 28)) #[.slice none 0 0, .slice none 0 0, .slice none 0 0, .slice none 0 0, .slice none 0 0, .slice none 0 0, .slice none 0 0, .slice none 0 0, .slice none 0 0, .slice none 0 0, .int .i64 0] 28 (w.heap.size + 2) 11 (by simp) (by decide))
 have TR := hid (there_belowO (there_new (w.alloc (.cells (arr11 V) 28)) #[.slice none 0 0, .slice none 0 0, .slice none 0 0, .slice none 0 0, .slice none 0 0, .slice none 0 0, .slice none 0 0, .slice none 0 0, .slice none 0 0, .slice none 0 0, .int .i64 0] 28 (w.heap.size + 1) 11 (by simp) (by decide)) (bal (Below.refl _ ((w.alloc (.cells (arr11 V) 28)).alloc (.cells #[.slice none 0 0, .slice none 0 0, .slice none 0 0, .slice none 0 0, .slice none 0 0, .slice none 0 0, .slice none 0 0, .slice none 0 0, .slice none 0 0, .slice none 0 0, .int .i64 0] 28))) (.cells #[.slice none 0 0, .slice none 0 0, .slice none 0 0, .slice none 0 0, .slice none 0 0, .slice none 0 0, .slice none 0 0, .slice none 0 0, .slice none 0 0, .slice none 0 0, .int .i64 0] 28)))
 have one := hid (world_one hv)
 have H0 := hid (show CS w V ((((w.alloc (.cells (arr11 V) 28)).alloc (.cells #[.slice none 0 0, .slice none 0 0, .slice none 0 0, .slice none 0 0, .slice none 0 0, .slice none 0 0, .slice none 0 0, .slice none 0 0, .slice none 0 0, .slice none 0 0, .int .i64 0] 28)).alloc (.cells #[.slice none 0 0, .slice none 0 0, .slice none 0 0, .slice none 0 0, .slice none 0 0, .slice none 0 0, .slice none 0 0, .slice none 0 0, .slice none 0 0, .slice none 0 0, .int .i64 0] 28)).setCells (w.heap.size + 2) 0 (arr11 V).toList) (arr11 V).toList from ⟨below_setCells (bal (bal (bal (Below.refl w.heap.size w) (.cells (arr11 V) 28)) (.cells #[.slice none 0 0, .slice none 0 0, .slice none 0 0, .slice none 0 0, .slice none 0 0, .slice none 0 0, .slice none 0 0, .slice none 0 0, .slice none 0 0, .slice none 0 0, .int .i64 0] 28)) (.cells #[.slice none 0 0, .slice none 0 0, .slice none 0 0, .slice none 0 0, .slice none 0 0, .slice none 0 0, .slice none 0 0, .slice none 0 0, .slice none 0 0, .slice none 0 0, .int .i64 0] 28)) (by omega) _ 0,
  fun k v hk => by
   rw [World.cell?_setCells_out (w.heap.size + 2) _ 0 _ ⟨w.heap.size, 0 + k, none⟩ (fun e _ => by simp at e)]
   exact RG3 k v hk,
  World.rangeAt_setCells_same _ (w.heap.size + 2) 0 (arr11 V).toList TO.out, there_sets (arr11 V).toList 0 _ TO.out, there_sets (arr11 V).toList 0 _ TR.out, by rw [setCells_size]; simp⟩)
 clear RG1 RG2 RG3
 obtain ⟨q0, b0, off0, cap0, e0, hq0, hz0⟩ := hv.ram
 have HQ0 := hid hq0
 have HZ0 := hid hz0
 clear hq0 hz0
 obtain ⟨q1, b1, off1, cap1, e1, hq1, hz1⟩ := hv.kinds
 have HQ1 := hid hq1
 have HZ1 := hid hz1
 clear hq1 hz1
 obtain ⟨q2, b2, off2, cap2, e2, hq2, hz2⟩ := hv.slots
 have HQ2 := hid hq2
 have HZ2 := hid hz2
 clear hq2 hz2
 obtain ⟨q3, b3, off3, cap3, e3, hq3, hz3⟩ := hv.tasks
 have HQ3 := hid hq3
 have HZ3 := hid hz3
 clear hq3 hz3
 obtain ⟨q4, b4, off4, cap4, e4, -, -⟩ := hv.lines
 obtain ⟨q5, b5, off5, cap5, e5, hq5, hz5⟩ := hv.bits
 have HQ5 := hid hq5
 have HZ5 := hid hz5
 clear hq5 hz5
 obtain ⟨q6, b6, off6, cap6, e6, hq6, hz6⟩ := hv.cores
 have HQ6 := hid hq6
 have HZ6 := hid hz6
 clear hq6 hz6
 obtain ⟨q7, b7, off7, cap7, e7, -, -⟩ := hv.ready
 obtain ⟨q8, b8, off8, cap8, e8, hq8, hz8⟩ := hv.tlbs
 have HQ8 := hid hq8
 have HZ8 := hid hz8
 clear hq8 hz8
 obtain ⟨q9, b9, off9, cap9, e9, hq9, hz9⟩ := hv.doms
 have HQ9 := hid hq9
 have HZ9 := hid hz9
 clear hq9 hz9
 have HP := hid hp
 have HVW := hid (fun W (hb : Below w.heap.size w W) => hv.below hb)
 have e10 := hv.time
 clear hv hp
 go_enter Tryz.func22, Tryz.ntmps22
 go_upto_region 2 with (first | ((with_reducible (show wpList _ _ _ (⟨_, Op.load 28 _, _, _, _, _⟩ :: _) _ _)); refine wp_ldWg (by rfl) _ rfl _ rfl V RG.out ?_) | ((with_reducible (show wpList _ _ _ (⟨_, Op.store 28 _ _, _, _, _, _⟩ :: _) _ _)); refine wpList_store_mid rfl 28 _ _ rfl (w.heap.size + 2) 0 (arr11 V) rfl rfl TO.out infoW one.out ?_))
 generalize World.setCells _ _ _ _ = W0 at *
 clear TO TR RG one
 have M0 := hid (show ∀ i, i < 0 → w.heap.size + 2 < (ll []) i from fun i hi => by omega)
 have G0 := hid (H0.out.grow (bal (Below.refl _ W0) (.cells #[] 3)))
 have c0 := G0.out.cell (j := 0) rfl
 have SR := ints_src HQ0.out HZ0.out G0.out.bel
 obtain ⟨qv0, cv0, w1, hrun, hu, hb⟩ := run_app_new (P := Tryz.prog) W0 22 22 3 (.int .i64 0) 1 8 Tryz.underlying22 infoI rfl (by decide) q0 p.ram.length cap0 (ints p.ram) SR.1 (ints_len _) SR.2 (ints_one _) HP.out.ram (by decide)
 have HR := hid hrun
 have K0 := hid (H0.out.grow hb)
 have oc := K0.out.ocell (j := 0) rfl
 have fz := K0.out.frz (j := 0) (by decide)
 have H1 := hid (show CS w V (w1.setCell ⟨w.heap.size + 2, 0, none⟩ (.slice qv0 p.ram.length cv0)) [.slice qv0 p.ram.length cv0, V 1, V 2, V 3, V 4, V 5, V 6, V 7, V 8, V 9, V 10] from K0.out.put (j := 0) (show 0 < 11 by decide) (.slice qv0 p.ram.length cv0))
 have hs1 := hid (show w.heap.size + 2 < W0.heap.size from Nat.lt_of_lt_of_le (Nat.lt_succ_self _) H0.out.sz)
 have O0 := hid (InO.set (show InO w1 W0.heap.size w1.heap.size _ _ _ (p.ram.length, ints p.ram) from ⟨hu, fun x hx => (hu.lt x hx).2⟩) (a := ⟨w.heap.size + 2, 0, none⟩) hs1.out (.slice qv0 p.ram.length cv0))
 have S1 := hid (show w1.heap.size = (w1.setCell ⟨w.heap.size + 2, 0, none⟩ (.slice qv0 p.ram.length cv0)).heap.size by simp)
 have bs0 := hid (show W0.heap.size ≤ w1.heap.size from hb.size)
 clear hrun hu hb SR G0 K0 hs1
 go_upto_region 3 with (at_builtin; refine wpList_app rfl _ _ _ rfl _ _ _ rfl rfl HR.out ?_)
 rw [S1.out] at bs0 O0
 generalize World.setCell _ _ _ = W1 at *
 clear oc fz c0 S1 HR
 have M1 := hid (show ∀ i, i < 1 → w.heap.size + 2 < (ll [W0.heap.size]) i from fun i hi => by
  have := H0.out.sz
  have t0 := bs0.out
  have hi2 : i = 0 := by omega
  subst hi2
  show _ < W0.heap.size
  omega)
 have G1 := hid (H1.out.grow (bal (Below.refl _ W1) (.cells #[] 3)))
 have c1 := G1.out.cell (j := 1) rfl
 have SR := ints_src HQ1.out HZ1.out G1.out.bel
 obtain ⟨qv1, cv1, w1, hrun, hu, hb⟩ := run_app_new (P := Tryz.prog) W1 22 22 3 (.int .i64 0) 1 8 Tryz.underlying22 infoI rfl (by decide) q1 p.kinds.length cap1 (ints p.kinds) SR.1 (ints_len _) SR.2 (ints_one _) HP.out.kinds (by decide)
 have HR := hid hrun
 have K1 := hid (H1.out.grow hb)
 have oc := K1.out.ocell (j := 1) rfl
 have fz := K1.out.frz (j := 1) (by decide)
 have H2 := hid (show CS w V (w1.setCell ⟨w.heap.size + 2, 1, none⟩ (.slice qv1 p.kinds.length cv1)) [.slice qv0 p.ram.length cv0, .slice qv1 p.kinds.length cv1, V 2, V 3, V 4, V 5, V 6, V 7, V 8, V 9, V 10] from K1.out.put (j := 1) (show 1 < 11 by decide) (.slice qv1 p.kinds.length cv1))
 have hs1 := hid (show w.heap.size + 2 < W1.heap.size from Nat.lt_of_lt_of_le (Nat.lt_succ_self _) H1.out.sz)
 have O1 := hid (InO.set (show InO w1 W1.heap.size w1.heap.size _ _ _ (p.kinds.length, ints p.kinds) from ⟨hu, fun x hx => (hu.lt x hx).2⟩) (a := ⟨w.heap.size + 2, 1, none⟩) hs1.out (.slice qv1 p.kinds.length cv1))
 have P0 := hid (InO.set (InO.below O0.out hb) (a := ⟨w.heap.size + 2, 1, none⟩) (M1.out 0 (by decide)) (.slice qv1 p.kinds.length cv1))
 have S2 := hid (show w1.heap.size = (w1.setCell ⟨w.heap.size + 2, 1, none⟩ (.slice qv1 p.kinds.length cv1)).heap.size by simp)
 have bs1 := hid (show W1.heap.size ≤ w1.heap.size from hb.size)
 clear hrun hu hb SR G1 K1 hs1
 go_upto_region 4 with (at_builtin; refine wpList_app rfl _ _ _ rfl _ _ _ rfl rfl HR.out ?_)
 clear O0
 have O0 := P0
 clear P0
 rw [S2.out] at bs1 O1
 generalize World.setCell _ _ _ = W2 at *
 clear oc fz c1 S2 HR
 have M2 := hid (show ∀ i, i < 2 → w.heap.size + 2 < (ll [W0.heap.size, W1.heap.size]) i from fun i hi => by
  have := H0.out.sz
  have t0 := bs0.out
  have t1 := bs1.out
  have hi2 : i = 0 ∨ i = 1 := by omega
  rcases hi2 with rfl | rfl
  ·show _ < W0.heap.size; omega
  ·show _ < W1.heap.size; omega)
 have G2 := hid (H2.out.grow (bal (Below.refl _ W2) (.cells #[] 64)))
 have c2 := G2.out.cell (j := 2) rfl
 have SR := rows_src HQ2.out HZ2.out G2.out.bel
 obtain ⟨qv2, cv2, w1, hrun, hu, hb⟩ := run_app_new (P := Tryz.prog) W2 23 23 64 (.agg #[.int .i64 0, .int .i64 0, .int .i64 0, .int .i64 0, .int .i64 0, .int .i64 0, .int .i64 0]) 7 56 Tryz.underlying23 infoslots rfl (by decide) q2 p.slots.length cap2 (rowsC 7 p.slots) SR.1 (rowsC_len 7 _) SR.2 (rowsC_one 7 _) HP.out.slots (by decide)
 have HR := hid hrun
 have K2 := hid (H2.out.grow hb)
 have oc := K2.out.ocell (j := 2) rfl
 have fz := K2.out.frz (j := 2) (by decide)
 have H3 := hid (show CS w V (w1.setCell ⟨w.heap.size + 2, 2, none⟩ (.slice qv2 p.slots.length cv2)) [.slice qv0 p.ram.length cv0, .slice qv1 p.kinds.length cv1, .slice qv2 p.slots.length cv2, V 3, V 4, V 5, V 6, V 7, V 8, V 9, V 10] from K2.out.put (j := 2) (show 2 < 11 by decide) (.slice qv2 p.slots.length cv2))
 have hs1 := hid (show w.heap.size + 2 < W2.heap.size from Nat.lt_of_lt_of_le (Nat.lt_succ_self _) H2.out.sz)
 have O2 := hid (InO.set (show InO w1 W2.heap.size w1.heap.size _ _ _ (p.slots.length, rowsC 7 p.slots) from ⟨hu, fun x hx => (hu.lt x hx).2⟩) (a := ⟨w.heap.size + 2, 2, none⟩) hs1.out (.slice qv2 p.slots.length cv2))
 have P0 := hid (InO.set (InO.below O0.out hb) (a := ⟨w.heap.size + 2, 2, none⟩) (M2.out 0 (by decide)) (.slice qv2 p.slots.length cv2))
 have P1 := hid (InO.set (InO.below O1.out hb) (a := ⟨w.heap.size + 2, 2, none⟩) (M2.out 1 (by decide)) (.slice qv2 p.slots.length cv2))
 have S3 := hid (show w1.heap.size = (w1.setCell ⟨w.heap.size + 2, 2, none⟩ (.slice qv2 p.slots.length cv2)).heap.size by simp)
 have bs2 := hid (show W2.heap.size ≤ w1.heap.size from hb.size)
 clear hrun hu hb SR G2 K2 hs1
 go_upto_region 5 with (at_builtin; refine wpList_app rfl _ _ _ rfl _ _ _ rfl rfl HR.out ?_)
 clear O0 O1
 have O0 := P0
 have O1 := P1
 clear P0 P1
 rw [S3.out] at bs2 O2
 generalize World.setCell _ _ _ = W3 at *
 clear oc fz c2 S3 HR
 have M3 := hid (show ∀ i, i < 3 → w.heap.size + 2 < (ll [W0.heap.size, W1.heap.size, W2.heap.size]) i from fun i hi => by
  have := H0.out.sz
  have t0 := bs0.out
  have t1 := bs1.out
  have t2 := bs2.out
  have hi2 : i = 0 ∨ i = 1 ∨ i = 2 := by omega
  rcases hi2 with rfl | rfl | rfl
  ·show _ < W0.heap.size; omega
  ·show _ < W1.heap.size; omega
  ·show _ < W2.heap.size; omega)
 have G3 := hid (H3.out.grow (bal (Below.refl _ W3) (.cells #[] 85)))
 have c3 := G3.out.cell (j := 3) rfl
 have SR := rows_src HQ3.out HZ3.out G3.out.bel
 obtain ⟨qv3, cv3, w1, hrun, hu, hb⟩ := run_app_new (P := Tryz.prog) W3 24 24 85 (.agg #[.int .i64 0, .int .i64 0, .int .i64 0, .int .i64 0, .int .i64 0, .int .i64 0, .int .i64 0, .int .i64 0, .int .i64 0, .int .i64 0, .int .i64 0, .int .i64 0, .int .i64 0, .int .i64 0, .int .i64 0, .int .i64 0, .int .i64 0, .int .i64 0, .int .i64 0, .int .i64 0]) 20 160 Tryz.underlying24 infotasks rfl (by decide) q3 p.tasks.length cap3 (rowsC 20 p.tasks) SR.1 (rowsC_len 20 _) SR.2 (rowsC_one 20 _) HP.out.tasks (by decide)
 have HR := hid hrun
 have K3 := hid (H3.out.grow hb)
 have oc := K3.out.ocell (j := 3) rfl
 have fz := K3.out.frz (j := 3) (by decide)
 have H4 := hid (show CS w V (w1.setCell ⟨w.heap.size + 2, 3, none⟩ (.slice qv3 p.tasks.length cv3)) [.slice qv0 p.ram.length cv0, .slice qv1 p.kinds.length cv1, .slice qv2 p.slots.length cv2, .slice qv3 p.tasks.length cv3, V 4, V 5, V 6, V 7, V 8, V 9, V 10] from K3.out.put (j := 3) (show 3 < 11 by decide) (.slice qv3 p.tasks.length cv3))
 have hs1 := hid (show w.heap.size + 2 < W3.heap.size from Nat.lt_of_lt_of_le (Nat.lt_succ_self _) H3.out.sz)
 have O3 := hid (InO.set (show InO w1 W3.heap.size w1.heap.size _ _ _ (p.tasks.length, rowsC 20 p.tasks) from ⟨hu, fun x hx => (hu.lt x hx).2⟩) (a := ⟨w.heap.size + 2, 3, none⟩) hs1.out (.slice qv3 p.tasks.length cv3))
 have P0 := hid (InO.set (InO.below O0.out hb) (a := ⟨w.heap.size + 2, 3, none⟩) (M3.out 0 (by decide)) (.slice qv3 p.tasks.length cv3))
 have P1 := hid (InO.set (InO.below O1.out hb) (a := ⟨w.heap.size + 2, 3, none⟩) (M3.out 1 (by decide)) (.slice qv3 p.tasks.length cv3))
 have P2 := hid (InO.set (InO.below O2.out hb) (a := ⟨w.heap.size + 2, 3, none⟩) (M3.out 2 (by decide)) (.slice qv3 p.tasks.length cv3))
 have S4 := hid (show w1.heap.size = (w1.setCell ⟨w.heap.size + 2, 3, none⟩ (.slice qv3 p.tasks.length cv3)).heap.size by simp)
 have bs3 := hid (show W3.heap.size ≤ w1.heap.size from hb.size)
 clear hrun hu hb SR G3 K3 hs1
 go_upto_region 6 with (at_builtin; refine wpList_app rfl _ _ _ rfl _ _ _ rfl rfl HR.out ?_)
 clear O0 O1 O2
 have O0 := P0
 have O1 := P1
 have O2 := P2
 clear P0 P1 P2
 rw [S4.out] at bs3 O3
 generalize World.setCell _ _ _ = W4 at *
 clear oc fz c3 S4 HR
 have M4 := hid (show ∀ i, i < 4 → w.heap.size + 2 < (ll [W0.heap.size, W1.heap.size, W2.heap.size, W3.heap.size]) i from fun i hi => by
  have := H0.out.sz
  have t0 := bs0.out
  have t1 := bs1.out
  have t2 := bs2.out
  have t3 := bs3.out
  have hi2 : i = 0 ∨ i = 1 ∨ i = 2 ∨ i = 3 := by omega
  rcases hi2 with rfl | rfl | rfl | rfl
  ·show _ < W0.heap.size; omega
  ·show _ < W1.heap.size; omega
  ·show _ < W2.heap.size; omega
  ·show _ < W3.heap.size; omega)
 have c4 := H4.out.cell (j := 4) rfl
 go_wp2_with fail
 refine (copyAll_any _ p.lines W4 (e4 ▸ (HVW.out _ H4.out.bel).lines) HP.out.lines HP.out.line).mono ?_
 rintro r w1 ⟨u, rfl, hu, hb⟩
 obtain ⟨qv4, rfl⟩ := ownl_form hu
 have K4 := hid (H4.out.grow hb)
 have oc := K4.out.ocell (j := 4) rfl
 have fz := K4.out.frz (j := 4) (by decide)
 have H5 := hid (show CS w V (w1.setCell ⟨w.heap.size + 2, 4, none⟩ (.slice qv4 p.lines.length p.lines.length)) [.slice qv0 p.ram.length cv0, .slice qv1 p.kinds.length cv1, .slice qv2 p.slots.length cv2, .slice qv3 p.tasks.length cv3, .slice qv4 p.lines.length p.lines.length, V 5, V 6, V 7, V 8, V 9, V 10] from K4.out.put (j := 4) (show 4 < 11 by decide) (.slice qv4 p.lines.length p.lines.length))
 have hs1 := hid (show w.heap.size + 2 < W4.heap.size from Nat.lt_of_lt_of_le (Nat.lt_succ_self _) H4.out.sz)
 have O4 := hid (OwnL.set hu (a := ⟨w.heap.size + 2, 4, none⟩) hs1.out (.slice qv4 p.lines.length p.lines.length))
 have P0 := hid (InO.set (InO.below O0.out hb) (a := ⟨w.heap.size + 2, 4, none⟩) (M4.out 0 (by decide)) (.slice qv4 p.lines.length p.lines.length))
 have P1 := hid (InO.set (InO.below O1.out hb) (a := ⟨w.heap.size + 2, 4, none⟩) (M4.out 1 (by decide)) (.slice qv4 p.lines.length p.lines.length))
 have P2 := hid (InO.set (InO.below O2.out hb) (a := ⟨w.heap.size + 2, 4, none⟩) (M4.out 2 (by decide)) (.slice qv4 p.lines.length p.lines.length))
 have P3 := hid (InO.set (InO.below O3.out hb) (a := ⟨w.heap.size + 2, 4, none⟩) (M4.out 3 (by decide)) (.slice qv4 p.lines.length p.lines.length))
 have S5 := hid (show w1.heap.size = (w1.setCell ⟨w.heap.size + 2, 4, none⟩ (.slice qv4 p.lines.length p.lines.length)).heap.size by simp)
 have bs4 := hid (show W4.heap.size ≤ w1.heap.size from hb.size)
 clear hu hb K4 hs1
 go_upto_region 7 with fail
 clear O0 O1 O2 O3
 have O0 := P0
 have O1 := P1
 have O2 := P2
 have O3 := P3
 clear P0 P1 P2 P3
 rw [S5.out] at bs4 O4
 generalize World.setCell _ _ _ = W5 at *
 clear oc fz c4 S5
 have M5 := hid (show ∀ i, i < 5 → w.heap.size + 2 < (ll [W0.heap.size, W1.heap.size, W2.heap.size, W3.heap.size, W4.heap.size]) i from fun i hi => by
  have := H0.out.sz
  have t0 := bs0.out
  have t1 := bs1.out
  have t2 := bs2.out
  have t3 := bs3.out
  have t4 := bs4.out
  have hi2 : i = 0 ∨ i = 1 ∨ i = 2 ∨ i = 3 ∨ i = 4 := by omega
  rcases hi2 with rfl | rfl | rfl | rfl | rfl
  ·show _ < W0.heap.size; omega
  ·show _ < W1.heap.size; omega
  ·show _ < W2.heap.size; omega
  ·show _ < W3.heap.size; omega
  ·show _ < W4.heap.size; omega)
 have G5 := hid (H5.out.grow (bal (Below.refl _ W5) (.cells #[] 3)))
 have c5 := G5.out.cell (j := 5) rfl
 have SR := ints_src HQ5.out HZ5.out G5.out.bel
 obtain ⟨qv5, cv5, w1, hrun, hu, hb⟩ := run_app_new (P := Tryz.prog) W5 22 22 3 (.int .i64 0) 1 8 Tryz.underlying22 infoI rfl (by decide) q5 p.bits.length cap5 (ints p.bits) SR.1 (ints_len _) SR.2 (ints_one _) HP.out.bits (by decide)
 have HR := hid hrun
 have K5 := hid (H5.out.grow hb)
 have oc := K5.out.ocell (j := 5) rfl
 have fz := K5.out.frz (j := 5) (by decide)
 have H6 := hid (show CS w V (w1.setCell ⟨w.heap.size + 2, 5, none⟩ (.slice qv5 p.bits.length cv5)) [.slice qv0 p.ram.length cv0, .slice qv1 p.kinds.length cv1, .slice qv2 p.slots.length cv2, .slice qv3 p.tasks.length cv3, .slice qv4 p.lines.length p.lines.length, .slice qv5 p.bits.length cv5, V 6, V 7, V 8, V 9, V 10] from K5.out.put (j := 5) (show 5 < 11 by decide) (.slice qv5 p.bits.length cv5))
 have hs1 := hid (show w.heap.size + 2 < W5.heap.size from Nat.lt_of_lt_of_le (Nat.lt_succ_self _) H5.out.sz)
 have O5 := hid (InO.set (show InO w1 W5.heap.size w1.heap.size _ _ _ (p.bits.length, ints p.bits) from ⟨hu, fun x hx => (hu.lt x hx).2⟩) (a := ⟨w.heap.size + 2, 5, none⟩) hs1.out (.slice qv5 p.bits.length cv5))
 have P0 := hid (InO.set (InO.below O0.out hb) (a := ⟨w.heap.size + 2, 5, none⟩) (M5.out 0 (by decide)) (.slice qv5 p.bits.length cv5))
 have P1 := hid (InO.set (InO.below O1.out hb) (a := ⟨w.heap.size + 2, 5, none⟩) (M5.out 1 (by decide)) (.slice qv5 p.bits.length cv5))
 have P2 := hid (InO.set (InO.below O2.out hb) (a := ⟨w.heap.size + 2, 5, none⟩) (M5.out 2 (by decide)) (.slice qv5 p.bits.length cv5))
 have P3 := hid (InO.set (InO.below O3.out hb) (a := ⟨w.heap.size + 2, 5, none⟩) (M5.out 3 (by decide)) (.slice qv5 p.bits.length cv5))
 have P4 := hid (OwnL.set (OwnL.below O4.out hb) (a := ⟨w.heap.size + 2, 5, none⟩) (M5.out 4 (by decide)) (.slice qv5 p.bits.length cv5))
 have S6 := hid (show w1.heap.size = (w1.setCell ⟨w.heap.size + 2, 5, none⟩ (.slice qv5 p.bits.length cv5)).heap.size by simp)
 have bs5 := hid (show W5.heap.size ≤ w1.heap.size from hb.size)
 clear hrun hu hb SR G5 K5 hs1
 go_upto_region 8 with (at_builtin; refine wpList_app rfl _ _ _ rfl _ _ _ rfl rfl HR.out ?_)
 clear O0 O1 O2 O3 O4
 have O0 := P0
 have O1 := P1
 have O2 := P2
 have O3 := P3
 have O4 := P4
 clear P0 P1 P2 P3 P4
 rw [S6.out] at bs5 O5
 generalize World.setCell _ _ _ = W6 at *
 clear oc fz c5 S6 HR
 have M6 := hid (show ∀ i, i < 6 → w.heap.size + 2 < (ll [W0.heap.size, W1.heap.size, W2.heap.size, W3.heap.size, W4.heap.size, W5.heap.size]) i from fun i hi => by
  have := H0.out.sz
  have t0 := bs0.out
  have t1 := bs1.out
  have t2 := bs2.out
  have t3 := bs3.out
  have t4 := bs4.out
  have t5 := bs5.out
  have hi2 : i = 0 ∨ i = 1 ∨ i = 2 ∨ i = 3 ∨ i = 4 ∨ i = 5 := by omega
  rcases hi2 with rfl | rfl | rfl | rfl | rfl | rfl
  ·show _ < W0.heap.size; omega
  ·show _ < W1.heap.size; omega
  ·show _ < W2.heap.size; omega
  ·show _ < W3.heap.size; omega
  ·show _ < W4.heap.size; omega
  ·show _ < W5.heap.size; omega)
 have G6 := hid (H6.out.grow (bal (Below.refl _ W6) (.cells #[] 3)))
 have c6 := G6.out.cell (j := 6) rfl
 have SR := ints_src HQ6.out HZ6.out G6.out.bel
 obtain ⟨qv6, cv6, w1, hrun, hu, hb⟩ := run_app_new (P := Tryz.prog) W6 22 22 3 (.int .i64 0) 1 8 Tryz.underlying22 infoI rfl (by decide) q6 p.cores.length cap6 (ints p.cores) SR.1 (ints_len _) SR.2 (ints_one _) HP.out.cores (by decide)
 have HR := hid hrun
 have K6 := hid (H6.out.grow hb)
 have oc := K6.out.ocell (j := 6) rfl
 have fz := K6.out.frz (j := 6) (by decide)
 have H7 := hid (show CS w V (w1.setCell ⟨w.heap.size + 2, 6, none⟩ (.slice qv6 p.cores.length cv6)) [.slice qv0 p.ram.length cv0, .slice qv1 p.kinds.length cv1, .slice qv2 p.slots.length cv2, .slice qv3 p.tasks.length cv3, .slice qv4 p.lines.length p.lines.length, .slice qv5 p.bits.length cv5, .slice qv6 p.cores.length cv6, V 7, V 8, V 9, V 10] from K6.out.put (j := 6) (show 6 < 11 by decide) (.slice qv6 p.cores.length cv6))
 have hs1 := hid (show w.heap.size + 2 < W6.heap.size from Nat.lt_of_lt_of_le (Nat.lt_succ_self _) H6.out.sz)
 have O6 := hid (InO.set (show InO w1 W6.heap.size w1.heap.size _ _ _ (p.cores.length, ints p.cores) from ⟨hu, fun x hx => (hu.lt x hx).2⟩) (a := ⟨w.heap.size + 2, 6, none⟩) hs1.out (.slice qv6 p.cores.length cv6))
 have P0 := hid (InO.set (InO.below O0.out hb) (a := ⟨w.heap.size + 2, 6, none⟩) (M6.out 0 (by decide)) (.slice qv6 p.cores.length cv6))
 have P1 := hid (InO.set (InO.below O1.out hb) (a := ⟨w.heap.size + 2, 6, none⟩) (M6.out 1 (by decide)) (.slice qv6 p.cores.length cv6))
 have P2 := hid (InO.set (InO.below O2.out hb) (a := ⟨w.heap.size + 2, 6, none⟩) (M6.out 2 (by decide)) (.slice qv6 p.cores.length cv6))
 have P3 := hid (InO.set (InO.below O3.out hb) (a := ⟨w.heap.size + 2, 6, none⟩) (M6.out 3 (by decide)) (.slice qv6 p.cores.length cv6))
 have P4 := hid (OwnL.set (OwnL.below O4.out hb) (a := ⟨w.heap.size + 2, 6, none⟩) (M6.out 4 (by decide)) (.slice qv6 p.cores.length cv6))
 have P5 := hid (InO.set (InO.below O5.out hb) (a := ⟨w.heap.size + 2, 6, none⟩) (M6.out 5 (by decide)) (.slice qv6 p.cores.length cv6))
 have S7 := hid (show w1.heap.size = (w1.setCell ⟨w.heap.size + 2, 6, none⟩ (.slice qv6 p.cores.length cv6)).heap.size by simp)
 have bs6 := hid (show W6.heap.size ≤ w1.heap.size from hb.size)
 clear hrun hu hb SR G6 K6 hs1
 go_upto_region 9 with (at_builtin; refine wpList_app rfl _ _ _ rfl _ _ _ rfl rfl HR.out ?_)
 clear O0 O1 O2 O3 O4 O5
 have O0 := P0
 have O1 := P1
 have O2 := P2
 have O3 := P3
 have O4 := P4
 have O5 := P5
 clear P0 P1 P2 P3 P4 P5
 rw [S7.out] at bs6 O6
 generalize World.setCell _ _ _ = W7 at *
 clear oc fz c6 S7 HR
 have M7 := hid (show ∀ i, i < 7 → w.heap.size + 2 < (ll [W0.heap.size, W1.heap.size, W2.heap.size, W3.heap.size, W4.heap.size, W5.heap.size, W6.heap.size]) i from fun i hi => by
  have := H0.out.sz
  have t0 := bs0.out
  have t1 := bs1.out
  have t2 := bs2.out
  have t3 := bs3.out
  have t4 := bs4.out
  have t5 := bs5.out
  have t6 := bs6.out
  have hi2 : i = 0 ∨ i = 1 ∨ i = 2 ∨ i = 3 ∨ i = 4 ∨ i = 5 ∨ i = 6 := by omega
  rcases hi2 with rfl | rfl | rfl | rfl | rfl | rfl | rfl
  ·show _ < W0.heap.size; omega
  ·show _ < W1.heap.size; omega
  ·show _ < W2.heap.size; omega
  ·show _ < W3.heap.size; omega
  ·show _ < W4.heap.size; omega
  ·show _ < W5.heap.size; omega
  ·show _ < W6.heap.size; omega)
 have c7 := H7.out.cell (j := 7) rfl
 go_wp2_with fail
 refine (copyAll_any _ p.ready W7 (e7 ▸ (HVW.out _ H7.out.bel).ready) HP.out.ready HP.out.next).mono ?_
 rintro r w1 ⟨u, rfl, hu, hb⟩
 obtain ⟨qv7, rfl⟩ := ownl_form hu
 have K7 := hid (H7.out.grow hb)
 have oc := K7.out.ocell (j := 7) rfl
 have fz := K7.out.frz (j := 7) (by decide)
 have H8 := hid (show CS w V (w1.setCell ⟨w.heap.size + 2, 7, none⟩ (.slice qv7 p.ready.length p.ready.length)) [.slice qv0 p.ram.length cv0, .slice qv1 p.kinds.length cv1, .slice qv2 p.slots.length cv2, .slice qv3 p.tasks.length cv3, .slice qv4 p.lines.length p.lines.length, .slice qv5 p.bits.length cv5, .slice qv6 p.cores.length cv6, .slice qv7 p.ready.length p.ready.length, V 8, V 9, V 10] from K7.out.put (j := 7) (show 7 < 11 by decide) (.slice qv7 p.ready.length p.ready.length))
 have hs1 := hid (show w.heap.size + 2 < W7.heap.size from Nat.lt_of_lt_of_le (Nat.lt_succ_self _) H7.out.sz)
 have O7 := hid (OwnL.set hu (a := ⟨w.heap.size + 2, 7, none⟩) hs1.out (.slice qv7 p.ready.length p.ready.length))
 have P0 := hid (InO.set (InO.below O0.out hb) (a := ⟨w.heap.size + 2, 7, none⟩) (M7.out 0 (by decide)) (.slice qv7 p.ready.length p.ready.length))
 have P1 := hid (InO.set (InO.below O1.out hb) (a := ⟨w.heap.size + 2, 7, none⟩) (M7.out 1 (by decide)) (.slice qv7 p.ready.length p.ready.length))
 have P2 := hid (InO.set (InO.below O2.out hb) (a := ⟨w.heap.size + 2, 7, none⟩) (M7.out 2 (by decide)) (.slice qv7 p.ready.length p.ready.length))
 have P3 := hid (InO.set (InO.below O3.out hb) (a := ⟨w.heap.size + 2, 7, none⟩) (M7.out 3 (by decide)) (.slice qv7 p.ready.length p.ready.length))
 have P4 := hid (OwnL.set (OwnL.below O4.out hb) (a := ⟨w.heap.size + 2, 7, none⟩) (M7.out 4 (by decide)) (.slice qv7 p.ready.length p.ready.length))
 have P5 := hid (InO.set (InO.below O5.out hb) (a := ⟨w.heap.size + 2, 7, none⟩) (M7.out 5 (by decide)) (.slice qv7 p.ready.length p.ready.length))
 have P6 := hid (InO.set (InO.below O6.out hb) (a := ⟨w.heap.size + 2, 7, none⟩) (M7.out 6 (by decide)) (.slice qv7 p.ready.length p.ready.length))
 have S8 := hid (show w1.heap.size = (w1.setCell ⟨w.heap.size + 2, 7, none⟩ (.slice qv7 p.ready.length p.ready.length)).heap.size by simp)
 have bs7 := hid (show W7.heap.size ≤ w1.heap.size from hb.size)
 clear hu hb K7 hs1
 go_upto_region 10 with fail
 clear O0 O1 O2 O3 O4 O5 O6
 have O0 := P0
 have O1 := P1
 have O2 := P2
 have O3 := P3
 have O4 := P4
 have O5 := P5
 have O6 := P6
 clear P0 P1 P2 P3 P4 P5 P6
 rw [S8.out] at bs7 O7
 generalize World.setCell _ _ _ = W8 at *
 clear oc fz c7 S8
 have M8 := hid (show ∀ i, i < 8 → w.heap.size + 2 < (ll [W0.heap.size, W1.heap.size, W2.heap.size, W3.heap.size, W4.heap.size, W5.heap.size, W6.heap.size, W7.heap.size]) i from fun i hi => by
  have := H0.out.sz
  have t0 := bs0.out
  have t1 := bs1.out
  have t2 := bs2.out
  have t3 := bs3.out
  have t4 := bs4.out
  have t5 := bs5.out
  have t6 := bs6.out
  have t7 := bs7.out
  have hi2 : i = 0 ∨ i = 1 ∨ i = 2 ∨ i = 3 ∨ i = 4 ∨ i = 5 ∨ i = 6 ∨ i = 7 := by omega
  rcases hi2 with rfl | rfl | rfl | rfl | rfl | rfl | rfl | rfl
  ·show _ < W0.heap.size; omega
  ·show _ < W1.heap.size; omega
  ·show _ < W2.heap.size; omega
  ·show _ < W3.heap.size; omega
  ·show _ < W4.heap.size; omega
  ·show _ < W5.heap.size; omega
  ·show _ < W6.heap.size; omega
  ·show _ < W7.heap.size; omega)
 have hl8 : (p.tlbs.length : Int) ≤ 1000 := by have := HP.out.tlbs; omega
 have mk := make_row Tryz.underlying26 infoB (by decide) (by decide) p.tlbs.length HP.out.tlbs W8
 rw [made_nil] at mk
 have hs1 := hid (show w.heap.size + 2 < W8.heap.size from Nat.lt_of_lt_of_le (Nat.lt_succ_self _) H8.out.sz)
 have P0 := hid (Part.set (Part.start W8 p.tlbs.length 56 115 4 (ce p.tlbs) (by have := HP.out.tlbs; unfold maxLen; omega) _ rfl) (a := ⟨w.heap.size + 2, 8, none⟩) hs1.out (.slice (some ⟨W8.heap.size, 0, none⟩) p.tlbs.length p.tlbs.length))
 have c8 := H8.out.cell (j := 8) rfl
 have c8b := (World.cell?_alloc_lt W8 (.cells (Array.replicate p.tlbs.length (Value.slice none 0 0)) 56) _ (World.block_lt_of_cell? _ _ c8)).trans c8
 have K8 := hid (H8.out.grow (bal (Below.refl _ W8) (.cells (Array.replicate p.tlbs.length (Value.slice none 0 0)) 56)))
 have oc := K8.out.ocell (j := 8) rfl
 have fz := K8.out.frz (j := 8) (by decide)
 have Ha := hid (show CS w V ((W8.alloc (.cells (Array.replicate p.tlbs.length (Value.slice none 0 0)) 56)).setCell ⟨w.heap.size + 2, 8, none⟩ (.slice (some ⟨W8.heap.size, 0, none⟩) p.tlbs.length p.tlbs.length)) [.slice qv0 p.ram.length cv0, .slice qv1 p.kinds.length cv1, .slice qv2 p.slots.length cv2, .slice qv3 p.tasks.length cv3, .slice qv4 p.lines.length p.lines.length, .slice qv5 p.bits.length cv5, .slice qv6 p.cores.length cv6, .slice qv7 p.ready.length p.ready.length, .slice (some ⟨W8.heap.size, 0, none⟩) p.tlbs.length p.tlbs.length, V 9, V 10] from K8.out.put (j := 8) (show 8 < 11 by decide) (.slice (some ⟨W8.heap.size, 0, none⟩) p.tlbs.length p.tlbs.length))
 have P1 := hid (InO.set (InO.below O0.out (bal (Below.refl _ W8) (.cells (Array.replicate p.tlbs.length (Value.slice none 0 0)) 56))) (a := ⟨w.heap.size + 2, 8, none⟩) (M8.out 0 (by decide)) (.slice (some ⟨W8.heap.size, 0, none⟩) p.tlbs.length p.tlbs.length))
 have P2 := hid (InO.set (InO.below O1.out (bal (Below.refl _ W8) (.cells (Array.replicate p.tlbs.length (Value.slice none 0 0)) 56))) (a := ⟨w.heap.size + 2, 8, none⟩) (M8.out 1 (by decide)) (.slice (some ⟨W8.heap.size, 0, none⟩) p.tlbs.length p.tlbs.length))
 have P3 := hid (InO.set (InO.below O2.out (bal (Below.refl _ W8) (.cells (Array.replicate p.tlbs.length (Value.slice none 0 0)) 56))) (a := ⟨w.heap.size + 2, 8, none⟩) (M8.out 2 (by decide)) (.slice (some ⟨W8.heap.size, 0, none⟩) p.tlbs.length p.tlbs.length))
 have P4 := hid (InO.set (InO.below O3.out (bal (Below.refl _ W8) (.cells (Array.replicate p.tlbs.length (Value.slice none 0 0)) 56))) (a := ⟨w.heap.size + 2, 8, none⟩) (M8.out 3 (by decide)) (.slice (some ⟨W8.heap.size, 0, none⟩) p.tlbs.length p.tlbs.length))
 have P5 := hid (OwnL.set (OwnL.below O4.out (bal (Below.refl _ W8) (.cells (Array.replicate p.tlbs.length (Value.slice none 0 0)) 56))) (a := ⟨w.heap.size + 2, 8, none⟩) (M8.out 4 (by decide)) (.slice (some ⟨W8.heap.size, 0, none⟩) p.tlbs.length p.tlbs.length))
 have P6 := hid (InO.set (InO.below O5.out (bal (Below.refl _ W8) (.cells (Array.replicate p.tlbs.length (Value.slice none 0 0)) 56))) (a := ⟨w.heap.size + 2, 8, none⟩) (M8.out 5 (by decide)) (.slice (some ⟨W8.heap.size, 0, none⟩) p.tlbs.length p.tlbs.length))
 have P7 := hid (InO.set (InO.below O6.out (bal (Below.refl _ W8) (.cells (Array.replicate p.tlbs.length (Value.slice none 0 0)) 56))) (a := ⟨w.heap.size + 2, 8, none⟩) (M8.out 6 (by decide)) (.slice (some ⟨W8.heap.size, 0, none⟩) p.tlbs.length p.tlbs.length))
 have P8 := hid (OwnL.set (OwnL.below O7.out (bal (Below.refl _ W8) (.cells (Array.replicate p.tlbs.length (Value.slice none 0 0)) 56))) (a := ⟨w.heap.size + 2, 8, none⟩) (M8.out 7 (by decide)) (.slice (some ⟨W8.heap.size, 0, none⟩) p.tlbs.length p.tlbs.length))
 have Sa := hid (show W8.heap.size ≤ ((W8.alloc (.cells (Array.replicate p.tlbs.length (Value.slice none 0 0)) 56)).setCell ⟨w.heap.size + 2, 8, none⟩ (.slice (some ⟨W8.heap.size, 0, none⟩) p.tlbs.length p.tlbs.length)).heap.size by simp)
 clear O0 O1 O2 O3 O4 O5 O6 O7 K8
 go_upto_region 11 with fail
 generalize World.setCell _ _ _ = Wa at *
 clear mk c8 c8b oc fz
 go_wp2_with fail
 go_loopw [4] (fun i wr => ∃ (k : Nat), k ≤ p.tlbs.length ∧ i = .int .i64 k ∧ Hid (∃ us m, Part wr W8.heap.size p.tlbs.length 56 115 4 (ce p.tlbs) k us m ∧ ∀ j, j < k → m j ≤ m (j + 1)) ∧ Hid (Below W8.heap.size Wa wr)) (fun i _ => p.tlbs.length - (intOf i).toNat)
 case atStart => exact ⟨0, by omega, rfl, hid ⟨[], _, P0.out, fun j hj => by omega⟩, hid (Below.refl _ _)⟩
 case round =>
  obtain ⟨k, hk, rfl, HPT, HBL⟩ := hrel
  obtain ⟨uz, m, hpt, hmm⟩ := HPT.out
  have hsz : W8.heap.size ≤ wr.heap.size := Nat.le_trans (Nat.le_of_lt (hpt.lo k (Nat.le_refl _))) hpt.hi
  have HC := hid (Ha.out.growN H8.out.sz HBL.out hsz)
  have c8 := HC.out.cell (j := 8) rfl
  by_cases hlt : k < p.tlbs.length
  ·have hlt2 : (k : Int) < (p.tlbs.length : Int) := by omega
   have hqe := HQ8.out (by omega)
   subst hqe
   obtain ⟨x, hx, hxi, -⟩ := HZ8.out k hlt
   obtain ⟨q1, b1, off1, cap1, rfl, hq1, hz1, hl1⟩ := hxi
   have bx := World.block_lt_of_cell? _ _ hx
   have hne : b8 ≠ W8.heap.size := by
    have : b8 < w.heap.size := bx
    have := H8.out.sz
    omega
   have BD := below_drew wr 1
   have HCD := hid (HC.out.grow BD)
   have SR := ents_src hq1 hz1 (bal HCD.out.bel (.cells #[] 115))
   obtain ⟨qv, cv, w1, hrun, hu, hb⟩ := run_app_new (P := Tryz.prog) wr.drew 56 56 115 (.agg #[.int .i64 0, .int .i64 0, .int .i64 0, .bool false]) 4 32 Tryz.underlying56 infoEnt rfl (by decide) q1 p.tlbs[k].length cap1 (cellsE p.tlbs[k]) SR.1 (cellsE_len _) SR.2 (cellsE_one _) (by omega) (by decide)
   have HCE := hid (show (ce p.tlbs) k = (p.tlbs[k].length, cellsE p.tlbs[k]) by unfold ce; rw [List.getD_eq_getElem?_getD, List.getElem?_eq_getElem hlt]; rfl)
   have hbw : Below wr.heap.size wr w1 := btr BD hb
   have ck := (hpt.below hbw).cell hlt
   have fk := (hpt.below hbw).row.frozenAt k
   have HN := hid (hpt.more hlt hbw (u := .slice qv p.tlbs[k].length cv) (by rw [HCE.out]; exact hu))
   have B1 := hid (show Below W8.heap.size Wa (w1.setCell ⟨W8.heap.size, k, none⟩ (.slice qv p.tlbs[k].length cv)) from (HBL.out.trans (hbw.mono hsz)).setCell (Nat.le_refl _) _)
   have H1 := hid (show m k ≤ w1.heap.size from Nat.le_trans hpt.hi hbw.size)
   have HM := hid hmm
   have KS := hid (show ∀ W, CS w V W [.slice qv0 p.ram.length cv0, .slice qv1 p.kinds.length cv1, .slice qv2 p.slots.length cv2, .slice qv3 p.tasks.length cv3, .slice qv4 p.lines.length p.lines.length, .slice qv5 p.bits.length cv5, .slice qv6 p.cores.length cv6, .slice qv7 p.ready.length p.ready.length, .slice (some ⟨W8.heap.size, 0, none⟩) p.tlbs.length p.tlbs.length, V 9, V 10] → (w.cell? ⟨b8, off8 + k, none⟩ = some (.slice q1 p.tlbs[k].length cap1)) → W.cell? ⟨w.heap.size, 8, none⟩ = some (.slice (some ⟨b8, off8, none⟩) p.tlbs.length cap8) ∧ W.cell? ⟨w.heap.size + 2, 8, none⟩ = some (.slice (some ⟨W8.heap.size, 0, none⟩) p.tlbs.length p.tlbs.length) ∧ W.cell? ⟨b8, off8 + k, none⟩ = some (.slice q1 p.tlbs[k].length cap1) from fun W h hc => ⟨by rw [h.cell (j := 8) rfl, e8], h.ocell (j := 8) rfl, (h.bel.cell (World.block_lt_of_cell? _ _ hc)).trans hc⟩)
   have S1 := hid (KS.out _ HCD.out hx)
   have S2 := hid (KS.out _ (HCD.out.grow (bal (Below.refl _ wr.drew) (.cells #[] 115))) hx)
   have S3 := hid (KS.out _ (HCD.out.grow hb) hx)
   have S4 := hid (show (fun W => W.cell? ⟨w.heap.size, 8, none⟩ = some (.slice (some ⟨b8, off8, none⟩) p.tlbs.length cap8) ∧ W.cell? ⟨w.heap.size + 2, 8, none⟩ = some (.slice (some ⟨W8.heap.size, 0, none⟩) p.tlbs.length p.tlbs.length) ∧ W.cell? ⟨b8, off8 + k, none⟩ = some (.slice q1 p.tlbs[k].length cap1)) (w1.setCell ⟨W8.heap.size, k, none⟩ (.slice qv p.tlbs[k].length cv)) from ⟨by rw [World.cell?_setCell_other _ _ _ _ (fun e => by have h := congrArg Addr.block e; simp only at h; have := H8.out.sz; omega)]; exact S3.out.1, by rw [World.cell?_setCell_other _ _ _ _ (fun e => by have h := congrArg Addr.block e; simp only at h; have := H8.out.sz; omega)]; exact S3.out.2.1, by rw [World.cell?_setCell_other _ _ _ _ (fun e => by have h := congrArg Addr.block e; simp only at h; omega)]; exact S3.out.2.2⟩)
   have HR := hid hrun
   clear hx hpt hmm HPT hq1 hz1 SR hu hb HCE hrun hbw bx hne KS BD
   go_wp2_with fail
   refine wp_region_held_drew (S := fun W => W.cell? ⟨w.heap.size, 8, none⟩ = some (.slice (some ⟨b8, off8, none⟩) p.tlbs.length cap8) ∧ W.cell? ⟨w.heap.size + 2, 8, none⟩ = some (.slice (some ⟨W8.heap.size, 0, none⟩) p.tlbs.length p.tlbs.length) ∧ W.cell? ⟨b8, off8 + k, none⟩ = some (.slice q1 p.tlbs[k].length cap1)) (by kernel_rfl) S1.out (fun hH0 => ?_)
   have hH := hid hH0
   clear hH0
   refine tk 0 (.pointer (some ⟨w.heap.size + 2, 8, none⟩)) rfl hH.out ?_
   simp only [jj]
   refine tg 1 ((.slice (some ⟨W8.heap.size, 0, none⟩) p.tlbs.length p.tlbs.length)) rfl (Or.inl ⟨by rfl, fun W h => by have h3 := h.2.1; clear h; go_simp⟩) hH.out ?_
   simp only [jj]
   refine tk 2 (.int .i64 k) rfl hH.out ?_
   simp only [jj]
   refine tk 4 (.pointer (some ⟨w.heap.size, 8, none⟩)) rfl hH.out ?_
   simp only [jj]
   refine tg 5 (.slice (some ⟨b8, off8, none⟩) p.tlbs.length cap8) rfl (Or.inl ⟨by rfl, fun W h => by have h3 := h.1; clear h; go_simp⟩) hH.out ?_
   simp only [jj]
   refine tk 6 (.int .i64 k) rfl hH.out ?_
   simp only [jj]
   refine tk 7 (.pointer (some ⟨b8, off8 + k, none⟩)) rfl hH.out ?_
   simp only [jj]
   refine tg 8 (.slice q1 p.tlbs[k].length cap1) rfl (Or.inl ⟨by rfl, fun W h => by have h3 := h.2.2; clear h; go_simp⟩) hH.out ?_
   simp only [jj]
   refine wpAnyH_ready (rs := [3]) (by kernel_rfl) (by simp) (AllReadyH.cons rfl (fun K hK => ?_) AllReadyH.nil)
   go_simp
   refine hK.out _ _ S2.out (fun hH0 => ?_)
   have hH2 := hid hH0
   clear hK K hH0
   refine wpAnyH_ready (rs := [9]) (by kernel_rfl) (by simp) (AllReadyH.cons rfl (fun K hK => ?_) AllReadyH.nil)
   refine wp_app1 _ _ _ rfl _ _ _ rfl rfl HR.out ?_
   refine hK.out _ _ S3.out (fun hH0 => ?_)
   have hH3 := hid hH0
   clear hK K hH0
   try simp only [Act.put, jD]
   refine tk 10 (.pointer (some ⟨W8.heap.size, k, none⟩)) rfl hH3.out ?_
   simp only [jj]
   refine wpAnyH_ready (rs := [11]) (by kernel_rfl) (by simp) (AllReadyH.cons rfl (fun K hK => ?_) AllReadyH.nil)
   go_simp
   refine hK.out _ _ S4.out (fun hH0 => ?_)
   clear hK K hH0
   try simp only [Act.put]
   refine wpAnyH_done (by kernel_rfl) ?_ _
   clear hH hH2 hH3 S1 S2 S3 S4 HR ck fk c8
   go_wp2_with fail
   refine ⟨⟨k + 1, by omega, by go_num, hid ⟨_, _, HN.out, fun j hj => ?_⟩, B1⟩, by simp [intOf]; omega⟩
   by_cases e : j < k
   ·rw [if_pos (by omega), if_pos (by omega)]
    exact HM.out j e
   ·rw [if_pos (by omega), if_neg (by omega), show j = k by omega]
    exact H1.out
  ·obtain rfl : k = p.tlbs.length := by omega
   have hge : ¬ ((p.tlbs.length : Int) < (p.tlbs.length : Int)) := by omega
   have bs8 := hid hsz
   have H9 := HC
   have O8 := hid (show OwnL wr W8.heap.size wr.heap.size 56 115 4 p.tlbs.length (.slice (some ⟨W8.heap.size, 0, none⟩) p.tlbs.length p.tlbs.length) (ce p.tlbs) from ⟨W8.heap.size, uz, m, rfl, Nat.le_refl _, hpt.hi, hmm, hpt⟩)
   have O0 := hid (InO.belowN P1.out (by have t1 := bs1.out; have t2 := bs2.out; have t3 := bs3.out; have t4 := bs4.out; have t5 := bs5.out; have t6 := bs6.out; have t7 := bs7.out; omega) HBL.out)
   have O1 := hid (InO.belowN P2.out (by have t2 := bs2.out; have t3 := bs3.out; have t4 := bs4.out; have t5 := bs5.out; have t6 := bs6.out; have t7 := bs7.out; omega) HBL.out)
   have O2 := hid (InO.belowN P3.out (by have t3 := bs3.out; have t4 := bs4.out; have t5 := bs5.out; have t6 := bs6.out; have t7 := bs7.out; omega) HBL.out)
   have O3 := hid (InO.belowN P4.out (by have t4 := bs4.out; have t5 := bs5.out; have t6 := bs6.out; have t7 := bs7.out; omega) HBL.out)
   have O4 := hid (OwnL.belowN P5.out (by have t5 := bs5.out; have t6 := bs6.out; have t7 := bs7.out; omega) HBL.out hsz)
   have O5 := hid (InO.belowN P6.out (by have t6 := bs6.out; have t7 := bs7.out; omega) HBL.out)
   have O6 := hid (InO.belowN P7.out (by have t7 := bs7.out; omega) HBL.out)
   have O7 := hid (OwnL.belowN P8.out (by exact Nat.le_refl _) HBL.out hsz)
   clear hpt hmm HPT hk hlt HC Ha Sa P0 HBL hs1 P1 P2 P3 P4 P5 P6 P7 P8
   go_upto_region 15 with fail
   clear c8
   generalize wr = W9 at *
   clear hge hsz
   have M9 := hid (show ∀ i, i < 9 → w.heap.size + 2 < (ll [W0.heap.size, W1.heap.size, W2.heap.size, W3.heap.size, W4.heap.size, W5.heap.size, W6.heap.size, W7.heap.size, W8.heap.size]) i from fun i hi => by
    have := H8.out.sz
    rcases Nat.lt_or_ge i 8 with h | h
    ·have := M8.out i h
     have hi2 : i = 0 ∨ i = 1 ∨ i = 2 ∨ i = 3 ∨ i = 4 ∨ i = 5 ∨ i = 6 ∨ i = 7 := by omega
     rcases hi2 with rfl | rfl | rfl | rfl | rfl | rfl | rfl | rfl <;> exact this
    ·rw [show i = 8 by omega]
     show _ < W8.heap.size
     omega)
   have G9 := hid (H9.out.grow (bal (Below.refl _ W9) (.cells #[] 3)))
   have c9 := G9.out.cell (j := 9) rfl
   have SR := ints_src HQ9.out HZ9.out G9.out.bel
   obtain ⟨qv9, cv9, w1, hrun, hu, hb⟩ := run_app_new (P := Tryz.prog) W9 22 22 3 (.int .i64 0) 1 8 Tryz.underlying22 infoI rfl (by decide) q9 p.doms.length cap9 (ints p.doms) SR.1 (ints_len _) SR.2 (ints_one _) HP.out.doms (by decide)
   have HR := hid hrun
   have K9 := hid (H9.out.grow hb)
   have oc := K9.out.ocell (j := 9) rfl
   have fz := K9.out.frz (j := 9) (by decide)
   have H10 := hid (show CS w V (w1.setCell ⟨w.heap.size + 2, 9, none⟩ (.slice qv9 p.doms.length cv9)) [.slice qv0 p.ram.length cv0, .slice qv1 p.kinds.length cv1, .slice qv2 p.slots.length cv2, .slice qv3 p.tasks.length cv3, .slice qv4 p.lines.length p.lines.length, .slice qv5 p.bits.length cv5, .slice qv6 p.cores.length cv6, .slice qv7 p.ready.length p.ready.length, .slice (some ⟨W8.heap.size, 0, none⟩) p.tlbs.length p.tlbs.length, .slice qv9 p.doms.length cv9, V 10] from K9.out.put (j := 9) (show 9 < 11 by decide) (.slice qv9 p.doms.length cv9))
   have hs1 := hid (show w.heap.size + 2 < W9.heap.size from Nat.lt_of_lt_of_le (Nat.lt_succ_self _) H9.out.sz)
   have O9 := hid (InO.set (show InO w1 W9.heap.size w1.heap.size _ _ _ (p.doms.length, ints p.doms) from ⟨hu, fun x hx => (hu.lt x hx).2⟩) (a := ⟨w.heap.size + 2, 9, none⟩) hs1.out (.slice qv9 p.doms.length cv9))
   have P0 := hid (InO.set (InO.below O0.out hb) (a := ⟨w.heap.size + 2, 9, none⟩) (M9.out 0 (by decide)) (.slice qv9 p.doms.length cv9))
   have P1 := hid (InO.set (InO.below O1.out hb) (a := ⟨w.heap.size + 2, 9, none⟩) (M9.out 1 (by decide)) (.slice qv9 p.doms.length cv9))
   have P2 := hid (InO.set (InO.below O2.out hb) (a := ⟨w.heap.size + 2, 9, none⟩) (M9.out 2 (by decide)) (.slice qv9 p.doms.length cv9))
   have P3 := hid (InO.set (InO.below O3.out hb) (a := ⟨w.heap.size + 2, 9, none⟩) (M9.out 3 (by decide)) (.slice qv9 p.doms.length cv9))
   have P4 := hid (OwnL.set (OwnL.below O4.out hb) (a := ⟨w.heap.size + 2, 9, none⟩) (M9.out 4 (by decide)) (.slice qv9 p.doms.length cv9))
   have P5 := hid (InO.set (InO.below O5.out hb) (a := ⟨w.heap.size + 2, 9, none⟩) (M9.out 5 (by decide)) (.slice qv9 p.doms.length cv9))
   have P6 := hid (InO.set (InO.below O6.out hb) (a := ⟨w.heap.size + 2, 9, none⟩) (M9.out 6 (by decide)) (.slice qv9 p.doms.length cv9))
   have P7 := hid (OwnL.set (OwnL.below O7.out hb) (a := ⟨w.heap.size + 2, 9, none⟩) (M9.out 7 (by decide)) (.slice qv9 p.doms.length cv9))
   have P8 := hid (OwnL.set (OwnL.below O8.out hb) (a := ⟨w.heap.size + 2, 9, none⟩) (M9.out 8 (by decide)) (.slice qv9 p.doms.length cv9))
   have S10 := hid (show w1.heap.size = (w1.setCell ⟨w.heap.size + 2, 9, none⟩ (.slice qv9 p.doms.length cv9)).heap.size by simp)
   have bs9 := hid (show W9.heap.size ≤ w1.heap.size from hb.size)
   clear hrun hu hb SR G9 K9 hs1
   go_upto_region 16 with (at_builtin; refine wpList_app rfl _ _ _ rfl _ _ _ rfl rfl HR.out ?_)
   clear O0 O1 O2 O3 O4 O5 O6 O7 O8
   have O0 := P0
   have O1 := P1
   have O2 := P2
   have O3 := P3
   have O4 := P4
   have O5 := P5
   have O6 := P6
   have O7 := P7
   have O8 := P8
   clear P0 P1 P2 P3 P4 P5 P6 P7 P8
   rw [S10.out] at bs9 O9
   generalize World.setCell _ _ _ = W10 at *
   clear oc fz c9 S10 HR
   have M10 := hid (show ∀ i, i < 10 → w.heap.size + 2 < (ll [W0.heap.size, W1.heap.size, W2.heap.size, W3.heap.size, W4.heap.size, W5.heap.size, W6.heap.size, W7.heap.size, W8.heap.size, W9.heap.size]) i from fun i hi => by
    have := H0.out.sz
    have t0 := bs0.out
    have t1 := bs1.out
    have t2 := bs2.out
    have t3 := bs3.out
    have t4 := bs4.out
    have t5 := bs5.out
    have t6 := bs6.out
    have t7 := bs7.out
    have t8 := bs8.out
    have t9 := bs9.out
    have hi2 : i = 0 ∨ i = 1 ∨ i = 2 ∨ i = 3 ∨ i = 4 ∨ i = 5 ∨ i = 6 ∨ i = 7 ∨ i = 8 ∨ i = 9 := by omega
    rcases hi2 with rfl | rfl | rfl | rfl | rfl | rfl | rfl | rfl | rfl | rfl
    ·show _ < W0.heap.size; omega
    ·show _ < W1.heap.size; omega
    ·show _ < W2.heap.size; omega
    ·show _ < W3.heap.size; omega
    ·show _ < W4.heap.size; omega
    ·show _ < W5.heap.size; omega
    ·show _ < W6.heap.size; omega
    ·show _ < W7.heap.size; omega
    ·show _ < W8.heap.size; omega
    ·show _ < W9.heap.size; omega)
   have one := hid (show ([.slice qv0 p.ram.length cv0, .slice qv1 p.kinds.length cv1, .slice qv2 p.slots.length cv2, .slice qv3 p.tasks.length cv3, .slice qv4 p.lines.length p.lines.length, .slice qv5 p.bits.length cv5, .slice qv6 p.cores.length cv6, .slice qv7 p.ready.length p.ready.length, .slice (some ⟨W8.heap.size, 0, none⟩) p.tlbs.length p.tlbs.length, .slice qv9 p.doms.length cv9, V 10].toArray).all (·.oneCell') = true by rw [e10]; simp [Value.oneCell'])
   have RX := hid (World.rangeAt_setCells_same W10 (w.heap.size + 1) 0 [.slice qv0 p.ram.length cv0, .slice qv1 p.kinds.length cv1, .slice qv2 p.slots.length cv2, .slice qv3 p.tasks.length cv3, .slice qv4 p.lines.length p.lines.length, .slice qv5 p.bits.length cv5, .slice qv6 p.cores.length cv6, .slice qv7 p.ready.length p.ready.length, .slice (some ⟨W8.heap.size, 0, none⟩) p.tlbs.length p.tlbs.length, .slice qv9 p.doms.length cv9, V 10] H10.out.res)
   have BX := hid (below_setCells H10.out.bel (show w.heap.size ≤ w.heap.size + 1 by omega) [.slice qv0 p.ram.length cv0, .slice qv1 p.kinds.length cv1, .slice qv2 p.slots.length cv2, .slice qv3 p.tasks.length cv3, .slice qv4 p.lines.length p.lines.length, .slice qv5 p.bits.length cv5, .slice qv6 p.cores.length cv6, .slice qv7 p.ready.length p.ready.length, .slice (some ⟨W8.heap.size, 0, none⟩) p.tlbs.length p.tlbs.length, .slice qv9 p.doms.length cv9, V 10] 0)
   go_wp2_with (first | ((with_reducible (show wpList _ _ _ (⟨_, Op.load 28 _, _, _, _, _⟩ :: _) _ _)); refine wpList_load_mid rfl 28 _ rfl (w.heap.size + 2) 0 rfl [.slice qv0 p.ram.length cv0, .slice qv1 p.kinds.length cv1, .slice qv2 p.slots.length cv2, .slice qv3 p.tasks.length cv3, .slice qv4 p.lines.length p.lines.length, .slice qv5 p.bits.length cv5, .slice qv6 p.cores.length cv6, .slice qv7 p.ready.length p.ready.length, .slice (some ⟨W8.heap.size, 0, none⟩) p.tlbs.length p.tlbs.length, .slice qv9 p.doms.length cv9, V 10] _ H10.out.out Tryz.underlying28 rfl infoW ?_) | ((with_reducible (show wpList _ _ _ (⟨_, Op.store 28 _ _, _, _, _, _⟩ :: _) _ _)); refine wpList_store_mid rfl 28 _ _ rfl (w.heap.size + 1) 0 [.slice qv0 p.ram.length cv0, .slice qv1 p.kinds.length cv1, .slice qv2 p.slots.length cv2, .slice qv3 p.tasks.length cv3, .slice qv4 p.lines.length p.lines.length, .slice qv5 p.bits.length cv5, .slice qv6 p.cores.length cv6, .slice qv7 p.ready.length p.ready.length, .slice (some ⟨W8.heap.size, 0, none⟩) p.tlbs.length p.tlbs.length, .slice qv9 p.doms.length cv9, V 10].toArray rfl rfl H10.out.res infoW one.out ?_))
   refine bodyPost_ret (v := .agg (arr11 (vv [.slice qv0 p.ram.length cv0, .slice qv1 p.kinds.length cv1, .slice qv2 p.slots.length cv2, .slice qv3 p.tasks.length cv3, .slice qv4 p.lines.length p.lines.length, .slice qv5 p.bits.length cv5, .slice qv6 p.cores.length cv6, .slice qv7 p.ready.length p.ready.length, .slice (some ⟨W8.heap.size, 0, none⟩) p.tlbs.length p.tlbs.length, .slice qv9 p.doms.length cv9, V 10]))) (results_c1 rfl rfl (run_loadVar_mid _ (w.heap.size + 1) 0 28 [.slice qv0 p.ram.length cv0, .slice qv1 p.kinds.length cv1, .slice qv2 p.slots.length cv2, .slice qv3 p.tasks.length cv3, .slice qv4 p.lines.length p.lines.length, .slice qv5 p.bits.length cv5, .slice qv6 p.cores.length cv6, .slice qv7 p.ready.length p.ready.length, .slice (some ⟨W8.heap.size, 0, none⟩) p.tlbs.length p.tlbs.length, .slice qv9 p.doms.length cv9, V 10] _ RX.out Tryz.underlying28 rfl infoW)) rfl ⟨vv [.slice qv0 p.ram.length cv0, .slice qv1 p.kinds.length cv1, .slice qv2 p.slots.length cv2, .slice qv3 p.tasks.length cv3, .slice qv4 p.lines.length p.lines.length, .slice qv5 p.bits.length cv5, .slice qv6 p.cores.length cv6, .slice qv7 p.ready.length p.ready.length, .slice (some ⟨W8.heap.size, 0, none⟩) p.tlbs.length p.tlbs.length, .slice qv9 p.doms.length cv9, V 10], ll [W0.heap.size, W1.heap.size, W2.heap.size, W3.heap.size, W4.heap.size, W5.heap.size, W6.heap.size, W7.heap.size, W8.heap.size, W9.heap.size, W10.heap.size], rfl, ?_, ?_, ?_, BX.out⟩
   ·refine WorldO.sets ?_ (show w.heap.size + 1 < W0.heap.size by have := H0.out.sz; omega) [.slice qv0 p.ram.length cv0, .slice qv1 p.kinds.length cv1, .slice qv2 p.slots.length cv2, .slice qv3 p.tasks.length cv3, .slice qv4 p.lines.length p.lines.length, .slice qv5 p.bits.length cv5, .slice qv6 p.cores.length cv6, .slice qv7 p.ready.length p.ready.length, .slice (some ⟨W8.heap.size, 0, none⟩) p.tlbs.length p.tlbs.length, .slice qv9 p.doms.length cv9, V 10] 0
    exact ⟨fun j hj => by
     have hj2 : j = 0 ∨ j = 1 ∨ j = 2 ∨ j = 3 ∨ j = 4 ∨ j = 5 ∨ j = 6 ∨ j = 7 ∨ j = 8 ∨ j = 9 := by omega
     rcases hj2 with rfl | rfl | rfl | rfl | rfl | rfl | rfl | rfl | rfl | rfl
     ·exact bs0.out
     ·exact bs1.out
     ·exact bs2.out
     ·exact bs3.out
     ·exact bs4.out
     ·exact bs5.out
     ·exact bs6.out
     ·exact bs7.out
     ·exact bs8.out
     ·exact bs9.out, O0.out, O1.out, O2.out, O3.out, O4.out, O5.out, O6.out, O7.out, O8.out, O9.out, e10⟩
   ·show w.heap.size ≤ W0.heap.size
    have := H0.out.sz
    omega
   ·show W10.heap.size ≤ _
    exact Nat.le_of_eq (setCells_size _ _ _ _).symm
end Go.Proofs.YtoebmjgkfkfhjaaGreatDoor.Wd
