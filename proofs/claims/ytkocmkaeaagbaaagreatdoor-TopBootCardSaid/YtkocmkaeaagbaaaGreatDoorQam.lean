/- Copies of slots and of tasks (slices.Clone), walked; rows of one's own. (Written by mk_clone.py.) · Lists of one's own: the outer row, and each list in blocks of its own. (Written by mk_twins.py.) · deed.twins, walked. (Written by mk_twins.py.) · A world of one's own: each of its lists lies in blocks of its own. (Written by mk_twin.py.) -/
import Derived.Deep.Onto
import Derived.Test.YtkocmkaeaagbaaaGreatDoorQal
import Derived.Test.YtkocmkaeaagbaaaGreatDoorQac
namespace Go.Proofs.YtkocmkaeaagbaaaGreatDoor.Wd
open Go.RowKit Go.Proofs.YtkocmkaeaagbaaaGreatDoor.Mem Go.Proofs.YtkocmkaeaagbaaaGreatDoor.Bw Go.Proofs.YtkocmkaeaagbaaaGreatDoor.Nums Go.Proofs.YtkocmkaeaagbaaaGreatDoor.Mmu
/-- Structs of n numbers each, cell by cell. -/
def rowsC (n : Nat) (fs : List (Nat → Int)) : List Value := fs.flatMap (cf n)
theorem rowsC_len (n : Nat) : ∀ fs, (rowsC n fs).length = fs.length * n
 | [] => by simp [rowsC]
 | f :: r => by
  have := rowsC_len n r
  unfold rowsC at this ⊢
  rw [List.flatMap_cons, List.length_append, cf_len, this, List.length_cons, Nat.succ_mul]
  omega
theorem rowsC_one (n : Nat) (fs : List (Nat → Int)) : ∀ u ∈ rowsC n fs, u.oneCell' = true := by
 intro u hu
 obtain ⟨f, _, h⟩ := List.mem_flatMap.1 hu
 exact cf_one n f u h
theorem rowsC_get (n : Nat) : ∀ (fs : List (Nat → Int)) (j : Nat) (u : Value), (rowsC n fs)[j]? = some u → ∃ (i k : Nat) (h : i < fs.length), k < n ∧ j = i * n + k ∧ u = .int .i64 (fs[i] k)
 | [], j, u, h => by simp [rowsC] at h
 | f :: r, j, u, h => by
  have e : rowsC n (f :: r) = cf n f ++ rowsC n r := by unfold rowsC; rw [List.flatMap_cons]
  rw [e] at h
  by_cases hj : j < n
  ·rw [List.getElem?_append_left (by rw [cf_len]; exact hj), cf_at n f j hj] at h
   exact ⟨0, j, by simp, hj, by simp, (Option.some.inj h).symm⟩
  ·rw [List.getElem?_append_right (by rw [cf_len]; omega), cf_len] at h
   obtain ⟨i, k, hi, hk, ej, eu⟩ := rowsC_get n r (j - n) u h
   exact ⟨i + 1, k, by simpa using hi, hk, by rw [Nat.succ_mul]; omega, by simpa using eu⟩
theorem rowsC_at (n : Nat) : ∀ (fs : List (Nat → Int)) (i k : Nat) (h : i < fs.length), k < n → (rowsC n fs)[i * n + k]? = some (.int .i64 (fs[i] k))
 | [], _, _, h, _ => by simp at h
 | f :: r, i, k, h, hk => by
  have e : rowsC n (f :: r) = cf n f ++ rowsC n r := by unfold rowsC; rw [List.flatMap_cons]
  rw [e]
  match i, h with
  | 0, _ =>
   rw [List.getElem?_append_left (by rw [cf_len]; omega), Nat.zero_mul, Nat.zero_add, cf_at n f k hk]
   rfl
  | i + 1, h =>
   rw [List.getElem?_append_right (by rw [cf_len, Nat.succ_mul]; omega), cf_len, show (i + 1) * n + k - n = i * n + k by rw [Nat.succ_mul]; omega, rowsC_at n r i k (by simpa using h) hk]
   rfl
theorem rowsC_cells {n b off : Nat} {W : World} {fs : List (Nat → Int)} (h : ∀ j (hj : j < fs.length), W.rangeAt b (off + j * n) (cf n fs[j])) : ∀ (j : Nat) (u : Value), (rowsC n fs)[j]? = some u → W.cell? ((⟨b, off, none⟩ : Addr).add j) = some u := by
 intro j u hu
 obtain ⟨i, k, hi, hk, rfl, rfl⟩ := rowsC_get n fs j u hu
 rw [Addr.add_mid, ← Nat.add_assoc]
 exact h i hi k _ (cf_at n _ k hk)
theorem own_rowsC {n E B : Nat} {w : World} {v : Value} {fs : List (Nat → Int)} (h : w.ownsRow B E n v fs.length (rowsC n fs)) : RowsIn n w v fs := by
 rcases h.2 with ⟨rfl, h1⟩ | ⟨g, cap, cur, rfl, h1, _⟩
 ·exact ⟨none, 0, 0, 0, by rw [h1], fun h => by omega, fun j hj => by omega⟩
 ·refine ⟨some ⟨g, 0, none⟩, g, 0, cap, rfl, fun _ => rfl, fun j hj k u hu => ?_⟩
  have hk : k < n := by
   have := (List.getElem?_eq_some_iff.1 hu).1
   rwa [cf_len] at this
  rw [cf_at n _ k hk] at hu
  rw [Nat.zero_add, h.cellAt (j * n + k) (by
   have : (j + 1) * n ≤ fs.length * n := Nat.mul_le_mul_right n hj
   rw [Nat.succ_mul] at this
   omega), rowsC_at n fs j k hj hk]
  exact hu
theorem infoslots : (Tryz.prog.info? 45).map (fun i => (i.zero, i.size, i.bytes)) = some (some (.agg #[.int .i64 0, .int .i64 0, .int .i64 0, .int .i64 0, .int .i64 0, .int .i64 0, .int .i64 0]), 7, 56) := by kernel_rfl
set_option maxHeartbeats 2000000 in
theorem clone_slots (v : Value) (fs : List (Nat → Int)) (w : World) (hv : RowsIn 7 w v fs) (hl : fs.length ≤ 1000) :
  Calls Tryz.prog 212 #[v] w fun r w' => ∃ u, r = .returned u ∧ w'.ownsRow w.heap.size 45 7 u fs.length (rowsC 7 fs) ∧ Below w.heap.size w w' := by
 obtain ⟨i0, hi, hz0, hz1, hz2⟩ := info_get infoslots
 have qn : ∀ (w : World) (a : Option Addr) (n c n' c' : Nat), (binOp .eql 23 (.slice a n c) (.slice none n' c')).run Tryz.prog w = .ok (.bool a.isNone) w := fun w a n c n' c' => Lib.run_eql_slice_nil w _ _ a n c n' c' Tryz.underlying23
 obtain ⟨q, b, off, cap, rfl, hq, hz⟩ := hv
 have HQ := hid hq
 have HZ := hid hz
 clear hq hz
 cases q with
 | none =>
  have h0 : fs = [] := by
   cases fs with
   | nil => rfl
   | cons x l => have := HQ.out (by simp); cases this
  subst h0
  go_enter Tryz.func212, Tryz.ntmps212
  go_wp2_with fail
  go_ret
  exact ⟨_, rfl, World.ownsRow_nil _ _ _ _, Below.refl _ _⟩
 | some ad =>
  have HN := hid (show ∀ (W : World), Below w.heap.size w W → ∀ (j : Nat) (u : Value), (rowsC 7 fs)[j]? = some u → W.cell? (ad.add j) = some u from fun W hb => by
   by_cases h0 : 0 < fs.length
   ·have := HQ.out h0
    cases this
    exact rowsC_cells fun j hj => range_belowO (HZ.out j hj) hb
   ·intro j u hj
    have : fs = [] := by
     cases fs with
     | nil => rfl
     | cons x l => simp at h0
    rw [this] at hj
    simp [rowsC] at hj)
  have HL := hid (rowsC_len 7 fs)
  have HC := hid (rowsC_one 7 fs)
  have hl2 : fs.length ≤ maxLen := by unfold maxLen; omega
  have B0 := hid (bal (Below.refl w.heap.size w) (.cells #[] 45))
  have O0 := hid (World.ownsRow_made (base := w.heap.size) (e := 45) (size := 7) w #[] 0 (Nat.le_refl _) (Nat.zero_le _) (by simp))
  generalize rowsC 7 fs = cs at *
  go_enter Tryz.func212, Tryz.ntmps212
  go_wp2_with (at_builtin; refine wpList_append_own _ rfl _ _ 23 rfl w.heap.size 45 i0 (.agg #[.int .i64 0, .int .i64 0, .int .i64 0, .int .i64 0, .int .i64 0, .int .i64 0, .int .i64 0]) 7 56 Tryz.underlying23 hi hz0 hz1 hz2 rfl (by decide) _ _ _ rfl O0.out ad fs.length cap cs rfl HL.out (HN.out _ B0.out) HC.out (by omega) (by omega) (by simp) ?_; intro v' w5 hown' hgrow _; have B5 := hid (B0.out.grown hgrow (by simp) (fun k hk => (O0.out.lt k hk).1)); have O5 := hid hown'; clear hown' hgrow)
  go_ret
  refine ⟨_, rfl, ?_, B5.out⟩
  have := O5.out
  rw [Nat.zero_add, List.nil_append] at this
  exact this
theorem infotasks : (Tryz.prog.info? 68).map (fun i => (i.zero, i.size, i.bytes)) = some (some (.agg #[.int .i64 0, .int .i64 0, .int .i64 0, .int .i64 0, .int .i64 0, .int .i64 0, .int .i64 0, .int .i64 0, .int .i64 0, .int .i64 0, .int .i64 0, .int .i64 0, .int .i64 0, .int .i64 0, .int .i64 0, .int .i64 0, .int .i64 0, .int .i64 0, .int .i64 0, .int .i64 0]), 20, 160) := by kernel_rfl
set_option maxHeartbeats 2000000 in
theorem clone_tasks (v : Value) (fs : List (Nat → Int)) (w : World) (hv : RowsIn 20 w v fs) (hl : fs.length ≤ 1000) :
  Calls Tryz.prog 213 #[v] w fun r w' => ∃ u, r = .returned u ∧ w'.ownsRow w.heap.size 68 20 u fs.length (rowsC 20 fs) ∧ Below w.heap.size w w' := by
 obtain ⟨i0, hi, hz0, hz1, hz2⟩ := info_get infotasks
 have qn : ∀ (w : World) (a : Option Addr) (n c n' c' : Nat), (binOp .eql 24 (.slice a n c) (.slice none n' c')).run Tryz.prog w = .ok (.bool a.isNone) w := fun w a n c n' c' => Lib.run_eql_slice_nil w _ _ a n c n' c' Tryz.underlying24
 obtain ⟨q, b, off, cap, rfl, hq, hz⟩ := hv
 have HQ := hid hq
 have HZ := hid hz
 clear hq hz
 cases q with
 | none =>
  have h0 : fs = [] := by
   cases fs with
   | nil => rfl
   | cons x l => have := HQ.out (by simp); cases this
  subst h0
  go_enter Tryz.func213, Tryz.ntmps213
  go_wp2_with fail
  go_ret
  exact ⟨_, rfl, World.ownsRow_nil _ _ _ _, Below.refl _ _⟩
 | some ad =>
  have HN := hid (show ∀ (W : World), Below w.heap.size w W → ∀ (j : Nat) (u : Value), (rowsC 20 fs)[j]? = some u → W.cell? (ad.add j) = some u from fun W hb => by
   by_cases h0 : 0 < fs.length
   ·have := HQ.out h0
    cases this
    exact rowsC_cells fun j hj => range_belowO (HZ.out j hj) hb
   ·intro j u hj
    have : fs = [] := by
     cases fs with
     | nil => rfl
     | cons x l => simp at h0
    rw [this] at hj
    simp [rowsC] at hj)
  have HL := hid (rowsC_len 20 fs)
  have HC := hid (rowsC_one 20 fs)
  have hl2 : fs.length ≤ maxLen := by unfold maxLen; omega
  have B0 := hid (bal (Below.refl w.heap.size w) (.cells #[] 68))
  have O0 := hid (World.ownsRow_made (base := w.heap.size) (e := 68) (size := 20) w #[] 0 (Nat.le_refl _) (Nat.zero_le _) (by simp))
  generalize rowsC 20 fs = cs at *
  go_enter Tryz.func213, Tryz.ntmps213
  go_wp2_with (at_builtin; refine wpList_append_own _ rfl _ _ 24 rfl w.heap.size 68 i0 (.agg #[.int .i64 0, .int .i64 0, .int .i64 0, .int .i64 0, .int .i64 0, .int .i64 0, .int .i64 0, .int .i64 0, .int .i64 0, .int .i64 0, .int .i64 0, .int .i64 0, .int .i64 0, .int .i64 0, .int .i64 0, .int .i64 0, .int .i64 0, .int .i64 0, .int .i64 0, .int .i64 0]) 20 160 Tryz.underlying24 hi hz0 hz1 hz2 rfl (by decide) _ _ _ rfl O0.out ad fs.length cap cs rfl HL.out (HN.out _ B0.out) HC.out (by omega) (by omega) (by simp) ?_; intro v' w5 hown' hgrow _; have B5 := hid (B0.out.grown hgrow (by simp) (fun k hk => (O0.out.lt k hk).1)); have O5 := hid hown'; clear hown' hgrow)
  go_ret
  refine ⟨_, rfl, ?_, B5.out⟩
  have := O5.out
  rw [Nat.zero_add, List.nil_append] at this
  exact this
/-- A row of one's own, in blocks from lo on and below hi. -/
def InO (w : World) (lo hi I s : Nat) (u : Value) (c : Nat × List Value) : Prop := w.ownsRow lo I s u c.1 c.2 ∧ ∀ k, u.ownBlock = some k → k < hi
theorem InO.below {w w' : World} {lo hi I s : Nat} {u : Value} {c : Nat × List Value} (h : InO w lo hi I s u c) (hb : Below w.heap.size w w') : InO w' lo hi I s u c := ⟨own_below h.1 hb, h.2⟩
theorem InO.set {w : World} {lo hi I s : Nat} {u : Value} {c : Nat × List Value} (h : InO w lo hi I s u c) {a : Addr} (ha : a.block < lo) (x : Value) : InO (w.setCell a x) lo hi I s u c := ⟨ownsRow_setCell_below h.1 ha x, h.2⟩
/-- Lists, so far: the outer row at block g has us first, then nothing; each of us lies in blocks of its own. -/
structure Part (w : World) (g n O I s : Nat) (cc : Nat → Nat × List Value) (k : Nat) (us : List Value) (m : Nat → Nat) : Prop where
 len : us.length = k
 row : w.ownsRow g O 1 (.slice (some ⟨g, 0, none⟩) n n) n (us ++ List.replicate (n - k) (.slice none 0 0))
 lo : ∀ j, j ≤ k → g < m j
 hi : m k ≤ w.heap.size
 each : ∀ j (h : j < us.length), InO w (m j) (m (j + 1)) I s us[j] (cc j)
theorem Part.below {w w' : World} {g n O I s k : Nat} {cc : Nat → Nat × List Value} {us : List Value} {m : Nat → Nat} (h : Part w g n O I s cc k us m) (hb : Below w.heap.size w w') : Part w' g n O I s cc k us m :=
 ⟨h.len, own_below h.row hb, h.lo, Nat.le_trans h.hi hb.size, fun j hj => (h.each j hj).below hb⟩
theorem Part.cell {w : World} {g n O I s k : Nat} {cc : Nat → Nat × List Value} {us : List Value} {m : Nat → Nat} (h : Part w g n O I s cc k us m) (hk : k < n) : w.cell? ⟨g, k, none⟩ = some (.slice none 0 0) := by
 rw [h.row.cellAt k (by omega), List.getElem?_append_right (by rw [h.len]; exact Nat.le_refl _), h.len, Nat.sub_self, List.getElem?_replicate, if_pos (by omega)]
/-- One more. -/
theorem Part.more {w w1 : World} {g n O I s k : Nat} {cc : Nat → Nat × List Value} {us : List Value} {m : Nat → Nat} (h : Part w g n O I s cc k us m) (hk : k < n) (hb : Below w.heap.size w w1) {u : Value} (hu : w1.ownsRow w.heap.size I s u (cc k).1 (cc k).2) :
  Part (w1.setCell ⟨g, k, none⟩ u) g n O I s cc (k + 1) (us ++ [u]) (fun j => if j ≤ k then m j else w1.heap.size) := by
 have h1 := h.below hb
 refine ⟨by simp [h.len], ?_, fun j hj => ?_, ?_, fun j hj => ?_⟩
 ·have := (h1.row.stored k u).1
  have e : (us ++ List.replicate (n - k) (Value.slice none 0 0)).set k u = us ++ [u] ++ List.replicate (n - (k + 1)) (.slice none 0 0) := by
   rw [List.set_append_right _ _ (by rw [h.len]; exact Nat.le_refl _), h.len, Nat.sub_self, show n - k = (n - (k + 1)) + 1 by omega, List.replicate_succ, List.set_cons_zero, List.append_assoc]
   rfl
  rwa [e] at this
 ·by_cases e : j ≤ k
  ·rw [if_pos e]; exact h.lo j e
  ·rw [if_neg e]
   exact Nat.lt_of_lt_of_le (h.lo k (Nat.le_refl _)) h1.hi
 ·rw [if_neg (by omega)]
  simp
 ·by_cases e : j < k
  ·rw [List.getElem_append_left (by rw [h.len]; exact e), if_pos (by omega), if_pos (by omega)]
   exact (h1.each j (by rw [h.len]; exact e)).set (h.lo j (by omega)) u
  ·have hj2 : j = k := by simp [h.len] at hj; omega
   subst hj2
   rw [List.getElem_append_right (by rw [h.len]; exact Nat.le_refl _), if_pos (Nat.le_refl _), if_neg (by omega)]
   simp only [h.len, Nat.sub_self, List.getElem_cons_zero]
   exact (show InO w1 (m j) w1.heap.size I s u (cc j) from ⟨hu.mono h.hi, fun x hx => (hu.lt x hx).2⟩).set (h.lo j (Nat.le_refl _)) u
theorem Part.start (w : World) (n O I s : Nat) (cc : Nat → Nat × List Value) (hn : n ≤ maxLen) (cur : Array Value) (hc : cur = Array.replicate n (.slice none 0 0)) : Part (w.alloc (.cells cur O)) w.heap.size n O I s cc 0 [] (fun _ => w.heap.size + 1) := by
 subst hc
 refine ⟨rfl, ?_, fun _ _ => Nat.lt_succ_self _, by simp, fun j hj => by simp at hj⟩
 have := World.ownsRow_lit (base := w.heap.size) (e := O) (size := 1) w (Array.replicate n (.slice none 0 0)) n (Nat.le_refl _) hn (by simp)
 simpa using this
/-- Lists of one's own. -/
def OwnL (w : World) (lo hi O I s n : Nat) (v : Value) (cc : Nat → Nat × List Value) : Prop := ∃ g us m, v = .slice (some ⟨g, 0, none⟩) n n ∧ lo ≤ g ∧ m n ≤ hi ∧ (∀ j, j < n → m j ≤ m (j + 1)) ∧ Part w g n O I s cc n us m
def ci (ls : List (List Int)) (j : Nat) : Nat × List Value := ((ls.getD j []).length, ints (ls.getD j []))
def ce (ls : List (List Ent)) (j : Nat) : Nat × List Value := ((ls.getD j []).length, cellsE (ls.getD j []))
theorem made_nil (n : Nat) : madeCells (Value.cells (.slice none 0 0)) (n * 1) = Array.replicate n (Value.slice none 0 0) := by
 apply Array.ext_getElem?
 intro k
 by_cases h : k < n
 ·rw [made_one _ _ _ rfl h]
  simp [h]
 ·rw [Array.getElem?_eq_none (by unfold madeCells; simp; omega)]
  simp [h]
theorem own_form {B e size n : Nat} {w : World} {v : Value} {xs : List Value} (h : w.ownsRow B e size v n xs) : ∃ q c, v = .slice q n c := by
 rcases h.2 with ⟨rfl, rfl⟩ | ⟨g, cap, cur, rfl, _⟩
 ·exact ⟨_, _, rfl⟩
 ·exact ⟨_, _, rfl⟩
set_option maxRecDepth 100000 in
set_option maxHeartbeats 4000000 in
theorem twins_int (v : Value) (ls : List (List Int)) (w : World) (hv : ListsIn w v ls) (hl : ls.length ≤ 1000) (hll : ∀ l ∈ ls, l.length ≤ 1000) :
  Calls Tryz.prog 214 #[v] w fun r w' => ∃ u, r = .returned u ∧ OwnL w' w.heap.size w'.heap.size 22 3 1 ls.length u (ci ls) ∧ Below w.heap.size w w' := by
 obtain ⟨q, b, off, cap, rfl, hq, hz⟩ := hv
 have HQ := hid hq
 have HZ := hid hz
 have HX := hid hll
 have hl2 : (ls.length : Int) ≤ 1000 := by omega
 have mk := make_row Tryz.underlying25 infoL (by decide) (by decide) ls.length hl w
 rw [made_nil] at mk
 have P0 := hid (Part.start w ls.length 22 3 1 (ci ls) (by unfold maxLen; omega) _ rfl)
 have B0 := hid (bal (Below.refl w.heap.size w) (.cells (Array.replicate ls.length (Value.slice none 0 0)) 22))
 have S0 := hid (show (w.alloc (.cells (Array.replicate ls.length (Value.slice none 0 0)) 22)).heap.size = w.heap.size + 1 by simp)
 clear hq hz hll
 go_enter Tryz.func214, Tryz.ntmps214
 go_wp2_with fail
 generalize World.alloc _ _ = W0 at P0 B0 S0 ⊢
 clear mk
 go_loopw [11] (fun i wr => ∃ (k : Nat), k ≤ ls.length ∧ i = .int .i64 k ∧ Hid (∃ us m, Part wr w.heap.size ls.length 22 3 1 (ci ls) k us m ∧ ∀ j, j < k → m j ≤ m (j + 1)) ∧ Hid (Below w.heap.size w wr)) (fun i _ => ls.length - (intOf i).toNat)
 case atStart => exact ⟨0, by omega, rfl, hid ⟨[], _, P0.out, fun j hj => by omega⟩, B0⟩
 case round =>
  obtain ⟨k, hk, rfl, HP, HB⟩ := hrel
  by_cases hlt : k < ls.length
  ·have hlt2 : (k : Int) < (ls.length : Int) := by omega
   obtain ⟨us, m, hp, hm⟩ := HP.out
   have hqe := HQ.out (by omega)
   subst hqe
   obtain ⟨x, hx, hxi⟩ := HZ.out k hlt
   have cx := (HB.out.cell (World.block_lt_of_cell? _ _ hx)).trans hx
   have CL := hid (clone_ints x ls[k] wr (hxi.below HB.out) (HX.out _ (List.getElem_mem hlt)))
   have HC := hid (show (ci ls) k = (ls[k].length, ints ls[k]) by unfold ci; rw [List.getD_eq_getElem?_getD, List.getElem?_eq_getElem hlt]; rfl)
   have HPP := hid hp
   have HM := hid hm
   clear hx hxi hp hm HP
   go_wp2_with fail
   refine CL.out.mono ?_
   rintro r w1 ⟨u, rfl, hu, hb⟩
   obtain ⟨qu, cu, rfl⟩ := own_form hu
   have ck := (HPP.out.below hb).cell hlt
   have fk := (HPP.out.below hb).row.frozenAt k
   have HN := hid (HPP.out.more hlt hb (u := .slice qu ls[k].length cu) (by rw [HC.out]; exact hu))
   have B1 := hid (bset (btr HB.out hb) (o := k) (Nat.le_refl _) (.slice qu ls[k].length cu))
   have H1 := hid (show m k ≤ w1.heap.size from Nat.le_trans HPP.out.hi hb.size)
   clear hu hb CL HC HPP
   go_wp2_with fail
   refine ⟨⟨k + 1, by omega, by go_num, hid ⟨_, _, HN.out, fun j hj => ?_⟩, B1⟩, by simp [intOf]; omega⟩
   by_cases e : j < k
   ·rw [if_pos (by omega), if_pos (by omega)]
    exact HM.out j e
   ·rw [if_pos (by omega), if_neg (by omega), show j = k by omega]
    exact H1.out
  ·obtain rfl : k = ls.length := by omega
   have hge : ¬ ((ls.length : Int) < (ls.length : Int)) := by omega
   obtain ⟨us, m, hp, hm⟩ := HP.out
   have HPP := hid hp
   have HM := hid hm
   clear hp hm HP
   go_wp2_with fail
   go_ret
   exact ⟨_, rfl, ⟨w.heap.size, us, m, rfl, Nat.le_refl _, HPP.out.hi, HM.out, HPP.out⟩, HB.out⟩
set_option maxRecDepth 100000 in
set_option maxHeartbeats 4000000 in
theorem twins_ent (v : Value) (ls : List (List Ent)) (w : World) (hv : TlbsIn w v ls) (hl : ls.length ≤ 1000) :
  Calls Tryz.prog 215 #[v] w fun r w' => ∃ u, r = .returned u ∧ OwnL w' w.heap.size w'.heap.size 70 103 4 ls.length u (ce ls) ∧ Below w.heap.size w w' := by
 obtain ⟨q, b, off, cap, rfl, hq, hz⟩ := hv
 have HQ := hid hq
 have HZ := hid hz
 have hl2 : (ls.length : Int) ≤ 1000 := by omega
 have mk := make_row Tryz.underlying26 infoB (by decide) (by decide) ls.length hl w
 rw [made_nil] at mk
 have P0 := hid (Part.start w ls.length 70 103 4 (ce ls) (by unfold maxLen; omega) _ rfl)
 have B0 := hid (bal (Below.refl w.heap.size w) (.cells (Array.replicate ls.length (Value.slice none 0 0)) 70))
 have S0 := hid (show (w.alloc (.cells (Array.replicate ls.length (Value.slice none 0 0)) 70)).heap.size = w.heap.size + 1 by simp)
 clear hq hz
 go_enter Tryz.func215, Tryz.ntmps215
 go_wp2_with fail
 generalize World.alloc _ _ = W0 at P0 B0 S0 ⊢
 clear mk
 go_loopw [11] (fun i wr => ∃ (k : Nat), k ≤ ls.length ∧ i = .int .i64 k ∧ Hid (∃ us m, Part wr w.heap.size ls.length 70 103 4 (ce ls) k us m ∧ ∀ j, j < k → m j ≤ m (j + 1)) ∧ Hid (Below w.heap.size w wr)) (fun i _ => ls.length - (intOf i).toNat)
 case atStart => exact ⟨0, by omega, rfl, hid ⟨[], _, P0.out, fun j hj => by omega⟩, B0⟩
 case round =>
  obtain ⟨k, hk, rfl, HP, HB⟩ := hrel
  by_cases hlt : k < ls.length
  ·have hlt2 : (k : Int) < (ls.length : Int) := by omega
   obtain ⟨us, m, hp, hm⟩ := HP.out
   have hqe := HQ.out (by omega)
   subst hqe
   obtain ⟨x, hx, hxi⟩ := HZ.out k hlt
   have cx := (HB.out.cell (World.block_lt_of_cell? _ _ hx)).trans hx
   have CL := hid (clone_any x ls[k] wr (hxi.1.below HB.out))
   have HC := hid (show (ce ls) k = (ls[k].length, cellsE ls[k]) by unfold ce; rw [List.getD_eq_getElem?_getD, List.getElem?_eq_getElem hlt]; rfl)
   have HPP := hid hp
   have HM := hid hm
   clear hx hxi hp hm HP
   go_wp2_with fail
   refine CL.out.mono ?_
   rintro r w1 ⟨u, rfl, hu, hb⟩
   obtain ⟨qu, cu, rfl⟩ := own_form hu
   have ck := (HPP.out.below hb).cell hlt
   have fk := (HPP.out.below hb).row.frozenAt k
   have HN := hid (HPP.out.more hlt hb (u := .slice qu ls[k].length cu) (by rw [HC.out]; exact hu))
   have B1 := hid (bset (btr HB.out hb) (o := k) (Nat.le_refl _) (.slice qu ls[k].length cu))
   have H1 := hid (show m k ≤ w1.heap.size from Nat.le_trans HPP.out.hi hb.size)
   clear hu hb CL HC HPP
   go_wp2_with fail
   refine ⟨⟨k + 1, by omega, by go_num, hid ⟨_, _, HN.out, fun j hj => ?_⟩, B1⟩, by simp [intOf]; omega⟩
   by_cases e : j < k
   ·rw [if_pos (by omega), if_pos (by omega)]
    exact HM.out j e
   ·rw [if_pos (by omega), if_neg (by omega), show j = k by omega]
    exact H1.out
  ·obtain rfl : k = ls.length := by omega
   have hge : ¬ ((ls.length : Int) < (ls.length : Int)) := by omega
   obtain ⟨us, m, hp, hm⟩ := HP.out
   have HPP := hid hp
   have HM := hid hm
   clear hp hm HP
   go_wp2_with fail
   go_ret
   exact ⟨_, rfl, ⟨w.heap.size, us, m, rfl, Nat.le_refl _, HPP.out.hi, HM.out, HPP.out⟩, HB.out⟩
theorem InO.sets {lo hi I s : Nat} {u : Value} {c : Nat × List Value} {B : Nat} (hB : B < lo) : ∀ (vs : List Value) (o : Nat) (w : World), InO w lo hi I s u c → InO (w.setCells B o vs) lo hi I s u c
 | [], _, _, h => h
 | v :: r, o, w, h => by
  rw [World.setCells]
  exact InO.sets hB r (o + 1) _ (h.set (a := ⟨B, o, none⟩) hB v)
theorem Part.set {w : World} {g n O I s k : Nat} {cc : Nat → Nat × List Value} {us : List Value} {m : Nat → Nat} (h : Part w g n O I s cc k us m) {a : Addr} (ha : a.block < g) (x : Value) : Part (w.setCell a x) g n O I s cc k us m :=
 ⟨h.len, ownsRow_setCell_below h.row ha x, h.lo, by simpa using h.hi, fun j hj => (h.each j hj).set (Nat.lt_trans ha (h.lo j (by rw [← h.len]; omega))) x⟩
theorem OwnL.below {w w' : World} {lo hi O I s n : Nat} {v : Value} {cc : Nat → Nat × List Value} (h : OwnL w lo hi O I s n v cc) (hb : Below w.heap.size w w') : OwnL w' lo hi O I s n v cc := by
 obtain ⟨g, us, m, h1, h2, h3, h4, h5⟩ := h
 exact ⟨g, us, m, h1, h2, h3, h4, h5.below hb⟩
theorem OwnL.set {w : World} {lo hi O I s n : Nat} {v : Value} {cc : Nat → Nat × List Value} (h : OwnL w lo hi O I s n v cc) {a : Addr} (ha : a.block < lo) (x : Value) : OwnL (w.setCell a x) lo hi O I s n v cc := by
 obtain ⟨g, us, m, h1, h2, h3, h4, h5⟩ := h
 exact ⟨g, us, m, h1, h2, h3, h4, h5.set (Nat.lt_of_lt_of_le ha h2) x⟩
theorem OwnL.sets {lo hi O I s n : Nat} {v : Value} {cc : Nat → Nat × List Value} {B : Nat} (hB : B < lo) : ∀ (vs : List Value) (o : Nat) (w : World), OwnL w lo hi O I s n v cc → OwnL (w.setCells B o vs) lo hi O I s n v cc
 | [], _, _, h => h
 | x :: r, o, w, h => by
  rw [World.setCells]
  exact OwnL.sets hB r (o + 1) _ (h.set (a := ⟨B, o, none⟩) hB x)
/-- A world of one's own. -/
structure WorldO (w : World) (L : Nat → Nat) (v : Nat → Value) (p : PW) : Prop where
 mono : ∀ j, j < 10 → L j ≤ L (j + 1)
 ram : InO w (L 0) (L 1) 3 1 (v 0) (p.ram.length, ints p.ram)
 kinds : InO w (L 1) (L 2) 3 1 (v 1) (p.kinds.length, ints p.kinds)
 slots : InO w (L 2) (L 3) 45 7 (v 2) (p.slots.length, rowsC 7 p.slots)
 tasks : InO w (L 3) (L 4) 68 20 (v 3) (p.tasks.length, rowsC 20 p.tasks)
 lines : OwnL w (L 4) (L 5) 22 3 1 p.lines.length (v 4) (ci p.lines)
 bits : InO w (L 5) (L 6) 3 1 (v 5) (p.bits.length, ints p.bits)
 cores : InO w (L 6) (L 7) 3 1 (v 6) (p.cores.length, ints p.cores)
 ready : OwnL w (L 7) (L 8) 22 3 1 p.ready.length (v 7) (ci p.ready)
 tlbs : OwnL w (L 8) (L 9) 70 103 4 p.tlbs.length (v 8) (ce p.tlbs)
 doms : InO w (L 9) (L 10) 3 1 (v 9) (p.doms.length, ints p.doms)
 time : v 10 = .int .i64 p.time
theorem WorldO.le {w : World} {L : Nat → Nat} {v : Nat → Value} {p : PW} (h : WorldO w L v p) : ∀ j, j ≤ 10 → L 0 ≤ L j
 | 0, _ => Nat.le_refl _
 | j + 1, hj => Nat.le_trans (h.le j (by omega)) (h.mono j (by omega))
theorem WorldO.below {w w' : World} {L : Nat → Nat} {v : Nat → Value} {p : PW} (h : WorldO w L v p) (hb : Below w.heap.size w w') : WorldO w' L v p :=
 ⟨h.mono, h.ram.below hb, h.kinds.below hb, h.slots.below hb, h.tasks.below hb, h.lines.below hb, h.bits.below hb, h.cores.below hb, h.ready.below hb, h.tlbs.below hb, h.doms.below hb, h.time⟩
theorem WorldO.sets {w : World} {L : Nat → Nat} {v : Nat → Value} {p : PW} (h : WorldO w L v p) {B : Nat} (hB : B < L 0) (vs : List Value) (o : Nat) : WorldO (w.setCells B o vs) L v p :=
 ⟨h.mono, InO.sets (Nat.lt_of_lt_of_le hB (h.le 0 (by omega))) vs o w h.ram, InO.sets (Nat.lt_of_lt_of_le hB (h.le 1 (by omega))) vs o w h.kinds, InO.sets (Nat.lt_of_lt_of_le hB (h.le 2 (by omega))) vs o w h.slots, InO.sets (Nat.lt_of_lt_of_le hB (h.le 3 (by omega))) vs o w h.tasks, OwnL.sets (Nat.lt_of_lt_of_le hB (h.le 4 (by omega))) vs o w h.lines, InO.sets (Nat.lt_of_lt_of_le hB (h.le 5 (by omega))) vs o w h.bits, InO.sets (Nat.lt_of_lt_of_le hB (h.le 6 (by omega))) vs o w h.cores, OwnL.sets (Nat.lt_of_lt_of_le hB (h.le 7 (by omega))) vs o w h.ready, OwnL.sets (Nat.lt_of_lt_of_le hB (h.le 8 (by omega))) vs o w h.tlbs, InO.sets (Nat.lt_of_lt_of_le hB (h.le 9 (by omega))) vs o w h.doms, h.time⟩
theorem InO.ints {w : World} {lo hi : Nat} {u : Value} {zs : List Int} (h : InO w lo hi 3 1 u (zs.length, ints zs)) : IntsIn w u zs := own_ints h.1
theorem OwnL.lists {w : World} {lo hi O : Nat} {v : Value} {ls : List (List Int)} (h : OwnL w lo hi O 3 1 ls.length v (ci ls)) : ListsIn w v ls := by
 obtain ⟨g, us, m, rfl, _, _, _, h5⟩ := h
 refine ⟨some ⟨g, 0, none⟩, g, 0, ls.length, rfl, fun _ => rfl, fun j hj => ?_⟩
 have hj2 : j < us.length := by rw [h5.len]; exact hj
 have hr := h5.row.cellAt j (by omega)
 rw [List.getElem?_append_left hj2, List.getElem?_eq_getElem hj2] at hr
 refine ⟨us[j], by rw [Nat.zero_add]; exact hr, ?_⟩
 have := (h5.each j hj2).1
 unfold ci at this
 rw [List.getD_eq_getElem?_getD, List.getElem?_eq_getElem hj] at this
 exact own_ints this
theorem own_tlb {w : World} {B : Nat} {v : Value} {l : List Ent} (h : w.ownsRow B 103 4 v l.length (cellsE l)) (hl : l.length ≤ 100) : TlbIn w v l ∧ RoomV v := by
 rcases h.2 with ⟨rfl, h1⟩ | ⟨g, cap, cur, rfl, h1, h2, h3, _⟩
 ·rw [List.length_eq_zero_iff.1 h1]
  exact ⟨⟨none, 0, 0, 0, rfl, fun e => by simp at e, fun j hj => by simp at hj, by simp⟩, Nat.le_refl _⟩
 ·refine ⟨⟨some ⟨g, 0, none⟩, g, 0, cap, rfl, fun _ => rfl, fun j hj => ?_, hl⟩, h3⟩
  obtain ⟨c0, c1, c2, c3⟩ := cellsE_at l j hj
  simp only [Nat.zero_add]
  exact ⟨(h.cellAt (j * 4) (by omega)).trans c0, (h.cellAt (j * 4 + 1) (by omega)).trans c1, (h.cellAt (j * 4 + 2) (by omega)).trans c2, (h.cellAt (j * 4 + 3) (by omega)).trans c3⟩
theorem OwnL.tlbs {w : World} {lo hi O : Nat} {v : Value} {ls : List (List Ent)} (h : OwnL w lo hi O 103 4 ls.length v (ce ls)) (hl : ∀ l ∈ ls, l.length ≤ 100) : TlbsIn w v ls := by
 obtain ⟨g, us, m, rfl, _, _, _, h5⟩ := h
 refine ⟨some ⟨g, 0, none⟩, g, 0, ls.length, rfl, fun _ => rfl, fun j hj => ?_⟩
 have hj2 : j < us.length := by rw [h5.len]; exact hj
 have hr := h5.row.cellAt j (by omega)
 rw [List.getElem?_append_left hj2, List.getElem?_eq_getElem hj2] at hr
 refine ⟨us[j], by rw [Nat.zero_add]; exact hr, ?_⟩
 have := (h5.each j hj2).1
 unfold ce at this
 rw [List.getD_eq_getElem?_getD, List.getElem?_eq_getElem hj] at this
 exact own_tlb this (hl _ (List.getElem_mem hj))
theorem WorldO.v {w : World} {L : Nat → Nat} {v : Nat → Value} {p : PW} (h : WorldO w L v p) (hl : ∀ l ∈ p.tlbs, l.length ≤ 100) : WorldV w v p :=
 ⟨h.ram.ints, h.kinds.ints, own_rowsC h.slots.1, own_rowsC h.tasks.1, h.lines.lists, h.bits.ints, h.cores.ints, h.ready.lists, h.tlbs.tlbs hl, h.doms.ints, h.time⟩
theorem tlbs_le {w : World} {v : Value} {ls : List (List Ent)} (h : TlbsIn w v ls) : ∀ l ∈ ls, l.length ≤ 100 := by
 intro l hl
 obtain ⟨_, b, off, _, _, _, h3⟩ := h
 obtain ⟨j, hj, rfl⟩ := List.mem_iff_getElem.1 hl
 obtain ⟨x, _, ⟨_, _, _, _, _, _, _, h4⟩, _⟩ := h3 j hj
 exact h4
end Go.Proofs.YtkocmkaeaagbaaaGreatDoor.Wd
