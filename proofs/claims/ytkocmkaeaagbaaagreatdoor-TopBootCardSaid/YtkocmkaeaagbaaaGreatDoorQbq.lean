/- A world out of a text: boot.Read; walked. · A world out of a text: boot.Read; walked. · keyholdtop.ok and like, of sound worlds: walked. · keyholdtop.TopBoot: walked. · From the row's condition on errors.errorType to its cell; a world that meets the condition. -/
import Derived.Test.YtkocmkaeaagbaaaGreatDoorRows
import Derived.ChangeSame
import Derived.ChangeVars
import Derived.JoinedOf
import Derived.RowKit
import Derived.RowKitTokens
import Derived.LaidLaws
import Derived.LaidHandle
import Derived.Stop.Joined
import Derived.ProofKit
import Derived.Test.YtkocmkaeaagbaaaGreatDoorQbp
import Derived.Test.YtkocmkaeaagbaaaGreatDoorQak
import Derived.Test.YtkocmkaeaagbaaaGreatDoorQal
import Derived.Test.YtkocmkaeaagbaaaGreatDoorQag
namespace Go.Proofs.YtkocmkaeaagbaaaGreatDoor.Wd
open Go.RowKit Go.Proofs.YtkocmkaeaagbaaaGreatDoor.Mem Go.Proofs.YtkocmkaeaagbaaaGreatDoor.Bw Go.Proofs.YtkocmkaeaagbaaaGreatDoor.Nums Go.Proofs.YtkocmkaeaagbaaaGreatDoor.Hex Go.Proofs.YtkocmkaeaagbaaaGreatDoor.Prs Go.Proofs.YtkocmkaeaagbaaaGreatDoor.Mmu
theorem Bz.setNext {W : World} {bb : Nat} {lv : Value} {n : Nat} (h : Bz W bb lv n) (m : Nat) : Bz (W.setCell ⟨bb, 12, none⟩ (.int .i64 m)) bb lv m ∧ Kt (tg1 bb) (tg1 bb) W (W.setCell ⟨bb, 12, none⟩ (.int .i64 m)) := by
 refine ⟨⟨World.rangeAt_setCells_apart (w := W) h.r bb 12 [.int .i64 m] (.inr (.inl (by show 0 + 11 ≤ 12; omega))), ?_, World.cell?_setCell_same W _ _ h.n, World.there_setCells h.t bb 12 [.int .i64 m]⟩, ?_⟩
 ·rw [World.cell?_setCell_other W _ _ _ (by intro e; cases e)]
  exact h.l
 ·exact Kt.of ((Kp.refl (fun k => k = bb) W).setCell (b := bb) (o := 12) (Or.inl rfl) _) (fun k e => by subst e; unfold tg1; rw [if_pos rfl]; decide) (fun _ _ => rfl)
/-- How far it has come. -/
def StA (w : World) (bb : Nat) (tag : Nat → Nat) (lv : Value) (n : Nat) : Prop := (Bz w bb lv n ∧ tag = tg1 bb ∧ n = 0) ∨ ∃ V p, Bld w bb tag V p lv n
theorem StA.l {w : World} {bb : Nat} {tag : Nat → Nat} {lv : Value} {n : Nat} (h : StA w bb tag lv n) : w.cell? ⟨bb, 11, none⟩ = some lv := by
 rcases h with ⟨h, _⟩ | ⟨V, p, h⟩
 ·exact h.l
 ·exact h.l
theorem StA.n {w : World} {bb : Nat} {tag : Nat → Nat} {lv : Value} {n : Nat} (h : StA w bb tag lv n) : w.cell? ⟨bb, 12, none⟩ = some (.int .i64 n) := by
 rcases h with ⟨h, _⟩ | ⟨V, p, h⟩
 ·exact h.n
 ·exact h.n
theorem StA.t {w : World} {bb : Nat} {tag : Nat → Nat} {lv : Value} {n : Nat} (h : StA w bb tag lv n) : w.there bb 0 13 := by
 rcases h with ⟨h, _⟩ | ⟨V, p, h⟩
 ·exact h.t
 ·exact h.t
theorem StA.below {w w' : World} {bb : Nat} {tag : Nat → Nat} {lv : Value} {n : Nat} (h : StA w bb tag lv n) (hb : Below w.heap.size w w') : StA w' bb tag lv n := by
 rcases h with ⟨h, e⟩ | ⟨V, p, h⟩
 ·exact .inl ⟨h.below hb, e⟩
 ·exact .inr ⟨V, p, h.below hb⟩
theorem StA.lt {w : World} {bb : Nat} {tag : Nat → Nat} {lv : Value} {n : Nat} (h : StA w bb tag lv n) : bb < w.heap.size := World.block_lt_of_cell? _ ⟨bb, 11, none⟩ h.l
/-- A line is obeyed, behind `next` was counted up. -/
theorem obey_any (bb : Nat) (tag : Nat → Nat) (g c n : Nat) (ls : List ByteArray) (s : ByteArray) (w : World) (h : StA w bb tag (lvS g c ls) n) (hG : Gl w tag) (hL : Lin w tag g c ls) (hg : g < w.heap.size) (hn : n < ls.length) (hs : s.size ≤ 4000) :
  Calls Tryz.prog 18 #[.pointer (some ⟨bb, 0, none⟩), .string s] (w.setCell ⟨bb, 12, none⟩ (.int .i64 ((n + 1 : Nat) : Int))) fun r w' => DoA w bb tag (lvS g c ls) ls.length (n + 1) r w' ∧ Gd (n = 0 ∧ ¬ (∃ V p, Bld w bb tag V p (lvS g c ls) n) ∧ s = oneB) r := by
 rcases h with ⟨h, rfl, e⟩ | ⟨V, p, h⟩
 ·obtain ⟨h1, h2⟩ := h.setNext (n + 1)
  refine (obey_new bb g c (n + 1) ls s _ h1 (hG.kt h2) hs).mono ?_
  rintro r w' ⟨hd, hgd⟩
  exact ⟨DoA.kt h2 (Nat.le_refl _) id hd, fun e => hgd e.2.2⟩
 ·obtain ⟨h1, h2⟩ := h.setNext (n + 1)
  refine (obey_old bb tag V p g c (n + 1) ls s _ h1 (hG.kt h2) (hL.kt h2 hg) (Nat.lt_of_lt_of_le hg h2.k.size) (by omega) hs).mono ?_
  intro r w' hd
  exact ⟨DoA.kt h2 (Nat.le_refl _) id hd, gd_no (fun e => e.2.1 ⟨V, p, h⟩)⟩
end Go.Proofs.YtkocmkaeaagbaaaGreatDoor.Wd
namespace Go.Proofs.YtkocmkaeaagbaaaGreatDoor.Wd
open Go.RowKit Go.Proofs.YtkocmkaeaagbaaaGreatDoor.Mem Go.Proofs.YtkocmkaeaagbaaaGreatDoor.Bw Go.Proofs.YtkocmkaeaagbaaaGreatDoor.Nums Go.Proofs.YtkocmkaeaagbaaaGreatDoor.Hex Go.Proofs.YtkocmkaeaagbaaaGreatDoor.Prs Go.Proofs.YtkocmkaeaagbaaaGreatDoor.Mmu
/-- What boot.Read answers. -/
def RdO (w' : World) (ls : List ByteArray) (r : Ending) : Prop := ∃ X ev, r = .returned (.tuple #[.agg (arr11 X), ev]) ∧ (arr11 X).all (·.oneCell') = true ∧ ((ev = .nilIface ∧ ∃ p, WorldV w' X p ∧ Bt p) ∨ ((∃ t u, ev = .iface t u) ∧ ls ≠ [oneB]))
/-- Which line is next. -/
def nxt (w : World) (bb : Nat) : Nat := match w.cell? ⟨bb, 12, none⟩ with
 | some (.int _ k) => k.toNat
 | _ => 0
theorem one_at {ls : List ByteArray} {n : Nat} (h : n < ls.length) (e : ls = [oneB]) : n = 0 ∧ ls[n] = oneB := by
 subst e
 have h0 : n = 0 := by simpa using h
 subst h0
 exact ⟨rfl, rfl⟩
theorem below_kt {w w2 w4 : World} {bb : Nat} {tag : Nat → Nat} (h : Below w.heap.size w w2) (k : Kt (tg1 bb) tag w2 w4) (hl : w.heap.size < bb) : Below w.heap.size w w4 :=
 h.trans ⟨k.k.os, k.k.tape, k.k.output, k.k.size, fun i hi => k.k.block i (Nat.lt_of_lt_of_le hi h.size) (fun e => e (if_neg (by omega)))⟩
theorem bz_not {w : World} {bb : Nat} {tag : Nat → Nat} {lv : Value} {n : Nat} (h : Bz w bb lv n) : ¬ ∃ V p, Bld w bb tag V p lv n := by
 rintro ⟨V, p, h2⟩
 obtain ⟨gk, ck, ek⟩ := h2.b.o.kinds.form h2.k.lf.k1
 have k1 : w.cell? ⟨bb, 1, none⟩ = some (.slice none 0 0) := range_cell h.r (k := 1) rfl
 have k2 : w.cell? ⟨bb, 1, none⟩ = some (V 1) := range_cell h2.b.r (k := 1) rfl
 rw [k1, ek] at k2
 cases k2
/-- errors.errorType stays. -/
structure Et (w : World) (tag : Nat → Nat) : Prop where
 e : ETok w
 t : tag 1 = 0
theorem Et.kt {w w' : World} {tag tag' : Nat → Nat} (h : Et w tag) (k : Kt tag tag' w w') : ETok w' := k.cell h.e h.t
/-- The builder, when it is new. -/
def arr13 (lv : Value) : Array Value := #[.slice none 0 0, .slice none 0 0, .slice none 0 0, .slice none 0 0, .slice none 0 0, .slice none 0 0, .slice none 0 0, .slice none 0 0, .slice none 0 0, .slice none 0 0, .int .i64 0, lv, .int .i64 0]
theorem cell_new (w : World) (arr : Array Value) (t : TypeId) (j : Nat) (h : j < arr.size) : (w.alloc (.cells arr t)).cell? ⟨w.heap.size, j, none⟩ = some arr[j] := (cells_new w arr t j).trans (Array.getElem?_eq_getElem h)
theorem there_newA (w : World) (arr : Array Value) (t : TypeId) (n : Nat) (h : n ≤ arr.size) : (w.alloc (.cells arr t)).there w.heap.size 0 n := fun j hj => by
 rw [Nat.zero_add]
 exact ⟨by rw [cell_new w arr t j (by omega)]; rfl, World.frozen?_alloc_at _ _ _ _ rfl⟩
theorem there_new (w : World) : (w.alloc (.cells (arr11 zeroV) 28)).there w.heap.size 0 11 := there_newA w _ _ 11 (by show 11 ≤ 11; omega)
theorem bz_new (w : World) (lv : Value) : Bz (w.alloc (.cells (arr13 lv) 59)) w.heap.size lv 0 := by
 refine ⟨fun j v hj => ?_, cell_new w (arr13 lv) _ 11 (by show 11 < 13; omega), cell_new w (arr13 lv) _ 12 (by show 12 < 13; omega), there_newA w _ _ 13 (by show 13 ≤ 13; omega)⟩
 have hl : j < 11 := (List.getElem?_eq_some_iff.1 hj).1
 rw [Nat.zero_add, cell_new w (arr13 lv) _ j (by show j < 13; omega), ← hj]
 match j, hl with
 | 0, _ | 1, _ | 2, _ | 3, _ | 4, _ | 5, _ | 6, _ | 7, _ | 8, _ | 9, _ | 10, _ => rfl
set_option maxRecDepth 100000 in
set_option maxHeartbeats 8000000 in
theorem read_any (s : ByteArray) (w : World) (hs : s.size ≤ 4000) (hM : MLok w) (hN : NamesAt w) (hE : ETok w) :
  Calls Tryz.prog 6 #[.string s] w fun r w' => RdO w' (linesB s) r ∧ Below w.heap.size w w' := by
 have B0 := hid (bal (Below.refl w.heap.size w) (.cells (arr11 zeroV) 28))
 have LO := hid (linesOf_cap s (w.alloc (.cells (arr11 zeroV) 28)) (by omega) (hM.below B0.out))
 have HM := hid hM
 have HN := hid hN
 have HE := hid hE
 have LL := hid (show (linesB s).length ≤ 4001 by have := linesB_len s; omega)
 have LZ := hid (show ∀ t ∈ linesB s, t.size ≤ 4000 from fun t ht => Nat.le_trans (linesB_mem s t ht) hs)
 have hs2 : ¬ ((s.size : Int) > 4000) := by omega
 generalize linesB s = ls at *
 clear hM hN hE
 go_enter Tryz.func6, Tryz.ntmps6
 go_wp2_with fail
 refine LO.out.mono ?_
 rintro r w1 ⟨g, c, rfl, hS, hb, hc⟩
 have RT := hid (show w1.there w.heap.size 0 11 from there_kp (there_new w) (.of_below (T := fun _ => False) hb) id)
 have BX := hid (show w.heap.size < w1.heap.size from Nat.lt_of_lt_of_le (by simp) hb.size)
 have S1 := hid hS
 have B1 := hid (btr B0.out hb)
 have C1 := hid hc
 clear hS hb hc LO
 go_wp2_with fail
 have LT := hid (show 0 < ls.length → g < w1.heap.size from fun h => World.block_lt_of_cell? _ _ (S1.out 0 h))
 have LW := hid (show w.heap.size < w1.heap.size from BX.out)
 have BZ := hid (bz_new w1 (lvS g c ls))
 have B2 := hid (bal B1.out (.cells (arr13 (lvS g c ls)) 59))
 have S2 := hid (StrsAt.below' S1.out (bal (Below.refl _ _) (.cells (arr13 (lvS g c ls)) 59)))
 have RB := hid (show (w1.alloc (.cells (arr13 (lvS g c ls)) 59)).there w.heap.size 0 11 from there_kp RT.out (.of_below (T := fun _ => False) (bal (Below.refl _ _) _)) id)
 have SZ := hid (show (w1.alloc (.cells (arr13 (lvS g c ls)) 59)).heap.size = w1.heap.size + 1 by simp)
 have NG := hid (show 3 < w.heap.size ∧ 6 < w.heap.size from ⟨by obtain ⟨m, hm⟩ := HM.out; exact World.block_lt_of_cell? _ _ hm, World.block_lt_of_cell? _ _ (HN.out 0 (by decide))⟩)
 have GL2 := hid (show Gl (w1.alloc (.cells (arr13 (lvS g c ls)) 59)) (tg1 w1.heap.size) from ⟨HM.out.below B2.out, fun j hj => cell_up (HN.out j hj) B2.out, if_neg (by have := NG.out.1; have := LW.out; omega), if_neg (by have := NG.out.2; have := LW.out; omega)⟩)
 have hE : Et (w1.alloc (.cells (arr13 (lvS g c ls)) 59)) (tg1 w1.heap.size) := ⟨cell_up HE.out B2.out, if_neg (by have := HE.out.lt; have := LW.out; omega)⟩
 have O1 := hid (show (arr11 zeroV).all (·.oneCell') = true by simp [arr11, zeroV, Value.oneCell'])
 unfold arr13 at *
 generalize w1.alloc _ = w2 at *
 generalize w1.heap.size = bb at *
 clear RT BX
 go_loopw [5] (fun _ wr => ∃ (n : Nat) (tag : Nat → Nat), Hid (StA wr bb tag (lvS g c ls) n) ∧ Hid (n ≤ ls.length) ∧ Hid (Kt (tg1 bb) tag w2 wr) ∧ Hid (n = 0 → Bz wr bb (lvS g c ls) n)) (fun _ wr => ls.length - nxt wr bb)
 case atStart => exact ⟨0, tg1 bb, hid (.inl ⟨BZ.out, rfl, rfl⟩), hid (Nat.zero_le _), hid (Kt.refl _ _), hid (fun _ => BZ.out)⟩
 case round =>
  obtain ⟨n, tag, ST, NL, KT, ZB⟩ := hrel
  have h11 := ST.out.l
  have h12 := ST.out.n
  have NX := hid (show nxt wr bb = n by unfold nxt; rw [h12]; simp)
  by_cases hlt : n < ls.length
  ·have hlt2 : (n : Int) < (ls.length : Int) := by omega
   have hl2 : (ls.length : Int) ≤ 4001 := by have := LL.out; omega
   go_wp2_with fail
   go_quiet (fail)
   have B3 := hid (show Below wr.heap.size wr (wr.drewN nq) from below_drewN (Below.refl _ _) nq)
   have ST3 := hid (ST.out.below B3.out)
   have NB := hid (show n = 0 → ¬ ∃ V p, Bld (wr.drewN nq) bb tag V p (lvS g c ls) n from fun e => bz_not ((ZB.out e).below B3.out))
   have KT3 := hid (KT.out.trans (Kt.below B3.out))
   have GT := hid (LT.out (by omega))
   have gb : ¬ g = bb := by have := GT.out; omega
   have gb2 : ¬ bb = g := fun e => gb e.symm
   have t0 : tg1 bb g = 0 := if_neg gb
   have ck := KT3.out.cell (S2.out n hlt) t0
   rw [Nat.zero_add] at ck
   have TZ := hid (LZ.out _ (List.getElem_mem hlt))
   have g11 := ST3.out.l
   have g12 := ST3.out.n
   have fz : (wr.drewN nq).frozen? ⟨bb, 12, none⟩ = false := (ST3.out.t 12 (by omega)).2
   have LN3 := hid (show Lin w2 (tg1 bb) g c ls from ⟨S2.out, t0, C1.out, LL.out, LZ.out⟩)
   have OB := hid (fun t (ht : t.size ≤ 4000) (hG : Gl (wr.drewN nq) tag) => obey_any bb tag g c n ls t (wr.drewN nq) ST3.out hG (LN3.out.kt KT3.out (by have := SZ.out; have := GT.out; omega)) (Nat.lt_of_lt_of_le (by have := SZ.out; have := GT.out; omega) KT3.out.k.size) hlt ht)
   generalize wr.drewN nq = w3 at *
   clear h11 h12 ST KT B3
   have GL := hid (show Gl w3 tag from GL2.out.kt KT3.out)
   have OB2 := hid (OB.out ls[n] TZ.out GL.out)
   have LS := hid (one_at hlt)
   generalize ls[n] = t at *
   go_wp2_with fail
   rw [show (n : Int) + 1 = ((n + 1 : Nat) : Int) by omega]
   refine OB2.out.mono ?_
   rintro r w4 ⟨⟨ev, tag', rfl, d1, d2, d3⟩, d4⟩
   have D2 := hid (KT3.out.trans d2)
   have D4 := hid d4
   clear d2 d4 OB OB2 g11 g12 fz ck
   rcases d1 with ⟨e, a, ⟨rfl, he⟩ | ⟨rfl, he⟩ | ⟨b, o, rfl, he⟩⟩
   ·obtain ⟨V, p, n', h1, h2, h3⟩ := d3 rfl
    have H1 := hid h1
    have H2 := hid (show n < n' from h2)
    have H3 := hid (h3 (by omega))
    clear h1 h2 h3 d3
    go_wp2_with fail
    refine ⟨⟨n', tag', hid (.inr ⟨V, p, H1.out⟩), H3, D2, hid (fun h => by have := H2.out; omega)⟩, ?_⟩
    rw [NX.out, show nxt w4 bb = n' by unfold nxt; rw [H1.out.n]; simp]
    have := H2.out
    have := H3.out
    omega
   ·have FA := hid (fault_any n _ w4 (errT_no w4 e) (hE.kt D2.out))
    have NO := hid (show ls ≠ [oneB] from fun e0 => by have := D4.out ⟨(LS.out e0).1, NB.out (LS.out e0).1, (LS.out e0).2⟩; cases this)
    clear d3 he
    go_wp2_with fail
    refine FA.out.mono ?_
    rintro r w5 ⟨⟨fb, rfl⟩, hb5⟩
    have B5 := hid (btr (below_kt B2.out D2.out LW.out) hb5)
    have TH := hid (show w5.there w.heap.size 0 11 from there_kp (there_kp RB.out D2.out.k (fun h => h (if_neg (by have := LW.out; omega)))) (.of_below (T := fun _ => False) hb5) id)
    clear hb5 FA
    go_wp2_with (first | ((with_reducible (show wpList _ _ _ (⟨_, Op.store 28 _ _, _, _, _, _⟩ :: _) _ _)); refine wpList_store_mid rfl 28 _ _ rfl w.heap.size 0 (arr11 zeroV) rfl rfl TH.out infoW O1.out ?_))
    have RG := World.rangeAt_setCells_same w5 w.heap.size 0 (arr11 zeroV).toList TH.out
    refine bodyPost_ret (v := .tuple #[.agg (arr11 zeroV), .iface 96 (.pointer (some ⟨fb, 0, none⟩))]) (results_d2 rfl rfl (run_loadVar_mid _ w.heap.size 0 28 (arr11 zeroV).toList _ RG Tryz.underlying28 rfl infoW) rfl) rfl ⟨⟨zeroV, _, rfl, O1.out, .inr ⟨⟨_, _, rfl⟩, NO.out⟩⟩, below_setCells B5.out (Nat.le_refl _) _ _⟩
   ·have FA := hid (fault_any n _ w4 (⟨_, _, .inr (.inr ⟨b, o, rfl, he⟩)⟩) (hE.kt D2.out))
    have NO := hid (show ls ≠ [oneB] from fun e0 => by have := D4.out ⟨(LS.out e0).1, NB.out (LS.out e0).1, (LS.out e0).2⟩; cases this)
    clear d3 he
    go_wp2_with fail
    refine FA.out.mono ?_
    rintro r w5 ⟨⟨fb, rfl⟩, hb5⟩
    have B5 := hid (btr (below_kt B2.out D2.out LW.out) hb5)
    have TH := hid (show w5.there w.heap.size 0 11 from there_kp (there_kp RB.out D2.out.k (fun h => h (if_neg (by have := LW.out; omega)))) (.of_below (T := fun _ => False) hb5) id)
    clear hb5 FA
    go_wp2_with (first | ((with_reducible (show wpList _ _ _ (⟨_, Op.store 28 _ _, _, _, _, _⟩ :: _) _ _)); refine wpList_store_mid rfl 28 _ _ rfl w.heap.size 0 (arr11 zeroV) rfl rfl TH.out infoW O1.out ?_))
    have RG := World.rangeAt_setCells_same w5 w.heap.size 0 (arr11 zeroV).toList TH.out
    refine bodyPost_ret (v := .tuple #[.agg (arr11 zeroV), .iface 96 (.pointer (some ⟨fb, 0, none⟩))]) (results_d2 rfl rfl (run_loadVar_mid _ w.heap.size 0 28 (arr11 zeroV).toList _ RG Tryz.underlying28 rfl infoW) rfl) rfl ⟨⟨zeroV, _, rfl, O1.out, .inr ⟨⟨_, _, rfl⟩, NO.out⟩⟩, below_setCells B5.out (Nat.le_refl _) _ _⟩
  ·have hge : ¬ ((n : Int) < (ls.length : Int)) := by omega
   have B3 := hid (show ∀ k, Below wr.heap.size wr (wr.drewN k) from fun k => below_drewN (Below.refl _ _) k)
   rcases ST.out with ⟨hz, -, e0⟩ | ⟨V, p, hB⟩
   ·have NO := hid (show ls ≠ [oneB] from fun e => by rw [e] at hlt; simp at hlt; omega)
    have HZ := hid hz
    clear hz e0 hlt
    go_wp2_with fail
    go_quiet (fail)
    have KT3 := hid (KT.out.trans (Kt.below (B3.out nq)))
    have k1 : (wr.drewN nq).cell? ⟨bb, 1, none⟩ = some (.slice none 0 0) := range_cell (HZ.out.below (B3.out nq)).r (k := 1) rfl
    generalize wr.drewN nq = w3 at *
    have BG := hid (hasBegun_any bb none 0 0 w3 k1)
    rw [decide_eq_false (by decide)] at BG
    have TH := hid (show w3.there w.heap.size 0 11 from there_kp RB.out KT3.out.k (fun h => h (if_neg (by have := LW.out; omega))))
    have B5 := hid (below_kt B2.out KT3.out LW.out)
    clear k1 h11 h12
    go_wp2_with fail
    refine BG.out.mono ?_
    rintro r w' ⟨rfl, rfl⟩
    go_wp2_with (first | ((with_reducible (show wpList _ _ _ (⟨_, Op.store 28 _ _, _, _, _, _⟩ :: _) _ _)); refine wpList_store_mid rfl 28 _ _ rfl w.heap.size 0 (arr11 zeroV) rfl rfl TH.out infoW O1.out ?_))
    have RG := World.rangeAt_setCells_same w3 w.heap.size 0 (arr11 zeroV).toList TH.out
    refine bodyPost_ret (v := .tuple #[.agg (arr11 zeroV), .iface 29 (.int .i64 10)]) (results_d2 rfl rfl (run_loadVar_mid _ w.heap.size 0 28 (arr11 zeroV).toList _ RG Tryz.underlying28 rfl infoW) rfl) rfl ⟨⟨zeroV, _, rfl, O1.out, .inr ⟨⟨_, _, rfl⟩, NO.out⟩⟩, below_setCells B5.out (Nat.le_refl _) _ _⟩
   ·have HB := hid hB
    clear hB hlt
    go_wp2_with fail
    go_quiet (fail)
    have KT3 := hid (KT.out.trans (Kt.below (B3.out nq)))
    have HB3 := hid (HB.out.below (B3.out nq))
    generalize wr.drewN nq = w3 at *
    obtain ⟨gk, ck, ek⟩ := HB3.out.b.o.kinds.form HB3.out.k.lf.k1
    have k1 : w3.cell? ⟨bb, 1, none⟩ = some (.slice (some ⟨gk, 0, none⟩) p.kinds.length ck) := by rw [range_cell HB3.out.b.r (k := 1) rfl, ek]
    have BG := hid (hasBegun_any bb _ _ ck w3 k1)
    rw [decide_eq_true (show 0 < p.kinds.length from HB3.out.k.lf.k1)] at BG
    have TH := hid (show w3.there w.heap.size 0 11 from there_kp RB.out KT3.out.k (fun h => h (if_neg (by have := LW.out; omega))))
    have T0 := hid (show tag w.heap.size = 0 from KT3.out.t w.heap.size (Nat.lt_of_lt_of_le LW.out (by have := SZ.out; omega)) (if_neg (by have := LW.out; omega)))
    have O2 := hid (HB3.out.b.o.ones)
    have RR := hid (HB3.out.b.r)
    have B5 := hid (below_kt B2.out KT3.out LW.out)
    clear k1 ek h11 h12
    go_wp2_with fail
    refine BG.out.mono ?_
    rintro r w' ⟨rfl, rfl⟩
    go_wp2_with (first | ((with_reducible (show wpList _ _ _ (⟨_, Op.load 28 _, _, _, _, _⟩ :: _) _ _)); refine wp_ldW rfl _ rfl bb rfl V RR.out ?_) | ((with_reducible (show wpList _ _ _ (⟨_, Op.store 28 _ _, _, _, _, _⟩ :: _) _ _)); refine wpList_store_mid rfl 28 _ _ rfl w.heap.size 0 (arr11 V) rfl rfl TH.out infoW O2.out ?_))
    have RG := World.rangeAt_setCells_same w3 w.heap.size 0 (arr11 V).toList TH.out
    refine bodyPost_ret (v := .tuple #[.agg (arr11 V), .nilIface]) (results_d2 rfl rfl (run_loadVar_mid _ w.heap.size 0 28 (arr11 V).toList _ RG Tryz.underlying28 rfl infoW) rfl) rfl ⟨⟨V, _, rfl, O2.out, .inl ⟨rfl, p, (HB3.out.b.o.sets T0.out _ _).v HB3.out.k.tlb, HB3.out.k⟩⟩, below_setCells B5.out (Nat.le_refl _) _ _⟩
end Go.Proofs.YtkocmkaeaagbaaaGreatDoor.Wd
namespace Go.Proofs.YtkocmkaeaagbaaaGreatDoor.Wd
open Go.RowKit Go.Proofs.YtkocmkaeaagbaaaGreatDoor.Mem Go.Proofs.YtkocmkaeaagbaaaGreatDoor.Bw Go.Proofs.YtkocmkaeaagbaaaGreatDoor.Nums Go.Proofs.YtkocmkaeaagbaaaGreatDoor.Mmu
set_option maxRecDepth 100000 in
set_option maxHeartbeats 4000000 in
theorem topOk (V : Nat → Value) (p : PW) (w : World) (hv : WorldV w V p) (hp : p.Fits) (hs : sndB p = true) (hk : 0 < p.kinds.length) :
  Calls Tryz.prog 9 #[.agg (arr11 V)] w fun r w' => r = .returned (.bool true) ∧ Below w.heap.size w w' := by
 have RG := hid (boxed w V 28)
 have B0 := hid (bal (Below.refl w.heap.size w) (.cells (arr11 V) 28))
 have CK := hid (check_any V p _ (hv.below B0.out) hp)
 have HS := hid hs
 obtain ⟨q1, b1, o1, k1, e1, _, _⟩ := hv.kinds
 have E1 := hid e1
 have hk2 : (0 : Int) < (p.kinds.length : Int) := by omega
 clear e1 hv hs
 go_enter Tryz.func9, Tryz.ntmps9
 go_wp2_with (first | ((with_reducible (show wpList _ _ _ (⟨_, Op.load 28 _, _, _, _, _⟩ :: _) _ _)); refine wp_ldW rfl _ rfl w.heap.size rfl V RG.out ?_))
 refine CK.out.mono ?_
 rintro r w1 ⟨x, rfl, hc, hb⟩
 have hx : x = .nilIface := by
  have h0 : (wmA p).1 = 0 := by have := HS.out; unfold sndB at this; simpa using this
  rcases hc with ⟨h, _⟩ | ⟨e, he, _, h⟩ | ⟨e, k, b, he, _, _, _, h⟩
  ·exact h
  ·rw [h] at h0; exact absurd h0 he
  ·rw [h] at h0; exact absurd h0 he
 subst hx
 have c1 : w1.cell? ⟨w.heap.size, 1, none⟩ = some (V 1) := range_cell (range_below RG.out hb) rfl
 rw [E1.out] at c1
 have B1 := hid (btr B0.out hb)
 clear hc hb CK RG B0
 go_wp2_with fail
 go_ret
 exact ⟨rfl, B1.out⟩
end Go.Proofs.YtkocmkaeaagbaaaGreatDoor.Wd
namespace Go.Proofs.YtkocmkaeaagbaaaGreatDoor.Wd
open Go.RowKit Go.Proofs.YtkocmkaeaagbaaaGreatDoor.Mem Go.Proofs.YtkocmkaeaagbaaaGreatDoor.Bw Go.Proofs.YtkocmkaeaagbaaaGreatDoor.Nums Go.Proofs.YtkocmkaeaagbaaaGreatDoor.Hex Go.Proofs.YtkocmkaeaagbaaaGreatDoor.Prs Go.Proofs.YtkocmkaeaagbaaaGreatDoor.Mmu
def oneT : ByteArray := ⟨#[119, 111, 114, 108, 100, 32, 50, 32, 49, 32, 48, 10]⟩
theorem one_lines : linesB oneT = [oneB] := by kernel_rfl
theorem boxedW (w : World) (X : Nat → Value) : ((w.alloc (.cells (arr11 zeroV) 28)).setCells w.heap.size 0 (arr11 X).toList).rangeAt w.heap.size 0 (arr11 X).toList ∧ Below w.heap.size w ((w.alloc (.cells (arr11 zeroV) 28)).setCells w.heap.size 0 (arr11 X).toList) :=
 ⟨World.rangeAt_setCells_same _ _ _ _ (there_new w), below_setCells (bal (Below.refl _ _) _) (Nat.le_refl _) _ _⟩
theorem kind0 {w : World} {V : Nat → Value} {p : PW} (hv : WorldV w V p) (hb : Bt p) : ∃ g o c l, V 1 = .slice (some ⟨g, o, none⟩) l c ∧ w.cell? ⟨g, o, none⟩ = some (.int .i64 5) ∧ (0 : Int) < (l : Int) := by
 obtain ⟨q1, b1, o1, k1, e1, hq, hi⟩ := hv.kinds
 have hl : 0 < p.kinds.length := hb.lf.k1
 obtain rfl := hq hl
 refine ⟨b1, o1, k1, _, e1, ?_, by omega⟩
 have := hi 0 hl
 rw [Nat.add_zero] at this
 have r := hb.root.1
 unfold PW.k at r
 rw [List.getD_eq_getElem?_getD, List.getElem?_eq_getElem hl] at r
 rw [this]
 exact congrArg (fun z => some (Value.int .i64 z)) r
theorem slot0 {w : World} {V : Nat → Value} {p : PW} (hv : WorldV w V p) (hb : Bt p) : ∃ g o c l z, V 2 = .slice (some ⟨g, o, none⟩) l c ∧ w.cell? ⟨g, o, none⟩ = some (.int .i64 z) ∧ (0 : Int) < (l : Int) ∧ (z != 0) = true := by
 obtain ⟨q1, b1, o1, k1, e1, hq, hi⟩ := hv.slots
 have hl : 0 < p.slots.length := by have := hb.lf.k1; rw [hb.lf.slots]; omega
 obtain rfl := hq hl
 have c := hi 0 hl 0 _ (cf_at 7 _ 0 (by omega))
 rw [Nat.zero_mul, Nat.add_zero] at c
 refine ⟨b1, o1, k1, _, _, e1, c, by omega, ?_⟩
 have r := hb.root.2
 unfold PW.s at r
 rw [List.getD_eq_getElem?_getD, List.getElem?_eq_getElem hl] at r
 exact bne_iff_ne.2 r
set_option maxRecDepth 100000 in
set_option maxHeartbeats 8000000 in
theorem topBoot_any (s : ByteArray) (w : World) (hM : MLok w) (hN : NamesAt w) (hE : ETok w) :
  Calls Tryz.prog 4 #[.string s] w fun r w' => r = .returned (.bool true) ∧ Below w.heap.size w w' := by
 by_cases h15 : 1500 < s.size
 ·have h2 : (s.size : Int) > 1500 := by omega
  go_enter Tryz.func4, Tryz.ntmps4
  go_wp2_with fail
  go_ret
  exact ⟨rfl, Below.refl _ _⟩
 have h2 : ¬ ((s.size : Int) > 1500) := by omega
 have R1 := hid (read_any s w (by omega) hM hN hE)
 have R2 := hid (fun W (hb : Below w.heap.size w W) => read_any oneT W (by decide) (hM.below hb) (fun j hj => cell_up (hN j hj) hb) (cell_up hE hb))
 clear hM hN hE h15
 go_enter Tryz.func4, Tryz.ntmps4
 go_wp2_with fail
 refine R1.out.mono ?_
 rintro r w1 ⟨⟨X, ev, rfl, hx, hX⟩, hb⟩
 have B1 := hid hb
 have OX := hid hx
 have T1 := hid (there_new w1)
 obtain ⟨q1, q2⟩ := boxedW w1 X
 have X1 := hid q1
 have B2 := hid (btr hb q2)
 have HX := hid (show (ev = .nilIface ∧ ∃ p, WorldV ((w1.alloc (.cells (arr11 zeroV) 28)).setCells w1.heap.size 0 (arr11 X).toList) X p ∧ Bt p) ∨ ∃ t u, ev = .iface t u from by
  rcases hX with ⟨e, p, h1, h2⟩ | ⟨e, _⟩
  ·exact .inl ⟨e, p, h1.below q2, h2⟩
  ·exact .inr e)
 clear hb hx hX q1 R1
 go_upto_region 4 with (first | ((with_reducible (show wpList _ _ _ (⟨_, Op.store 28 _ _, _, _, _, _⟩ :: _) _ _)); refine wpList_store_mid rfl 28 _ _ rfl w1.heap.size 0 (arr11 X) rfl rfl T1.out infoW OX.out ?_))
 change Code.wp _ _ _ _ ((w1.alloc (.cells (arr11 zeroV) 28)).setCells w1.heap.size 0 (arr11 X).toList)
 clear q2 T1
 generalize (w1.alloc (.cells (arr11 zeroV) 28)).setCells w1.heap.size 0 (arr11 X).toList = w2 at *
 generalize w1.heap.size = b1 at *
 go_wp2_with fail
 refine (R2.out w2 B2.out).mono ?_
 rintro r w3 ⟨⟨Y, ev2, rfl, hy, hY⟩, hb⟩
 rcases hY with ⟨rfl, q, hv, hbt⟩ | ⟨_, hn⟩
 rotate_left
 ·exact absurd one_lines hn
 have B3 := hid (btr B2.out hb)
 have OY := hid hy
 have T3 := hid (there_new w3)
 obtain ⟨q1, q2⟩ := boxedW w3 Y
 have X3 := hid (range_below X1.out (btr hb q2))
 have Y3 := hid q1
 have B4 := hid (btr B3.out q2)
 have WY := hid (hv.below q2)
 have BY := hid hbt
 have Q4 := hid (btr hb q2)
 clear hb hy hv hbt q1 q2 R2
 go_upto_region 5 with (first | ((with_reducible (show wpList _ _ _ (⟨_, Op.store 28 _ _, _, _, _, _⟩ :: _) _ _)); refine wpList_store_mid rfl 28 _ _ rfl w3.heap.size 0 (arr11 Y) rfl rfl T3.out infoW OY.out ?_))
 change Code.wp _ _ _ _ ((w3.alloc (.cells (arr11 zeroV) 28)).setCells w3.heap.size 0 (arr11 Y).toList)
 clear T3
 generalize (w3.alloc (.cells (arr11 zeroV) 28)).setCells w3.heap.size 0 (arr11 Y).toList = w4 at *
 generalize w3.heap.size = b3 at *
 have TO := hid (topOk Y q w4 WY.out BY.out.fits BY.out.snd BY.out.lf.k1)
 go_wp2_with (first | ((with_reducible (show wpList _ _ _ (⟨_, Op.load 28 _, _, _, _, _⟩ :: _) _ _)); first | go_skip | go_big_skip | refine wp_ldWg (by rfl) _ rfl b3 rfl Y Y3.out ?_))
 refine TO.out.mono ?_
 rintro r w5 ⟨rfl, hb⟩
 have B5 := hid (btr B4.out hb)
 have KY := hid (kind0 (WY.out.below hb) BY.out)
 have XR := hid (range_below X3.out hb)
 have HX5 := hid (show (ev = .nilIface ∧ ∃ p, WorldV w5 X p ∧ Bt p) ∨ ∃ t u, ev = .iface t u from by
  rcases HX.out with ⟨e, p, h1, h2⟩ | e
  ·exact .inl ⟨e, p, h1.below (btr Q4.out hb), h2⟩
  ·exact .inr e)
 obtain ⟨gk, ok, ck, lk, e1, cK, ki⟩ := KY.out
 have c1 : w5.cell? ⟨b3, 1, none⟩ = some (.slice (some ⟨gk, ok, none⟩) lk ck) := by rw [range_cell (range_below Y3.out hb) (k := 1) rfl, e1]
 clear e1 hb KY TO HX
 rcases HX5.out with ⟨rfl, p, hv, hbt⟩ | ⟨t, u, rfl⟩
 rotate_left
 ·clear HX5
  go_wp2_with (first | ((with_reducible (show wpList _ _ _ (⟨_, Op.load 28 _, _, _, _, _⟩ :: _) _ _)); first | go_skip | go_big_skip))
  go_ret
  exact ⟨rfl, B5.out⟩
 have TP := hid (topOk X p w5 hv hbt.fits hbt.snd hbt.lf.k1)
 have HV := hid hv
 have HB := hid hbt
 clear hv hbt HX5
 go_wp2_with (first | ((with_reducible (show wpList _ _ _ (⟨_, Op.load 28 _, _, _, _, _⟩ :: _) _ _)); first | go_skip | go_big_skip | refine wp_ldWg (by rfl) _ rfl b1 rfl X XR.out ?_))
 refine TP.out.mono ?_
 rintro r w6 ⟨rfl, hb⟩
 have B6 := hid (btr B5.out hb)
 obtain ⟨gs, os, cs, l2, z, e2, cS, sl, sn⟩ := slot0 (HV.out.below hb) HB.out
 have c2 : w6.cell? ⟨b1, 2, none⟩ = some (.slice (some ⟨gs, os, none⟩) l2 cs) := by rw [range_cell (range_below XR.out hb) (k := 2) rfl, e2]
 have SN := hid sn
 clear e2 hb TP c1 cK sn
 go_wp2_with fail
 go_ret
 refine ⟨?_, B6.out⟩
 show Ending.returned (Value.bool (z != 0)) = _
 rw [SN.out]
end Go.Proofs.YtkocmkaeaagbaaaGreatDoor.Wd
namespace Go.Proofs.YtkocmkaeaagbaaaGreatDoor
open Go.ChangeShapes Go.WideShapes Go.RowKit
theorem own : ownKnob Tryz.prog.godebug = none := by kernel_rfl
theorem laidOut : laidOutB Tryz.prog = true := by kernel_rfl
theorem etG : Tryz.prog.globalNamed "errors.errorType" = some 1 := by kernel_rfl
theorem rtT : (Tryz.prog.cutTypes.find? (·.1 == "internal/reflectlite.rtype")).map (·.2) = some 174 := by kernel_rfl
theorem oneRow : ((List.range 311).filter fun t => Tryz.prog.rowNamed t [101, 114, 114, 111, 114]) = [35] := by kernel_rfl
theorem tSize : Tryz.prog.types.size = 311 := by kernel_rfl
theorem handle_of {W : World} (h : handlesMet Tryz.prog [("errors.errorType", Rows.laid_errors_errorType)] W) : ETok W := by
 obtain ⟨name, u, ty, e1, e2, e3, e4, e5⟩ := h _ (List.mem_singleton.2 rfl)
 have en : name = [101, 114, 114, 111, 114] := (Option.some.inj e1).symm
 subst en
 obtain rfl := Option.some.inj (rtT.symm.trans e2)
 have hm : ty ∈ (List.range 311).filter fun t => Tryz.prog.rowNamed t [101, 114, 114, 111, 114] := List.mem_filter.2 ⟨List.mem_range.2 (by rw [← tSize]; exact e3), e4⟩
 rw [oneRow] at hm
 obtain rfl := List.mem_singleton.1 hm
 have hh : typeHandle Tryz.prog 35 = .pointer (some ⟨7, 35, none⟩) := by kernel_rfl
 rw [hh] at e5
 have hr := World.var?_cell etG e5 0
 simp at hr
 exact hr
end Go.Proofs.YtkocmkaeaagbaaaGreatDoor
