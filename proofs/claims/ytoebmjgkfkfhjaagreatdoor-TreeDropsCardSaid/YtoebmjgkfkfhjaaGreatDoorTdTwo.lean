/- deed.Forget, and the document's like: keyholdref.forgetWrong, gone, walked (TdF TdG TdR TdQ TdS TdS2, joined). -/
import Derived.Test.YtoebmjgkfkfhjaaGreatDoorTdOne
import Derived.Test.YtoebmjgkfkfhjaaGreatDoorGCount
import Derived.Maps.AppendAt
import Derived.Deep.RegionHeld3
import Derived.BigQuiet
namespace Go.Proofs.YtoebmjgkfkfhjaaGreatDoor.Mmu
open Go.RowKit Go.Proofs.YtoebmjgkfkfhjaaGreatDoor.Mem Go.Proofs.YtoebmjgkfkfhjaaGreatDoor.Bw Go.Proofs.YtoebmjgkfkfhjaaGreatDoor.Nums
theorem own_cut {w : World} {B e g n cap : Nat} {xs : List Value} (h : w.ownsRow B e 4 (.slice (some ⟨g, 0, none⟩) n cap) n xs) (i : Nat) (hi : i ≤ n) : w.ownsRow B e 4 (.slice (some ⟨g, 0, none⟩) i cap) i (xs.take (i * 4)) := by
 have hl := h.1
 rcases h.2 with ⟨h', _⟩ | ⟨g', cap', cur, h', hb, hg, hnc, hcm, hcs, ht⟩
 ·simp at h'
 ·simp only [Value.slice.injEq, Option.some.injEq, Addr.mk.injEq, and_true, true_and] at h'
  obtain ⟨rfl, rfl⟩ := h'
  refine ⟨by rw [List.length_take]; omega, .inr ⟨g, cap, cur, rfl, hb, hg, by omega, hcm, hcs, ?_⟩⟩
  rw [← ht, List.take_take, Nat.min_eq_left (by omega)]
theorem own_cells {B e g n cap : Nat} (i : Nat) : ∀ (L : List Value) (o : Nat) (w : World) (xs : List Value), w.ownsRow B e 4 (.slice (some ⟨g, 0, none⟩) n cap) n xs → i ≤ o →
  ∃ ys, (w.setCells g o L).ownsRow B e 4 (.slice (some ⟨g, 0, none⟩) n cap) n ys ∧ ys.take i = xs.take i ∧ w.grownBy (w.setCells g o L) (some g)
 | [], o, w, xs, h, _ => ⟨xs, h, rfl, ⟨rfl, rfl, rfl, Nat.le_refl _, fun _ _ _ => rfl⟩⟩
 | v :: r, o, w, xs, h, ho => by
  obtain ⟨h1, g1⟩ := h.stored o v
  obtain ⟨ys, h2, e2, g2⟩ := own_cells i r (o + 1) _ _ h1 (by omega)
  refine ⟨ys, h2, ?_, g1.trans g2⟩
  rw [e2, List.take_set_of_le (by omega)]
theorem clear_own {w : World} {B g n cap : Nat} {xs : List Value} (h : w.ownsRow B 115 4 (.slice (some ⟨g, 0, none⟩) n cap) n xs) (i : Nat) (hi : i < n) (ty : TypeId) (c : Nat) :
  ∃ w', (Builtin.clear_ #[56] ty #[.slice (some ⟨g, i * 4, none⟩) (n - i) c]).run Tryz.prog w = .ok (.tuple #[]) w' ∧ w'.ownsRow B 115 4 (.slice (some ⟨g, 0, none⟩) i cap) i (xs.take (i * 4)) ∧ w.grownBy w' (some g) := by
 obtain ⟨m, hm⟩ : ∃ m, n - i = m + 1 := ⟨n - i - 1, by omega⟩
 obtain ⟨L, hL⟩ : ∃ L, (Builtin.zeroCells (Value.agg #[.int .i64 0, .int .i64 0, .int .i64 0, .bool false]).cells (n - i)).toList = L := ⟨_, rfl⟩
 have hlen : L.length = (n - i) * 4 := by
  rw [← hL]
  simp [Builtin.zeroCells, Value.cells]
 have hone : ∀ v ∈ L, v.oneCell' = true := by
  intro v hv
  rw [← hL] at hv
  simp [Builtin.zeroCells, Value.cells] at hv
  obtain ⟨k, _, rfl⟩ := hv
  have : k % 4 = 0 ∨ k % 4 = 1 ∨ k % 4 = 2 ∨ k % 4 = 3 := by omega
  rcases this with e | e | e | e <;> simp [e, Value.oneCell']
 obtain ⟨ys, h2, e2, g2⟩ := own_cells (i * 4) L (i * 4) w xs h (Nat.le_refl _)
 have hc : ∀ j, j < L.length → (w.cell? ⟨g, i * 4 + 0 + j, none⟩).isSome = true := fun j hj => by
  rw [h.cellAt _ (by omega)]
  have := h.1
  rw [List.getElem?_eq_getElem (by omega)]
  rfl
 have hf : ∀ j, j < L.length → w.frozen? ⟨g, i * 4 + 0 + j, none⟩ = false := fun j _ => h.frozenAt _
 have hst := run_storeCells_cells (P := Tryz.prog) g (i * 4) L 0 w hc hf hone
 simp only [Nat.add_zero] at hst
 refine ⟨w.setCells g (i * 4) L, ?_, ?_, g2⟩
 ·rw [hm] at hL ⊢
  simp [Builtin.clear_, run_underlying Tryz.underlying56, hL, hst]
 ·have := own_cut h2 i (by omega)
  rw [e2] at this
  exact this
theorem cellsE_set (m : List Ent) (i : Nat) (h : i < m.length) (x y z : Int) (u : Bool) : ((((cellsE m).set (i * 4) (.int .i64 x)).set (i * 4 + 1) (.int .i64 y)).set (i * 4 + 2) (.int .i64 z)).set (i * 4 + 3) (.bool u) = cellsE (m.set i (x, y, z, u)) := by
 induction m generalizing i with
 | nil => simp at h
 | cons q m ih =>
  cases i with
  | zero => rfl
  | succ i =>
   have e2 : (i + 1) * 4 = i * 4 + 4 := by omega
   rw [List.set_cons_succ, cellsE_cons, cellsE_cons, ← ih i (by simpa using h), e2]
   rfl
theorem cellsE_take (m : List Ent) (i : Nat) : (cellsE m).take (i * 4) = cellsE (m.take i) := by
 induction m generalizing i with
 | nil => simp [cellsE]
 | cons q m ih =>
  cases i with
  | zero => simp [cellsE]
  | succ i =>
   have e2 : (i + 1) * 4 = i * 4 + 4 := by omega
   rw [List.take_succ_cons, cellsE_cons, cellsE_cons, ← ih i, e2]
   rfl
end Go.Proofs.YtoebmjgkfkfhjaaGreatDoor.Mmu
namespace Go.Proofs.YtoebmjgkfkfhjaaGreatDoor.Wd
open Go.RowKit Go.Proofs.YtoebmjgkfkfhjaaGreatDoor.Mem Go.Proofs.YtoebmjgkfkfhjaaGreatDoor.Bw Go.Proofs.YtoebmjgkfkfhjaaGreatDoor.Nums Go.Proofs.YtoebmjgkfkfhjaaGreatDoor.Mmu
theorem info4e : (Tryz.prog.info? 115).map (·.size) = some 4 := by kernel_rfl
theorem kpB {w w' w2 : World} {T : Nat → Prop} (h : Kp T w w') (hb : Below w'.heap.size w' w2) : Kp T w w2 := h.trans ⟨hb.os, hb.tape, hb.output, hb.size, fun k hk _ => hb.block k hk⟩
set_option maxRecDepth 100000 in
set_option maxHeartbeats 8000000 in
theorem index_forget (P : Ent → Bool) (v : Value) (l : List Ent) (c : Nat) (w : World) (hO : w.ownsRow 0 115 4 v l.length (cellsE l)) (hl : l.length ≤ 100) (hP : ∀ (e : Ent) (W : World) (m : List Ent), Kp (fun k => v.ownBlock = some k) w W → W.ownsRow 0 115 4 v l.length (cellsE m) → (∀ x ∈ m, x ∈ l) → m.length = l.length → Calls Tryz.prog 103 #[.agg #[.int .i64 e.1, .int .i64 e.2.1, .int .i64 e.2.2.1, .bool e.2.2.2], .pointer (some ⟨c, 0, none⟩)] W fun r w' => r = .returned (.bool (P e)) ∧ Below W.heap.size W w') :
  Calls Tryz.prog 140 #[v, .func (.func 103) #[] #[.pointer (some ⟨c, 0, none⟩)]] w fun r w' => r = .returned (.int .i64 (ixP P l)) ∧ Below w.heap.size w w' := by
 have hl2 : (l.length : Int) ≤ 100 := by omega
 have HO := hid hO
 have HPP := hid (fun e (W : World) (hb : Below w.heap.size w W) => hP e W l (.of_below hb) (own_below hO hb) (fun _ h => h) rfl)
 obtain ⟨q, g, cap, rfl, hq⟩ : ∃ q g cap, v = .slice q l.length cap ∧ (0 < l.length → q = some ⟨g, 0, none⟩) := by
  rcases hO.2 with ⟨h1, h2⟩ | ⟨g, cap, cur, h1, _⟩
  ·exact ⟨none, 0, 0, by rw [h1, h2], fun h => by omega⟩
  ·exact ⟨some ⟨g, 0, none⟩, g, cap, h1, fun _ => rfl⟩
 have HQ := hid hq
 clear hO hq hP
 go_enter Tryz.func140, Tryz.ntmps140
 go_wp2_with fail
 go_loopw [8] (fun i wr => ∃ (k : Nat), k ≤ l.length ∧ i = .int .i64 k ∧ Hid (Below w.heap.size w wr ∧ ∀ j (hj : j < l.length), j < k → P l[j] = false)) (fun i _ => l.length - (intOf i).toNat)
 case atStart => exact ⟨0, by omega, rfl, hid ⟨Below.refl _ _, fun j _ h => by omega⟩⟩
 case round =>
  obtain ⟨k, hk, rfl, HH⟩ := hrel
  have BB := hid HH.out.1
  have HN := hid HH.out.2
  clear HH
  by_cases hlt : k < l.length
  ·have hlt2 : (k : Int) < (l.length : Int) := by omega
   have hqe := HQ.out (by omega)
   subst hqe
   obtain ⟨e, he⟩ : ∃ e, l[k] = e := ⟨_, rfl⟩
   have HY := hid he
   have RG := hid (show wr.rangeAt g (k * 4) [.int .i64 e.1, .int .i64 e.2.1, .int .i64 e.2.2.1, .bool e.2.2.2] from fun o x hx => by
    have h1 := own_below HO.out BB.out
    obtain ⟨a0, a1, a2, a3⟩ := cellsE_at l k hlt
    rw [he] at a0 a1 a2 a3
    rcases o with _ | _ | _ | _ | o
    ·rw [Nat.add_zero]; exact ((h1.cellAt (k * 4) (by omega)).trans a0).trans hx
    ·exact ((h1.cellAt (k * 4 + 1) (by omega)).trans a1).trans hx
    ·exact ((h1.cellAt (k * 4 + 2) (by omega)).trans a2).trans hx
    ·exact ((h1.cellAt (k * 4 + 3) (by omega)).trans a3).trans hx
    ·simp at hx)
   clear he
   go_wp2_with (first | ((with_reducible (show wpList _ _ _ (⟨_, Op.load 115 _, _, _, _, _⟩ :: _) _ _)); refine wpList_load_mid rfl 115 _ rfl g (k * 4) rfl [.int .i64 e.1, .int .i64 e.2.1, .int .i64 e.2.2.1, .bool e.2.2.2] _ RG.out Tryz.underlying115 rfl (by rw [info4e]; rfl) ?_))
   refine (HPP.out e _ BB.out).mono ?_
   rintro r w1 ⟨rfl, hb⟩
   have B2 := hid (btr BB.out hb)
   clear hb
   cases hyt : P e with
   | true =>
    have HX := hid (show ixP P l = k by
     have h1 : l.findIdx P = k := by
      rw [List.findIdx_eq hlt]
      exact ⟨by rw [HY.out]; exact hyt, fun j hj => HN.out j (by omega) hj⟩
     unfold ixP
     rw [h1, if_pos hlt])
    go_wp2_with fail
    go_ret
    exact ⟨by rw [HX.out]; rfl, B2.out⟩
   | false =>
    have HN2 := hid (show Below w.heap.size w w1 ∧ ∀ j (hj : j < l.length), j < k + 1 → P l[j] = false from ⟨B2.out, fun j hj h => by
     by_cases e2 : j = k
     ·subst e2
      rw [HY.out]
      exact hyt
     ·exact HN.out j hj (by omega)⟩)
    go_wp2_with fail
    exact ⟨⟨k + 1, by omega, by go_num, HN2⟩, by simp [intOf]; omega⟩
  ·obtain rfl : k = l.length := by omega
   have hge : ¬ ((l.length : Int) < (l.length : Int)) := by omega
   have HX := hid (show ixP P l = -1 by
    unfold ixP
    rw [if_neg]
    intro h
    have h2 := List.findIdx_getElem (w := h)
    have h3 := HN.out _ h h
    rw [h3] at h2
    cases h2)
   go_wp2_with fail
   go_ret
   exact ⟨by rw [HX.out]; rfl, BB.out⟩
theorem mid_mem {l m : List Ent} {i j : Nat} (hs : ∀ x ∈ m, x ∈ l) (hj : j < l.length) : ∀ x ∈ m.set i l[j], x ∈ l := fun x hx => by
 rcases List.mem_or_eq_of_mem_set hx with h1 | rfl
 ·exact hs x h1
 ·exact List.getElem_mem hj
set_option maxRecDepth 100000 in
set_option maxHeartbeats 8000000 in
theorem delete_forget (P : Ent → Bool) (v : Value) (l : List Ent) (c : Nat) (w : World) (hO : w.ownsRow 0 115 4 v l.length (cellsE l)) (hl : l.length ≤ 100) (hP : ∀ (e : Ent) (W : World) (m : List Ent), Kp (fun k => v.ownBlock = some k) w W → W.ownsRow 0 115 4 v l.length (cellsE m) → (∀ x ∈ m, x ∈ l) → m.length = l.length → Calls Tryz.prog 103 #[.agg #[.int .i64 e.1, .int .i64 e.2.1, .int .i64 e.2.2.1, .bool e.2.2.2], .pointer (some ⟨c, 0, none⟩)] W fun r w' => r = .returned (.bool (P e)) ∧ Below W.heap.size W w') :
  Calls Tryz.prog 102 #[v, .func (.func 103) #[] #[.pointer (some ⟨c, 0, none⟩)]] w fun r w' => ∃ u, r = .returned u ∧ w'.ownsRow 0 115 4 u (goneP P l).length (cellsE (goneP P l)) ∧ u.ownBlock = v.ownBlock ∧ Kp (fun k => v.ownBlock = some k) w w' := by
 have hl2 : (l.length : Int) ≤ 100 := by omega
 have HX := hid (index_forget P v l c w hO hl hP)
 have HP := hid hP
 have HO := hid hO
 clear hO hP
 go_enter Tryz.func102, Tryz.ntmps102
 go_wp2_with fail
 refine HX.out.mono ?_
 rintro r w1 ⟨rfl, hb1⟩
 have O1 := hid (own_below HO.out hb1)
 have B1 := hid (show Kp (fun k => v.ownBlock = some k) w w1 from .of_below hb1)
 clear hb1 HX HO
 by_cases hlt : l.findIdx P < l.length
 ·have HI := hid (show ixP P l = (l.findIdx P : Int) by unfold ixP; rw [if_pos hlt])
  have HM := hid (MidP.start hlt)
  rw [HI.out]
  clear HI
  generalize l.findIdx P = k at *
  have hk0 : ¬ ((k : Int) = -1) := by omega
  have hk1 : ((k : Int) == -1) = false := by simp
  obtain ⟨g, cap, rfl⟩ : ∃ g cap, v = .slice (some ⟨g, 0, none⟩) l.length cap := by
   rcases O1.out.2 with ⟨_, h1⟩ | ⟨g, cap, cur, h1, _⟩
   ·omega
   ·exact ⟨g, cap, h1⟩
  have HGB := hid (show (Value.slice (some ⟨g, 0, none⟩) l.length cap).ownBlock = some g from rfl)
  go_wp2_with fail
  go_loopw [5, 6] (fun a b wr => ∃ (i j : Nat) (m : List Ent), a = .int .i64 i ∧ b = .int .i64 j ∧ Hid (MidP P l m i j ∧ ∀ x ∈ m, x ∈ l) ∧ Hid (wr.ownsRow 0 115 4 (.slice (some ⟨g, 0, none⟩) l.length cap) l.length (cellsE m)) ∧ Hid (Kp (fun k => (Value.slice (some ⟨g, 0, none⟩) l.length cap).ownBlock = some k) w wr)) (fun _ b _ => l.length - (intOf b).toNat)
  case atStart => exact ⟨k, k + 1, l, rfl, by go_num, hid ⟨HM.out, fun _ h => h⟩, O1, B1⟩
  case round =>
   obtain ⟨i, j, m, rfl, rfl, HMM, HO, HB⟩ := hrel
   have HM := hid HMM.out.1
   have HSUB := hid HMM.out.2
   clear HMM
   have hij := HM.out.lt
   have hjl := HM.out.le
   have HL := hid HM.out.len
   have hi3 : ¬ ((i : Int) < 0) := by omega
   have hj3 : ¬ ((j : Int) < 0) := by omega
   have hil : (i : Int) < (l.length : Int) := by omega
   by_cases hj : j < l.length
   ·have hj2 : (j : Int) < (l.length : Int) := by omega
    have HJ := hid (cellsE_at m j (by rw [HL.out]; exact hj))
    have HS := hid (show P l[j] = true → MidP P l m i (j + 1) from HM.out.skip hj)
    have HK := hid (show P l[j] = false → (MidP P l (m.set i l[j]) (i + 1) (j + 1) ∧ ∀ x ∈ m.set i l[j], x ∈ l) from fun h => ⟨HM.out.keep hj h, mid_mem HSUB.out hj⟩)
    have HA := hid (HM.out.at hj (by rw [HL.out]; exact hj))
    rw [HA.out] at HJ
    clear HA
    generalize l[j] = e at HJ HS HK
    obtain ⟨x, y, z, u⟩ := e
    have c0 := (HO.out.cellAt (j * 4) (by omega)).trans HJ.out.1
    have c1 := (HO.out.cellAt (j * 4 + 1) (by omega)).trans HJ.out.2.1
    have c2 := (HO.out.cellAt (j * 4 + 2) (by omega)).trans HJ.out.2.2.1
    have c3 := (HO.out.cellAt (j * 4 + 3) (by omega)).trans HJ.out.2.2.2
    simp only at c0 c1 c2 c3
    obtain ⟨W, hW⟩ : ∃ W, W = wr.alloc (.cells #[.int .i64 x, .int .i64 y, .int .i64 z, .bool u] 115) := ⟨_, rfl⟩
    have BE := hid (show Below wr.heap.size wr W by rw [hW]; exact bal (Below.refl _ wr) _)
    have BW := hid (kpB HB.out BE.out)
    have XW := hid (show ∀ o, W.cell? ⟨wr.heap.size, o, none⟩ = (#[.int .i64 x, .int .i64 y, .int .i64 z, .bool u] : Array Value)[o]? by rw [hW]; exact cells_new wr _ _)
    have OW := hid (own_below HO.out BE.out)
    have sW : W.heap.size = wr.heap.size + 1 := by rw [hW]; simp
    go_wp2_with fail
    rw [← hW]
    clear hW c0 c1 c2 c3 HJ
    refine (HP.out (x, y, z, u) W m BW.out OW.out HSUB.out HL.out).mono ?_
    rintro r w2 ⟨rfl, hb2⟩
    have B2 := hid (kpB BW.out hb2)
    have O2 := hid (own_below OW.out hb2)
    have X2 := cells_next XW.out (by omega) hb2
    clear hb2 BW XW OW BE
    cases hpe : P (x, y, z, u) with
    | true =>
     have HN := hid (show MidP P l m i (j + 1) ∧ ∀ x ∈ m, x ∈ l from ⟨HS.out hpe, HSUB.out⟩)
     go_wp2_with fail
     exact ⟨⟨i, j + 1, m, rfl, by go_num, HN, O2, B2⟩, by simp [intOf]; omega⟩
    | false =>
     have HN := hid (HK.out hpe)
     have z0 := O2.out.frozenAt (i * 4)
     have z1 := O2.out.frozenAt (i * 4 + 1)
     have z2 := O2.out.frozenAt (i * 4 + 2)
     have z3 := O2.out.frozenAt (i * 4 + 3)
     have HI4 := hid (cellsE_at m i (by rw [HL.out]; omega))
     have d0 := (O2.out.cellAt (i * 4) (by omega)).trans HI4.out.1
     have d1 := (O2.out.cellAt (i * 4 + 1) (by omega)).trans HI4.out.2.1
     have d2 := (O2.out.cellAt (i * 4 + 2) (by omega)).trans HI4.out.2.2.1
     have d3 := (O2.out.cellAt (i * 4 + 3) (by omega)).trans HI4.out.2.2.2
     go_wp2_with fail
     refine ⟨⟨i + 1, j + 1, m.set i (x, y, z, u), by go_num, by go_num, HN, hid ?_, hid ((((B2.out.setCell (.inl HGB.out) _).setCell (.inl HGB.out) _).setCell (.inl HGB.out) _).setCell (.inl HGB.out) _)⟩, by simp [intOf]; omega⟩
     rw [← cellsE_set m i (by rw [HL.out]; omega)]
     exact ((((O2.out.stored _ _).1.stored _ _).1.stored _ _).1.stored _ _).1
   ·obtain rfl : j = l.length := by omega
    have hge : ¬ ((l.length : Int) < (l.length : Int)) := by omega
    have HD := hid HM.out.done
    have hcap : l.length ≤ cap := by
     rcases HO.out.2 with ⟨h1, _⟩ | ⟨_, _, _, h1, _, _, h2, _⟩
     ·cases h1
     ·cases h1; exact h2
    have hcap2 : (l.length : Int) ≤ (cap : Int) := by omega
    have hcap3 : (i : Int) ≤ (cap : Int) := by omega
    have hile : (i : Int) ≤ (l.length : Int) := by omega
    obtain ⟨w3, hrun, hO3, hG3⟩ := clear_own HO.out i hij 0 (cap - i)
    have O3 := hid hO3
    have B3 := hid (HB.out.trans ((kp_grown hG3).wider (fun k _ e => by rw [e]; exact HGB.out)))
    have HL2 := hid (show (goneP P l).length = i by rw [HD.out, List.length_take, HL.out]; omega)
    clear hO3 hG3
    go_wp2_with fail
    go_ret
    refine ⟨_, rfl, ?_, rfl, B3.out⟩
    have := O3.out
    rw [cellsE_take, ← HD.out] at this
    rw [HL2.out]
    exact this
 ·have HI := hid (show ixP P l = -1 by unfold ixP; rw [if_neg hlt])
  have HG := hid (goneP_all hlt)
  rw [HI.out]
  clear hlt
  go_wp2_with fail
  go_ret
  refine ⟨_, rfl, ?_, rfl, B1.out⟩
  rw [HG.out]
  exact O1.out
theorem retagF {W : World} {wb : Nat} {tag : Nat → Nat} {V : Nat → Value} {p : PW} (h : BoxT W wb tag V p) : BoxT W wb (tagN tag W.heap.size 0) V p ∧ Kt tag (tagN tag W.heap.size 0) W W :=
 ⟨h.kp (T := fun _ => False) (Kp.refl _ _) (fun _ _ e => e.elim) (fun _ hk => tagN_lt hk), Kt.of (T := fun _ => False) (Kp.refl _ _) (fun _ e => e.elim) (fun _ hk => tagN_lt hk)⟩
theorem ListT.inner {w w1 : World} {tag : Nat → Nat} {t ti O I s n g : Nat} {cc : Nat → Nat × List Value} (h : ListT w tag t ti O I s n (.slice (some ⟨g, 0, none⟩) n n) cc) {j : Nat} (hj : j < n) (hd : ∀ j, t ≠ ti + 3 * j) {u : Value} (hu : w.cell? ⟨g, j, none⟩ = some u)
  (hk : Kp (fun b => u.ownBlock = some b) w w1) {c : Nat × List Value} (hc : w1.ownsRow 0 I s u c.1 c.2) :
  ListT w1 tag t ti O I s n (.slice (some ⟨g, 0, none⟩) n n) (fun i => if i = j then c else cc i) ∧ Kp (fun k => tag k = t ∨ ∃ j, tag k = ti + 3 * j) w w1 := by
 obtain ⟨g', us, h1, h2, h3, h4, h5⟩ := h
 obtain rfl : g = g' := by simpa using h1
 have hjl : j < us.length := by omega
 have e : us[j] = u := by
  have h6 := h4.cellAt j (by omega)
  rw [hu, List.getElem?_eq_getElem hjl] at h6
  exact (Option.some.inj h6).symm
 have hb : ∀ k, u.ownBlock = some k → tag k = ti + 3 * j := fun k hk2 => (h5 j hjl).2 k (by rw [e]; exact hk2)
 refine ⟨⟨g, us, rfl, h2, h3, own_kp h4 hk (fun k e2 e3 => ?_), fun i hi => ?_⟩, hk.wider (fun k _ e2 => .inr ⟨j, hb k e2⟩)⟩
 ·have : g = k := by simpa [Value.ownBlock] using e2
  have h7 := hb k e3
  rw [← this, h2] at h7
  exact hd j h7
 ·by_cases e2 : i = j
  ·subst e2
   simp only [if_pos]
   rw [e]
   exact ⟨hc, hb⟩
  ·simp only [if_neg e2]
   exact ⟨own_kp (h5 i hi).1 hk (fun k e3 e4 => by
    have h7 := hb k e4
    have h8 := (h5 i hi).2 k e3
    omega), (h5 i hi).2⟩
theorem ce_set (ls : List (List Ent)) (j : Nat) (hj : j < ls.length) (l : List Ent) : ce (ls.set j l) = fun i => if i = j then (l.length, cellsE l) else ce ls i := by
 funext i
 unfold ce
 by_cases h : i = j
 ·subst h
  rw [if_pos rfl, List.getD_eq_getElem?_getD, List.getElem?_set_self hj, Option.getD_some]
 ·rw [if_neg h, List.getD_eq_getElem?_getD, List.getElem?_set_ne (fun e => h e.symm), List.getD_eq_getElem?_getD]
theorem told_same {p q : PW} (h1 : q.ram = p.ram) (h2 : q.kinds = p.kinds) (e : Ent) : toldB q e = toldB p e := by
 unfold toldB isB kindAt
 rw [h1, h2]
set_option maxRecDepth 100000 in
set_option maxHeartbeats 4000000 in
theorem notTold (c wb : Nat) (tag : Nat → Nat) (V : Nat → Value) (p q : PW) (e : Ent) (W : World) (hc : W.cell? ⟨c, 0, none⟩ = some (.pointer (some ⟨wb, 0, none⟩))) (bt : BoxT W wb tag V q) (hp : q.Fits) (hl : ∀ l ∈ q.tlbs, l.length ≤ 100) (hw : ∀ z ∈ p.ram, 0 ≤ z ∧ z < 65536) (h600 : p.ram.length ≤ 600) (e1 : q.ram = p.ram) (e2 : q.kinds = p.kinds) :
  Calls Tryz.prog 103 #[.agg #[.int .i64 e.1, .int .i64 e.2.1, .int .i64 e.2.2.1, .bool e.2.2.2], .pointer (some ⟨c, 0, none⟩)] W fun r w' => r = .returned (.bool (!toldB p e)) ∧ Below W.heap.size W w' := by
 obtain ⟨x, y, z, u⟩ := e
 have B0 := hid (bal (Below.refl W.heap.size W) (.cells #[.int .i64 x, .int .i64 y, .int .i64 z, .bool u] 115))
 have k0 := cells_new W #[.int .i64 x, .int .i64 y, .int .i64 z, .bool u] 115
 have d0 := k0 0
 have d1 := k0 1
 have d2 := k0 2
 have d3 := k0 3
 have h2 := (B0.out.cell (World.block_lt_of_cell? _ _ hc)).trans hc
 have bt2 := bt.below B0.out
 have HT := hid (told_any wb V q x y z u _ (bt2.view hp hl) ⟨by
  obtain ⟨q0, b, off, cap, e3, hq, hz⟩ := own_ints bt2.o.ram.1
  exact ⟨q0, b, off, cap, e3, hq, hz⟩, by rw [e1]; exact hw, by rw [e1]; exact h600⟩)
 rw [told_same e1 e2] at HT
 clear bt bt2 hp hl hw h600 e1 e2 hc k0
 simp only
 go_enter Tryz.func103, Tryz.ntmps103
 go_wp2_with fail
 refine HT.out.mono ?_
 rintro r w1 ⟨rfl, hb⟩
 have BB := hid (btr B0.out hb)
 clear hb
 go_wp2_with fail
 go_ret
 exact ⟨rfl, BB.out⟩
/-- Cores remember only what tables tell. -/
def fgt (p : PW) : PW := { p with tlbs := p.tlbs.map (goneP fun e => !toldB p e) }
set_option maxRecDepth 100000 in
set_option maxHeartbeats 4000000 in
theorem forget_any (wb : Nat) (tag : Nat → Nat) (V : Nat → Value) (p : PW) (W : World) (bt0 : BoxT W wb tag V p) (hp : p.Fits) (hl : ∀ l ∈ p.tlbs, l.length ≤ 100) (hw : ∀ z ∈ p.ram, 0 ≤ z ∧ z < 65536) (h600 : p.ram.length ≤ 600) :
  Calls Tryz.prog 64 #[.pointer (some ⟨wb, 0, none⟩)] W fun r W' => r = .returned (.tuple #[]) ∧ ∃ tag', BoxT W' wb tag' V (fgt p) ∧ Kt tag tag' W W' := by
 obtain ⟨bt, kr⟩ := retagF bt0
 have KR := hid kr
 have T0 := hid (fun x (h : W.heap.size ≤ x) => show tagN tag W.heap.size 0 x = 0 from if_neg (by omega))
 generalize tagN tag W.heap.size 0 = tg at *
 clear bt0 kr
 have hl8 : (p.tlbs.length : Int) ≤ 1000 := by have := hp.tlbs; omega
 obtain ⟨g8, e8⟩ := bt.o.tlbs.form
 have E8 := hid e8
 have BL0 := hid (bal (Below.refl W.heap.size W) (.cells #[.pointer (some ⟨wb, 0, none⟩)] 37))
 have B0 := hid (bt.below BL0.out)
 have K0 := hid (KR.out.trans (Kt.below BL0.out))
 have C0 := hid (show (W.alloc (.cells #[.pointer (some ⟨wb, 0, none⟩)] 37)).cell? ⟨W.heap.size, 0, none⟩ = some (.pointer (some ⟨wb, 0, none⟩)) from cells_new W #[.pointer (some ⟨wb, 0, none⟩)] 37 0)
 have TC := hid (T0.out W.heap.size (Nat.le_refl _))
 have c8 : (W.alloc (.cells #[.pointer (some ⟨wb, 0, none⟩)] 37)).cell? ⟨wb, 8, none⟩ = some (.slice (some ⟨g8, 0, none⟩) p.tlbs.length p.tlbs.length) := by rw [range_cell B0.out.r (k := 8) rfl, e8]
 have HF := hid hp
 have HL := hid hl
 have HW := hid hw
 have H6 := hid h600
 clear bt hp hl hw h600 e8 T0 KR BL0
 go_enter Tryz.func64, Tryz.ntmps64
 go_upto_region 1 with fail
 have z0 := C0.out
 go_wp2_with fail
 generalize World.alloc _ _ = W0 at *
 generalize W.heap.size = c at *
 clear c8 z0
 go_loopw [9] (fun i wr => ∃ (k : Nat), k ≤ p.tlbs.length ∧ i = .int .i64 k ∧ Hid (BoxT wr wb tg V { p with tlbs := mapK (goneP fun e => !toldB p e) k p.tlbs }) ∧ Hid (Kt tag tg W wr) ∧ Hid (wr.cell? ⟨c, 0, none⟩ = some (.pointer (some ⟨wb, 0, none⟩)))) (fun i _ => p.tlbs.length - (intOf i).toNat)
 case atStart => exact ⟨0, by omega, rfl, hid (by rw [mapK_zero]; exact B0.out), K0, C0⟩
 case round =>
  obtain ⟨k, hk, rfl, HT, HK, HC⟩ := hrel
  by_cases hlt : k < p.tlbs.length
  ·have hlt2 : (k : Int) < (p.tlbs.length : Int) := by omega
   have hml : (mapK (goneP fun e => !toldB p e) k p.tlbs).length = p.tlbs.length := mapK_len _ _ _
   have LT := hid (show ListT wr tg 10 14 56 115 4 p.tlbs.length (.slice (some ⟨g8, 0, none⟩) p.tlbs.length p.tlbs.length) (ce (mapK (goneP fun e => !toldB p e) k p.tlbs)) from by
    have h := HT.out.o.tlbs
    rw [E8.out] at h
    show ListT wr tg 10 14 56 115 4 p.tlbs.length _ _
    rw [← hml]
    rw [← hml] at h
    exact h)
   have HD := hid (show ∀ j : Nat, (10 : Nat) ≠ 14 + 3 * j from fun j => by omega)
   obtain ⟨u, cu, hi⟩ := LT.out.at hlt
   have HCI := hid (show ce (mapK (goneP fun e => !toldB p e) k p.tlbs) k = (p.tlbs[k].length, cellsE p.tlbs[k]) by
    have hkl : k < (mapK (goneP fun e => !toldB p e) k p.tlbs).length := by rw [mapK_len]; exact hlt
    unfold ce
    rw [List.getD_eq_getElem?_getD, List.getElem?_eq_getElem hkl, Option.getD_some, mapK_at _ _ _ hlt hkl])
   rw [HCI.out] at hi
   obtain ⟨l, hll⟩ : ∃ l, p.tlbs[k] = l := ⟨_, rfl⟩
   rw [hll] at hi
   have h100 : l.length ≤ 100 := by rw [← hll]; exact HL.out _ (List.getElem_mem hlt)
   have MKF := hid (fun x (hx : x ∈ mapK (goneP fun e => !toldB p e) k p.tlbs) => show x.length ≤ 100 from by
    unfold mapK at hx
    rcases List.mem_append.1 hx with h | h
    ·obtain ⟨y, hy, rfl⟩ := List.mem_map.1 h
     exact Nat.le_trans (List.length_filter_le _ _) (HL.out y (List.mem_of_mem_take hy))
    ·exact HL.out x (List.mem_of_mem_drop h))
   have CU := hid cu
   have HII := hid hi
   have HDEL := hid (fun X (hX : Below wr.heap.size wr X) => delete_forget (fun e => !toldB p e) u l c X (own_below hi.1 hX) h100 (fun e Y m kp ow _ hm => by
    have kp2 : Kp (fun b => u.ownBlock = some b) wr Y := (Kp.of_below (T := fun b => u.ownBlock = some b) hX).trans kp
    obtain ⟨l2, k2⟩ := LT.out.inner hlt HD.out cu kp2 (c := (m.length, cellsE m)) (by show Y.ownsRow 0 115 4 u m.length (cellsE m); rw [hm]; exact ow)
    have hkl : k < (mapK (goneP fun e => !toldB p e) k p.tlbs).length := by rw [hml]; exact hlt
    have bY : BoxT Y wb tg V { p with tlbs := (mapK (goneP fun e => !toldB p e) k p.tlbs).set k m } := HT.out.tlbs k2 (fun _ _ => rfl) (by rw [List.length_set, hml, E8.out, ce_set _ _ hkl]; exact l2)
    refine notTold c wb tg V p _ e Y ?_ bY ⟨HF.out.ram, HF.out.kinds, HF.out.slots, HF.out.tasks, HF.out.lines, HF.out.line, HF.out.bits, HF.out.cores, HF.out.ready, HF.out.next, by show (List.set _ _ _).length ≤ 1000; rw [List.length_set, hml]; exact HF.out.tlbs, HF.out.doms⟩ (fun x hx => ?_) HW.out H6.out rfl rfl
    ·refine (kp2.cell (p := ⟨c, 0, none⟩) (World.block_lt_of_cell? _ _ HC.out) (fun e3 => ?_)).trans HC.out
     have := HII.out.2 c e3
     rw [TC.out] at this
     omega
    ·rcases List.mem_or_eq_of_mem_set hx with h | rfl
     ·exact MKF.out x h
     ·rw [hm]; exact h100))
   have gk := LT.out.fr k
   have GB := hid LT.out.tag0
   clear hi h100 HCI
   have c8 : wr.cell? ⟨wb, 8, none⟩ = some (.slice (some ⟨g8, 0, none⟩) p.tlbs.length p.tlbs.length) := by rw [range_cell HT.out.r (k := 8) rfl, E8.out]
   go_upto_region 4 with fail
   clear c8
   have BD : Hid (Below wr.heap.size wr wr.drew) := hid (below_drew wr 1)
   have KS := hid (fun X (h : Below wr.heap.size wr X) => show X.cell? ⟨c, 0, none⟩ = some (.pointer (some ⟨wb, 0, none⟩)) ∧ X.cell? ⟨wb, 8, none⟩ = some (.slice (some ⟨g8, 0, none⟩) p.tlbs.length p.tlbs.length) from ⟨(h.cell (World.block_lt_of_cell? _ _ HC.out)).trans HC.out, by rw [range_cell (HT.out.below h).r (k := 8) rfl, E8.out]⟩)
   refine wp_region_held_drew (S := fun X => X.cell? ⟨c, 0, none⟩ = some (.pointer (some ⟨wb, 0, none⟩)) ∧ X.cell? ⟨wb, 8, none⟩ = some (.slice (some ⟨g8, 0, none⟩) p.tlbs.length p.tlbs.length)) (by kernel_rfl) (KS.out _ BD.out) (fun hH0 => ?_)
   have hH := hid hH0
   clear hH0
   refine Mem.tg 0 (.pointer (some ⟨wb, 0, none⟩)) rfl (Or.inl ⟨by rfl, fun W h => by have h3 := h.1; clear h; go_simp⟩) hH.out ?_
   simp only [jj]
   refine tk 1 (.pointer (some ⟨wb, 0, none⟩)) rfl hH.out ?_
   simp only [jj]
   refine tk 2 (.pointer (some ⟨wb, 8, none⟩)) rfl hH.out ?_
   simp only [jj]
   refine Mem.tg 3 (.slice (some ⟨g8, 0, none⟩) p.tlbs.length p.tlbs.length) rfl (Or.inl ⟨by rfl, fun W h => by have h3 := h.2; clear h; go_simp⟩) hH.out ?_
   simp only [jj]
   refine tk 4 (.int .i64 k) rfl hH.out ?_
   simp only [jj]
   refine tk 5 u rfl hH.out ?_
   simp only [jj]
   refine tk 6 (.func (.func 103) #[] #[.pointer (some ⟨c, 0, none⟩)]) rfl hH.out ?_
   simp only [jj]
   refine wpAnyH_ready (rs := [7]) (by kernel_rfl) (by simp) (AllReadyH.cons rfl (fun K hK => ?_) AllReadyH.nil)
   go_simp
   refine (HDEL.out _ BD.out).mono ?_
   rintro q w1 ⟨u', rfl, hO, hob, hkp⟩
   have KP := hid (show Kp (fun b => tg b = 14 + 3 * k) wr w1 from ((Kp.of_below (T := fun b => u.ownBlock = some b) BD.out).trans hkp).wider (fun b _ e => HII.out.2 b e))
   have IN := hid (show InT w1 tg (14 + 3 * k) 115 4 u' ((goneP (fun e => !toldB p e) l).length, cellsE (goneP (fun e => !toldB p e) l)) from ⟨hO, fun b e => HII.out.2 b (by rw [← hob]; exact e)⟩)
   obtain ⟨qu, ku, rfl⟩ := own_form hO
   have ng : ¬ tg g8 = 14 + 3 * k := by rw [GB.out.1]; exact HD.out k
   have c1 : w1.cell? ⟨g8, k, none⟩ = some u := (KP.out.cell (p := ⟨g8, k, none⟩) GB.out.2 ng).trans CU.out
   have f1 : w1.frozen? ⟨g8, k, none⟩ = false := (KP.out.frozen (p := ⟨g8, k, none⟩) GB.out.2 ng).trans gk
   have hc1 : w1.cell? ⟨c, 0, none⟩ = some (.pointer (some ⟨wb, 0, none⟩)) := (KP.out.cell (p := ⟨c, 0, none⟩) (World.block_lt_of_cell? _ _ HC.out) (by show ¬ tg c = 14 + 3 * k; rw [TC.out]; omega)).trans HC.out
   obtain ⟨hn, hkn⟩ := LT.out.put hlt HD.out KP.out (fun _ _ => rfl) IN.out
   have BN := hid (show BoxT (w1.setCell ⟨g8, k, none⟩ (.slice qu (goneP (fun e => !toldB p e) l).length ku)) wb tg V { p with tlbs := mapK (goneP fun e => !toldB p e) (k + 1) p.tlbs } from HT.out.tlbs hkn (fun _ _ => rfl) (by
    rw [mapK_succ _ _ _ hlt, List.length_set, hml, E8.out, ce_set _ _ (by rw [hml]; exact hlt), hll]
    exact hn))
   have KN := hid (HK.out.trans (.of hkn (fun b e => by rcases e with e | ⟨i, e⟩ <;> omega) (fun _ _ => rfl)))
   have CN := hid (show (w1.setCell ⟨g8, k, none⟩ (.slice qu (goneP (fun e => !toldB p e) l).length ku)).cell? ⟨c, 0, none⟩ = some (.pointer (some ⟨wb, 0, none⟩)) by
    rw [World.cell?_setCell_other _ _ _ _ (by intro h; cases h; have := GB.out.1; rw [TC.out] at this; omega)]
    exact hc1)
   have S1 := hid (show w1.cell? ⟨c, 0, none⟩ = some (.pointer (some ⟨wb, 0, none⟩)) ∧ w1.cell? ⟨wb, 8, none⟩ = some (.slice (some ⟨g8, 0, none⟩) p.tlbs.length p.tlbs.length) from ⟨hc1, (KP.out.cell (p := ⟨wb, 8, none⟩) HT.out.lt (by show ¬ tg wb = 14 + 3 * k; rw [HT.out.g]; omega)).trans (KS.out _ (Below.refl _ _)).2⟩)
   have S2 := hid (show (w1.setCell ⟨g8, k, none⟩ (.slice qu (goneP (fun e => !toldB p e) l).length ku)).cell? ⟨c, 0, none⟩ = some (.pointer (some ⟨wb, 0, none⟩)) ∧ (w1.setCell ⟨g8, k, none⟩ (.slice qu (goneP (fun e => !toldB p e) l).length ku)).cell? ⟨wb, 8, none⟩ = some (.slice (some ⟨g8, 0, none⟩) p.tlbs.length p.tlbs.length) from ⟨CN.out, by rw [range_cell BN.out.r (k := 8) rfl, E8.out]⟩)
   clear hn hkn hO hob hkp ng hc1
   go_wp2_with fail
   refine hK.out _ _ S1.out (fun hH0 => ?_)
   clear hK K hH0
   try simp only [Act.put, jD, jE, jF]
   refine tk 8 (.pointer (some ⟨g8, k, none⟩)) rfl S1.out ?_
   simp only [jj]
   refine wpAnyH_ready (rs := [9]) (by kernel_rfl) (by simp) (AllReadyH.cons rfl (fun K hK => ?_) AllReadyH.nil)
   go_simp
   refine hK.out _ _ S2.out (fun _ => ?_)
   clear hK K c1 f1
   try simp only [Act.put]
   refine wpAnyH_done (by kernel_rfl) ?_ _
   clear hH S1 S2 KS BD HDEL KP IN
   generalize World.setCell _ _ _ = W9 at *
   go_wp2_with fail
   exact ⟨⟨k + 1, by omega, by go_num, BN, KN, CN⟩, by simp [intOf]; omega⟩
  ·obtain rfl : k = p.tlbs.length := by omega
   have hge : ¬ ((p.tlbs.length : Int) < (p.tlbs.length : Int)) := by omega
   have HN := hid (show BoxT wr wb tg V (fgt p) by unfold fgt; rw [← mapK_all]; exact HT.out)
   clear HT
   go_wp2_with fail
   exact bodyPost_end (results_none rfl _ _ _) rfl ⟨rfl, tg, HN.out, HK.out⟩
end Go.Proofs.YtoebmjgkfkfhjaaGreatDoor.Wd
namespace Go.Proofs.YtoebmjgkfkfhjaaGreatDoor.Mmu
open Go.RowKit Go.Proofs.YtoebmjgkfkfhjaaGreatDoor.Mem Go.Proofs.YtoebmjgkfkfhjaaGreatDoor.Bw Go.Proofs.YtoebmjgkfkfhjaaGreatDoor.Nums
theorem cellsE_snoc (l : List Ent) (q : Ent) : cellsE (l ++ [q]) = cellsE l ++ [.int .i64 q.1, .int .i64 q.2.1, .int .i64 q.2.2.1, .bool q.2.2.2] := by
 unfold cellsE
 rw [List.flatMap_append]
 rfl
theorem fourE_new (W : World) (a b c d : Value) (e : TypeId) : ∀ (j : Nat) (x : Value), [a, b, c, d][j]? = some x → (W.alloc (.cells #[a, b, c, d] e)).cell? ((⟨W.heap.size, 0, none⟩ : Addr).add j) = some x := by
 intro j x h
 rw [show (⟨W.heap.size, 0, none⟩ : Addr).add j = ⟨W.heap.size, j, none⟩ from by unfold Addr.add; split <;> simp_all, World.cell?_alloc_at _ _ _ _ rfl]
 rw [← h]
 simp
end Go.Proofs.YtoebmjgkfkfhjaaGreatDoor.Mmu
namespace Go.Proofs.YtoebmjgkfkfhjaaGreatDoor.Wd
open Go.RowKit Go.Proofs.YtoebmjgkfkfhjaaGreatDoor.Mem Go.Proofs.YtoebmjgkfkfhjaaGreatDoor.Bw Go.Proofs.YtoebmjgkfkfhjaaGreatDoor.Nums Go.Proofs.YtoebmjgkfkfhjaaGreatDoor.Mmu
/-- What stays remembered when a thing is gone. -/
def kpE (p : PW) (k f : Int) (e : Ent) : Bool := ((walkR p.ram e.1 (16 * e.2.1)).2.2 == 0 && (walkR p.ram e.1 (16 * e.2.1)).1 == e.2.2.1 && (walkR p.ram e.1 (16 * e.2.1)).2.1 == e.2.2.2) && !(k == 4 && e.1 == f)
def fwP (p : PW) (k f : Int) : PW := { p with tlbs := p.tlbs.map (List.filter (kpE p k f)) }
theorem filt_take {P : Ent → Bool} {l : List Ent} {k : Nat} (h : k < l.length) : (l.take (k + 1)).filter P = (l.take k).filter P ++ (if P l[k] = true then [l[k]] else []) := by
 rw [List.take_succ_eq_append_getElem h, List.filter_append]
 by_cases hs : P l[k] = true
 ·rw [if_pos hs, List.filter_cons_of_pos hs]; rfl
 ·rw [if_neg hs, List.filter_cons_of_neg hs]; rfl
set_option maxRecDepth 100000 in
set_option maxHeartbeats 8000000 in
theorem forgetWrong_any (wb : Nat) (tag : Nat → Nat) (V : Nat → Value) (p : PW) (k f : Int) (W : World) (bt : BoxT W wb tag V p) (hp : p.Fits) (hl : ∀ l ∈ p.tlbs, l.length ≤ 100) (hpg : ∀ l ∈ p.tlbs, ∀ e ∈ l, 0 ≤ e.2.1 ∧ e.2.1 ≤ 255) (hw : ∀ z ∈ p.ram, 0 ≤ z ∧ z < 65536) (h600 : p.ram.length ≤ 600) :
  Calls Tryz.prog 69 #[.pointer (some ⟨wb, 0, none⟩), .int .i64 k, .int .i64 f] W fun r W' => r = .returned (.tuple #[]) ∧ ∃ tag', BoxT W' wb tag' V (fwP p k f) ∧ Kt tag tag' W W' := by
 obtain ⟨i0, hi, hz0, hz1, hz2⟩ := info_get infoEnt
 have hl8 : (p.tlbs.length : Int) ≤ 1000 := by have := hp.tlbs; omega
 obtain ⟨g8, e8⟩ := bt.o.tlbs.form
 obtain ⟨q0, g0, o0, cap0, e0, hq0, hz00⟩ := own_ints bt.o.ram.1
 have E8 := hid e8
 have HRAM := hid (fun X tg q (h : BoxT X wb tg V q) (e : q.ram = p.ram) => show RamIn X (V 0) p.ram from ⟨by
  have h1 := own_ints h.o.ram.1
  rw [e] at h1
  exact h1, hw, h600⟩)
 have HL := hid hl
 have HPG := hid hpg
 have HB := hid bt
 have E0 := hid e0
 clear bt hp hl hpg hw h600 e8 e0 hq0 hz00
 go_enter Tryz.func69, Tryz.ntmps69
 go_wp2_with fail
 go_loopw [6] (fun i wr => ∃ (c : Nat), c ≤ p.tlbs.length ∧ i = .int .i64 c ∧ Hid (∃ tg, BoxT wr wb tg V { p with tlbs := mapK (List.filter (kpE p k f)) c p.tlbs } ∧ Kt tag tg W wr)) (fun i _ => p.tlbs.length - (intOf i).toNat)
 case atStart => exact ⟨0, by omega, rfl, hid ⟨tag, by rw [mapK_zero]; exact HB.out, Kt.refl _ _⟩⟩
 case round =>
  obtain ⟨c, hc, rfl, HH⟩ := hrel
  obtain ⟨tg, bt, kt⟩ := HH.out
  have HT := hid bt
  have HK := hid kt
  clear bt kt HH
  have c8 : wr.cell? ⟨wb, 8, none⟩ = some (.slice (some ⟨g8, 0, none⟩) p.tlbs.length p.tlbs.length) := by rw [range_cell HT.out.r (k := 8) rfl, E8.out]
  by_cases hlt : c < p.tlbs.length
  ·have hlt2 : (c : Int) < (p.tlbs.length : Int) := by omega
   have hml : (mapK (List.filter (kpE p k f)) c p.tlbs).length = p.tlbs.length := mapK_len _ _ _
   have LT := hid (show ListT wr tg 10 14 56 115 4 p.tlbs.length (.slice (some ⟨g8, 0, none⟩) p.tlbs.length p.tlbs.length) (ce (mapK (List.filter (kpE p k f)) c p.tlbs)) from by
    have h := HT.out.o.tlbs
    rw [E8.out] at h
    show ListT wr tg 10 14 56 115 4 p.tlbs.length _ _
    rw [← hml]
    rw [← hml] at h
    exact h)
   obtain ⟨ul, cu, hiT⟩ := LT.out.at hlt
   have hkl : c < (mapK (List.filter (kpE p k f)) c p.tlbs).length := by rw [hml]; exact hlt
   have HCI := hid (show ce (mapK (List.filter (kpE p k f)) c p.tlbs) c = (p.tlbs[c].length, cellsE p.tlbs[c]) by
    unfold ce
    rw [List.getD_eq_getElem?_getD, List.getElem?_eq_getElem hkl, Option.getD_some, mapK_at _ _ _ hlt hkl])
   rw [HCI.out] at hiT
   obtain ⟨l, hll⟩ : ∃ l, p.tlbs[c] = l := ⟨_, rfl⟩
   rw [hll] at hiT
   have h100 : l.length ≤ 100 := by rw [← hll]; exact HL.out _ (List.getElem_mem hlt)
   have HPL := hid (show ∀ e ∈ l, 0 ≤ e.2.1 ∧ e.2.1 ≤ 255 by rw [← hll]; exact HPG.out _ (List.getElem_mem hlt))
   have hl2 : (l.length : Int) ≤ 100 := by omega
   obtain ⟨q, gu, capu, rfl, hq⟩ := hiT.shape
   have HII := hid hiT
   have HQ := hid hq
   have CU := hid cu
   have HLL := hid hll
   have gk := hid (LT.out.fr c)
   have GB := hid LT.out.tag0
   have W0 := hid (show wr.cell? ⟨wb, 8, none⟩ = some (.slice (some ⟨g8, 0, none⟩) p.tlbs.length p.tlbs.length) from c8)
   have HWA := hid (fun X (h : Below wr.heap.size wr X) a b => walked_any_o (V 0) p.ram a b X (HRAM.out X tg _ (HT.out.below h) rfl))
   have R0 := hid (fun X (h : Below wr.heap.size wr X) => show X.cell? ⟨wb, 0, none⟩ = some (V 0) from range_cell (HT.out.below h).r (k := 0) rfl)
   clear hiT hq cu hll HCI hkl
   go_upto_region 5 with fail
   clear c8
   generalize wr = w0 at *
   go_loopw [7, 8] (fun v i wr => ∃ (j : Nat) (m : List Ent), j ≤ l.length ∧ i = .int .i64 j ∧ Hid (m = (l.take j).filter (kpE p k f)) ∧ Hid (wr.ownsRow w0.heap.size 115 4 v m.length (cellsE m)) ∧ Hid (Below w0.heap.size w0 wr)) (fun _ i _ => l.length - (intOf i).toNat)
   case atStart => exact ⟨0, [], by omega, rfl, hid rfl, hid (World.ownsRow_nil _ _ _ _), hid (Below.refl _ _)⟩
   case round =>
    obtain ⟨j, m, hj, rfl, HM, HO, HBL⟩ := hrel
    have hm : m.length ≤ 100 := by
     rw [HM.out]
     exact Nat.le_trans (List.length_filter_le _ _) (by rw [List.length_take]; omega)
    have c8 : wr.cell? ⟨wb, 8, none⟩ = some (.slice (some ⟨g8, 0, none⟩) p.tlbs.length p.tlbs.length) := (HBL.out.cell (World.block_lt_of_cell? _ _ W0.out)).trans W0.out
    have cu : wr.cell? ⟨g8, c, none⟩ = some (.slice q l.length capu) := (HBL.out.cell (World.block_lt_of_cell? _ _ CU.out)).trans CU.out
    by_cases hjl : j < l.length
    ·have hjl2 : (j : Int) < (l.length : Int) := by omega
     have hqe := HQ.out (by omega)
     subst hqe
     have OB := own_below HII.out.1 HBL.out
     obtain ⟨a0, a1, a2, a3⟩ := cellsE_at l j hjl
     have HT2 := hid (filt_take (P := kpE p k f) hjl)
     have HPP := hid (HPL.out l[j] (List.getElem_mem hjl))
     generalize l[j] = e at a0 a1 a2 a3 HT2 HPP
     obtain ⟨x, y, z, u⟩ := e
     simp only at a0 a1 a2 a3
     have b0 := (OB.cellAt (j * 4) (by show j * 4 < l.length * 4; omega)).trans a0
     have b1 := (OB.cellAt (j * 4 + 1) (by show j * 4 + 1 < l.length * 4; omega)).trans a1
     have b2 := (OB.cellAt (j * 4 + 2) (by show j * 4 + 2 < l.length * 4; omega)).trans a2
     have b3 := (OB.cellAt (j * 4 + 3) (by show j * 4 + 3 < l.length * 4; omega)).trans a3
     have HYES := hid (show kpE p k f (x, y, z, u) = true → m ++ [(x, y, z, u)] = (l.take (j + 1)).filter (kpE p k f) from fun h => by rw [HT2.out, if_pos h, HM.out])
     have HNO := hid (show kpE p k f (x, y, z, u) = false → m = (l.take (j + 1)).filter (kpE p k f) from fun h => by rw [HT2.out, if_neg (by rw [h]; decide), HM.out, List.append_nil])
     have hy0 : 0 ≤ y := HPP.out.1
     have hy1 : y ≤ 255 := HPP.out.2
     obtain ⟨W1, hW1⟩ : ∃ W1, W1 = wr.alloc (.cells #[.int .i64 x, .int .i64 y, .int .i64 z, .bool u] 115) := ⟨_, rfl⟩
     have BE := hid (show Below wr.heap.size wr W1 by rw [hW1]; exact bal (Below.refl _ wr) _)
     have XW := hid (show ∀ o, W1.cell? ⟨wr.heap.size, o, none⟩ = (#[.int .i64 x, .int .i64 y, .int .i64 z, .bool u] : Array Value)[o]? by rw [hW1]; exact cells_new wr _ _)
     have sW : W1.heap.size = wr.heap.size + 1 := by rw [hW1]; simp
     clear a0 a1 a2 a3 OB HT2 HPP
     go_upto_region 8 with fail
     rw [← hW1]
     clear hW1 b0 b1 b2 b3 c8 cu
     have B1 := hid (HBL.out.trans (BE.out.mono HBL.out.size))
     have d0 := XW.out 0
     have d1 := XW.out 1
     have r0 := R0.out _ B1.out
     have KW := hid (fun n => walked_any_o (V 0) p.ram x (16 * y) (W1.drewN n) (HRAM.out _ tg _ ((HT.out.below B1.out).below (below_drewN (Below.refl W1.heap.size W1) n)) rfl))
     have HKE := hid (show kpE p k f (x, y, z, u) = (((walkR p.ram x (16 * y)).2.2 == 0 && (walkR p.ram x (16 * y)).1 == z && (walkR p.ram x (16 * y)).2.1 == u) && !(k == 4 && x == f)) from rfl)
     generalize walkR p.ram x (16 * y) = R at KW HKE
     obtain ⟨ra, rb, rn⟩ := R
     simp only at KW HKE
     go_quiet (first | (go_at_call 116; refine Calls.quiet_of_same ((KW.out _).mono fun _ _ h => (⟨h.1, h.2.symm⟩ : _ ∧ _))))
     have BN := hid (below_drewN (Below.refl W1.heap.size W1) nq)
     have XN := cells_next XW.out (show wr.heap.size < W1.heap.size by omega) BN.out
     have BX := hid (B1.out.trans (BN.out.mono B1.out.size))
     have OX := hid (own_below (own_below HO.out BE.out) BN.out)
     generalize World.drewN _ _ = W2 at *
     have k0 := XN 0
     have k1 := XN 1
     have k2 := XN 2
     have k3 := XN 3
     clear d0 d1 r0 KW XN XW BE BN B1
     by_cases hn : rn = 0
     rotate_left
     ·have hnb : (rn == 0) = false := by simpa using hn
      have HN := hid (HNO.out (by rw [HKE.out, hnb]; rfl))
      clear HYES HNO
      go_wp2_with fail
      exact ⟨⟨j + 1, m, by omega, by go_num, HN, OX, BX⟩, by simp [intOf]; omega⟩
     have hnb : (rn == 0) = true := by simpa using hn
     by_cases ha : ra = z
     rotate_left
     ·have hab : (ra == z) = false := by simpa using ha
      have HN := hid (HNO.out (by rw [HKE.out, hnb, hab]; rfl))
      clear HYES HNO
      go_wp2_with fail
      exact ⟨⟨j + 1, m, by omega, by go_num, HN, OX, BX⟩, by simp [intOf]; omega⟩
     have hab : (ra == z) = true := by simpa using ha
     by_cases hb : rb = u
     rotate_left
     ·have hbb : (rb == u) = false := by simpa using hb
      have HN := hid (HNO.out (by rw [HKE.out, hnb, hab, hbb]; rfl))
      clear HYES HNO
      go_wp2_with fail
      exact ⟨⟨j + 1, m, by omega, by go_num, HN, OX, BX⟩, by simp [intOf]; omega⟩
     have hbb : (rb == u) = true := by simpa using hb
     by_cases h4 : k = 4
     ·have h4b : (k == 4) = true := by simpa using h4
      by_cases hx : x = f
      ·have hxb : (x == f) = true := by simpa using hx
       have HN := hid (HNO.out (by rw [HKE.out, hnb, hab, hbb, h4b, hxb]; rfl))
       clear HYES HNO hn ha hb h4 hx
       go_wp2_with fail
       exact ⟨⟨j + 1, m, by omega, by go_num, HN, OX, BX⟩, by simp [intOf]; omega⟩
      ·have hxb : (x == f) = false := by simpa using hx
       have HY := hid (HYES.out (by rw [HKE.out, hnb, hab, hbb, h4b, hxb]; rfl))
       clear HYES HNO hn ha hb h4 hx
       go_wp2_with (at_builtin; refine wpList_append_own _ rfl _ _ 56 rfl w0.heap.size 115 i0 (.agg #[.int .i64 0, .int .i64 0, .int .i64 0, .bool false]) 4 32 Tryz.underlying56 hi hz0 hz1 hz2 rfl (by decide) _ _ _ rfl (OX.out.alloc _) ⟨_, 0, none⟩ 1 1 [.int .i64 x, .int .i64 y, .int .i64 z, .bool u] rfl rfl (fourE_new _ _ _ _ _ _) (fourE_cell _ _ _ _) (by unfold maxLen; omega) (by omega) (by have := BX.out.size; simp; omega) ?_; intro v' w5 hown' hgrow _; have B5 := hid ((bal BX.out _).grown hgrow (by have := BX.out.size; simp; omega) (fun k hk => (OX.out.lt k hk).1)); have O5 := hid hown'; clear hown' hgrow)
       refine ⟨⟨j + 1, m ++ [(x, y, z, u)], by omega, by go_num, HY, hid ?_, B5⟩, by simp [intOf]; omega⟩
       rw [cellsE_snoc, List.length_append]
       exact O5.out
     ·have h4b : (k == 4) = false := by simpa using h4
      have HY := hid (HYES.out (by rw [HKE.out, hnb, hab, hbb, h4b]; rfl))
      clear HYES HNO hn ha hb h4
      go_wp2_with (at_builtin; refine wpList_append_own _ rfl _ _ 56 rfl w0.heap.size 115 i0 (.agg #[.int .i64 0, .int .i64 0, .int .i64 0, .bool false]) 4 32 Tryz.underlying56 hi hz0 hz1 hz2 rfl (by decide) _ _ _ rfl (OX.out.alloc _) ⟨_, 0, none⟩ 1 1 [.int .i64 x, .int .i64 y, .int .i64 z, .bool u] rfl rfl (fourE_new _ _ _ _ _ _) (fourE_cell _ _ _ _) (by unfold maxLen; omega) (by omega) (by have := BX.out.size; simp; omega) ?_; intro v' w5 hown' hgrow _; have B5 := hid ((bal BX.out _).grown hgrow (by have := BX.out.size; simp; omega) (fun k hk => (OX.out.lt k hk).1)); have O5 := hid hown'; clear hown' hgrow)
      refine ⟨⟨j + 1, m ++ [(x, y, z, u)], by omega, by go_num, HY, hid ?_, B5⟩, by simp [intOf]; omega⟩
      rw [cellsE_snoc, List.length_append]
      exact O5.out
    ·obtain rfl : j = l.length := by omega
     have hge : ¬ ((l.length : Int) < (l.length : Int)) := by omega
     have HF := hid (show m = l.filter (kpE p k f) by rw [HM.out, List.take_length])
     obtain ⟨qv, kv, hvv⟩ := own_form HO.out
     subst hvv
     have IN := hid (show InT wr (tagN tg w0.heap.size (14 + 3 * c)) (14 + 3 * c) 115 4 (.slice qv m.length kv) (m.length, cellsE m) from ⟨HO.out.mono (Nat.zero_le _), fun b e => by
      have h1 := (HO.out.lt b e).1
      unfold tagN
      rw [if_neg (by omega)]⟩)
     have HD := hid (show ∀ j : Nat, (10 : Nat) ≠ 14 + 3 * j from fun j => by omega)
     obtain ⟨hn, hkn⟩ := LT.out.put hlt HD.out (.of_below HBL.out) (fun b hb => tagN_lt hb) IN.out
     have fr : wr.frozen? ⟨g8, c, none⟩ = false := (HBL.out.frozen (p := ⟨g8, c, none⟩) GB.out.2).trans gk.out
     have BN := hid (show BoxT (wr.setCell ⟨g8, c, none⟩ (.slice qv m.length kv)) wb (tagN tg w0.heap.size (14 + 3 * c)) V { p with tlbs := mapK (List.filter (kpE p k f)) (c + 1) p.tlbs } from HT.out.tlbs hkn (fun b hb => tagN_lt hb) (by
      rw [mapK_succ _ _ _ hlt, List.length_set, hml, E8.out, ce_set _ _ (by rw [hml]; exact hlt), HLL.out, ← HF.out]
      exact hn))
     have KN := hid (show Kt tag (tagN tg w0.heap.size (14 + 3 * c)) W (wr.setCell ⟨g8, c, none⟩ (.slice qv m.length kv)) from HK.out.trans (.of hkn (fun b e => by rcases e with e | ⟨i, e⟩ <;> omega) (fun b hb => tagN_lt hb)))
     clear hn hkn IN
     go_wp2_with fail
     exact ⟨⟨c + 1, by omega, by go_num, hid ⟨_, BN.out, KN.out⟩⟩, by simp [intOf]; omega⟩
  ·obtain rfl : c = p.tlbs.length := by omega
   have hge : ¬ ((p.tlbs.length : Int) < (p.tlbs.length : Int)) := by omega
   have HN := hid (show BoxT wr wb tg V (fwP p k f) by unfold fwP; rw [← mapK_all]; exact HT.out)
   clear HT
   go_wp2_with fail
   exact bodyPost_end (results_none rfl _ _ _) rfl ⟨rfl, tg, HN.out, HK.out⟩
/-- What is remembered, and the words, are what they can be. -/
structure TL (p : PW) : Prop where
 len : ∀ l ∈ p.tlbs, l.length ≤ 100
 page : ∀ l ∈ p.tlbs, ∀ e ∈ l, 0 ≤ e.2.1 ∧ e.2.1 ≤ 255
 word : ∀ z ∈ p.ram, 0 ≤ z ∧ z < 65536
theorem TL.of {p q : PW} (h : TL p) (e1 : q.tlbs = p.tlbs) (e2 : q.ram = p.ram) : TL q := ⟨by rw [e1]; exact h.len, by rw [e1]; exact h.page, by rw [e2]; exact h.word⟩
theorem TL.ut {p : PW} (h : TL p) (f : Int) : TL (utP p f) := ⟨h.len, h.page, fun z hz => by
 obtain ⟨i, hi⟩ := List.mem_iff_getElem?.1 (show z ∈ p.ram.mapIdx (ut1 p.kinds f) from hz)
 rw [List.getElem?_mapIdx] at hi
 cases e : p.ram[i]? with
 | none => rw [e] at hi; cases hi
 | some y =>
  rw [e] at hi
  have h2 : ut1 p.kinds f i y = z := Option.some.inj hi
  unfold ut1 at h2
  split at h2
  ·omega
  ·rw [← h2]; exact h.word y (List.mem_of_getElem? e)⟩
theorem TL.fw {p : PW} (h : TL p) (k f : Int) : TL (fwP p k f) := ⟨fun l hl => by
 obtain ⟨l0, h0, rfl⟩ := List.mem_map.1 (show l ∈ p.tlbs.map _ from hl)
 exact Nat.le_trans (List.length_filter_le _ _) (h.len l0 h0), fun l hl e he => by
 obtain ⟨l0, h0, rfl⟩ := List.mem_map.1 (show l ∈ p.tlbs.map _ from hl)
 exact h.page l0 h0 e (List.mem_filter.1 he).1, h.word⟩
theorem et_tl (p : PW) (t : Nat) : (etP p t).tlbs = p.tlbs ∧ (etP p t).ram = p.ram := by
 unfold etP
 split <;> exact ⟨rfl, rfl⟩
theorem ds_tl (p : PW) (f : Nat) : (dsP p f).tlbs = p.tlbs ∧ (dsP p f).ram = p.ram := by
 have e := ds_rest (p.lines.getD f []) p
 constructor
 ·show ((p.lines.getD f []).foldl ds1 p).tlbs = p.tlbs
  rw [e]
 ·show ((p.lines.getD f []).foldl ds1 p).ram = p.ram
  rw [e]
theorem fw_inv {p : PW} (h : Inv p) (k f : Int) : Inv (fwP p k f) := ⟨⟨h.fits.ram, h.fits.kinds, h.fits.slots, h.fits.tasks, h.fits.lines, h.fits.line, h.fits.bits, h.fits.cores, h.fits.ready, h.fits.next, by show (p.tlbs.map _).length ≤ 1000; rw [List.length_map]; exact h.fits.tlbs, h.fits.doms⟩, h.k24, h.ram, h.slots, h.tasks, h.lines, h.bits, h.key, h.line, h.owes, h.ent, h.help⟩
/-- A thing is gone, by the document. -/
def gnF (dr : PW → Nat → PW) (p : PW) (k : Int) (f : Nat) : PW := fwP (lsF dr p k f) k f
def drR : Nat → PW → Nat → PW
 | 0, p, _ => p
 | m + 1, p, s => if (p.slots.getD s eS) 0 = 1 ∨ opnd (drA p s) ((p.slots.getD s eS) 0) ((p.slots.getD s eS) 1) = true then drA p s else gnF (drR m) (drA p s) ((p.slots.getD s eS) 0) ((p.slots.getD s eS) 1).toNat
theorem da_tl {m : Nat} {dr : PW → Nat → PW} {f : Nat} (hd : ∀ p s, nds p < m → Inv p → s < p.slots.length → (p.slots.getD s eS) 0 ≠ 0 → Inv (dr p s) ∧ nds (dr p s) ≤ nds p ∧ (dr p s).kinds.length = p.kinds.length) (ht : ∀ p s, nds p < m → Inv p → s < p.slots.length → (p.slots.getD s eS) 0 ≠ 0 → TL p → TL (dr p s)) : ∀ (a : Nat) (p : PW), nds p < m → Inv p → f * 16 + a ≤ p.slots.length → TL p → TL (daF dr f a p)
 | 0, p, _, _, _, t => by rw [da_zero]; exact t
 | a + 1, p, hn, h, hl, t => by
  rw [da_succ]
  by_cases h0 : (p.slots.getD (f * 16 + a) eS) 0 = 0
  ·rw [if_pos h0]
   exact da_tl hd ht a p hn h (by omega) t
  ·rw [if_neg h0]
   obtain ⟨h1, h2, h3⟩ := hd p (f * 16 + a) hn h (by omega) h0
   have h7 : (dr p (f * 16 + a)).slots.length = p.slots.length := by rw [h1.slots, h3, h.slots]
   exact da_tl hd ht a (dr p (f * 16 + a)) (by omega) h1 (by omega) (ht p (f * 16 + a) hn h (by omega) h0 t)
theorem ls_tl {m : Nat} {dr : PW → Nat → PW} (hd : ∀ p s, nds p < m → Inv p → s < p.slots.length → (p.slots.getD s eS) 0 ≠ 0 → Inv (dr p s) ∧ nds (dr p s) ≤ nds p ∧ (dr p s).kinds.length = p.kinds.length) (ht : ∀ p s, nds p < m → Inv p → s < p.slots.length → (p.slots.getD s eS) 0 ≠ 0 → TL p → TL (dr p s)) {p : PW} (h : Inv p) (t : TL p) (hn : nds p < m + 1) {k : Int} {f : Nat} (hk : p.kinds[f]? = some k) (ho : opnd p k f = false) : TL (lsF dr p k f) := by
 have tn : TL (nkP p f) := t.of rfl rfl
 unfold lsF
 by_cases e23 : k = 2 ∨ k = 3
 ·rw [if_pos e23]; exact tn.ut f
 rw [if_neg e23]
 by_cases e4 : k = 4
 ·rw [if_pos e4]; exact tn.of rfl rfl
 rw [if_neg e4]
 by_cases e5 : k = 5
 ·rw [if_pos e5]
  have hi := fg_full (nk_inv7 h hk ho (by omega)) 11 (by decide) (f : Int)
  have hc2 : nds (nkP p f) + 1 = nds p := (cnt_set p.kinds f).2 (by rw [hk, e5])
  have hfl : f < p.kinds.length := (List.getElem?_eq_some_iff.1 hk).1
  exact da_tl (m := m) (f := f) hd ht 16 (fgP 11 (nkP p f) f) (by show nds (nkP p f) < m; omega) hi (by show f * 16 + 16 ≤ p.slots.length; have := h.slots; omega) (tn.of rfl rfl)
 rw [if_neg e5]
 by_cases e6 : k = 6
 ·rw [if_pos e6]; exact tn.of (et_tl _ f).1 (et_tl _ f).2
 rw [if_neg e6]
 exact tn.of (ds_tl (nkP p f) f).1 (ds_tl (nkP p f) f).2
theorem rr_inv : ∀ (m : Nat), (∀ p s, nds p < m → Inv p → s < p.slots.length → (p.slots.getD s eS) 0 ≠ 0 → Inv (drR m p s) ∧ nds (drR m p s) ≤ nds p ∧ (drR m p s).kinds.length = p.kinds.length) ∧ (∀ p s, nds p < m → Inv p → s < p.slots.length → (p.slots.getD s eS) 0 ≠ 0 → TL p → TL (drR m p s))
 | 0 => ⟨fun p _ hn => absurd hn (Nat.not_lt_zero _), fun p _ hn => absurd hn (Nat.not_lt_zero _)⟩
 | m + 1 => by
  obtain ⟨i1, i2⟩ := rr_inv m
  refine ⟨fun p s hn h hs h0 => ?_, fun p s hn h hs h0 t => ?_⟩
  ·unfold drR
   by_cases hc : (p.slots.getD s eS) 0 = 1 ∨ opnd (drA p s) ((p.slots.getD s eS) 0) ((p.slots.getD s eS) 1) = true
   ·rw [if_pos hc]
    exact ⟨drA_inv h s, Nat.le_refl _, rfl⟩
   ·rw [if_neg hc]
    obtain ⟨b, hb, hk, -, -⟩ := ls_in h hs h0 (fun e => hc (.inl e))
    rw [hb, Int.toNat_natCast]
    have ho : opnd (drA p s) ((p.slots.getD s eS) 0) b = false := by
     cases e : opnd (drA p s) ((p.slots.getD s eS) 0) b with
     | false => rfl
     | true => exact absurd (.inr (by rw [hb]; exact e)) hc
    obtain ⟨a1, a2, a3⟩ := ls_inv (m := m) i1 (drA_inv h s) hn hk ho
    exact ⟨fw_inv a1 _ _, a2, a3⟩
  ·unfold drR
   by_cases hc : (p.slots.getD s eS) 0 = 1 ∨ opnd (drA p s) ((p.slots.getD s eS) 0) ((p.slots.getD s eS) 1) = true
   ·rw [if_pos hc]
    exact t.of rfl rfl
   ·rw [if_neg hc]
    obtain ⟨b, hb, hk, -, -⟩ := ls_in h hs h0 (fun e => hc (.inl e))
    rw [hb, Int.toNat_natCast]
    have ho : opnd (drA p s) ((p.slots.getD s eS) 0) b = false := by
     cases e : opnd (drA p s) ((p.slots.getD s eS) 0) b with
     | false => rfl
     | true => exact absurd (.inr (by rw [hb]; exact e)) hc
    exact (ls_tl (m := m) i1 i2 (drA_inv h s) (t.of rfl rfl) hn hk ho).fw _ _
/-- Helpers and lines: it is the same which goes first. -/
theorem fg_task (p : PW) (c t j : Nat) (x f : Int) (h : j ≠ c) : (fgP c p f).task t j x = fgP c (p.task t j x) f := by
 have e1 : fg1 c f (upd (p.tasks.getD t bl) j x) = upd (fg1 c f (p.tasks.getD t bl)) j x := by
  unfold fg1
  have e2 : upd (p.tasks.getD t bl) j x c = p.tasks.getD t bl c := if_neg (fun e => h e.symm)
  rw [e2]
  by_cases e : p.tasks.getD t bl c = f
  ·rw [if_pos e, if_pos e, upd_comm _ j c _ _ h]
  ·rw [if_neg e, if_neg e]
 show ({ p with tasks := (p.tasks.map (fg1 c f)).set t (upd ((p.tasks.map (fg1 c f)).getD t bl) j x) } : PW) = { p with tasks := (p.tasks.set t (upd (p.tasks.getD t bl) j x)).map (fg1 c f) }
 rw [List.map_set, e1]
 by_cases ht : t < p.tasks.length
 ·rw [map_getD p t (fg1 c f) ht]
 ·rw [List.set_eq_of_length_le (by rw [List.length_map]; omega), List.set_eq_of_length_le (by rw [List.length_map]; omega)]
theorem fg_ds (f : Int) : ∀ (l : List Int) (p : PW), l.foldl ds1 (fgP 13 p f) = fgP 13 (l.foldl ds1 p) f
 | [], _ => rfl
 | z :: l, p => by
  have e : ds1 (fgP 13 p f) z = fgP 13 (ds1 p z) f := by
   unfold ds1
   rw [fg_task p 13 _ 9 _ _ (by decide), fg_task _ 13 _ 14 _ _ (by decide)]
  rw [List.foldl_cons, List.foldl_cons, e, fg_ds f l (ds1 p z)]
theorem fg_disp (p : PW) (f : Nat) (n : Int) : dsP (fgP 13 p n) f = fgP 13 (dsP p f) n := by
 unfold dsP
 rw [show (fgP 13 p n).lines = p.lines from rfl, show (fgP 13 p n).bits = p.bits from rfl, fg_ds n (p.lines.getD f []) p]
 rfl
theorem fg_none (c : Nat) {p : PW} {n : Int} (h : ∀ g ∈ p.tasks, g c ≠ n) : fgP c p n = p := by
 unfold fgP
 have e : p.tasks.map (fg1 c n) = p.tasks := by
  conv => rhs; rw [← List.map_id p.tasks]
  exact List.map_congr_left fun g hg => if_neg (h g hg)
 rw [e]
/-- What tree.drop's like does in the document, where there are less than m nodes. -/
def RefAt (m : Nat) : Prop := ∀ (p : PW) (s : Nat) (W : World) (wb : Nat) (tag : Nat → Nat) (V : Nat → Value), nds p < m → Inv p → TL p → s < p.slots.length → BoxT W wb tag V p → Calls Tryz.prog 18 #[.pointer (some ⟨wb, 0, none⟩), .int .i64 s] W fun r W' => r = .returned (.int .i64 (if (p.slots.getD s eS) 0 = 0 then 6 else 0)) ∧ ∃ tag', BoxT W' wb tag' V (if (p.slots.getD s eS) 0 = 0 then p else drR m p s) ∧ Kt tag tag' W W'
set_option maxRecDepth 100000 in
set_option maxHeartbeats 8000000 in
theorem gone_4 {m : Nat} (p : PW) (f : Nat) (W : World) (wb : Nat) (tag : Nat → Nat) (V : Nat → Value) (hi : Inv p) (ht : TL p) (hk : p.kinds[f]? = some 4) (ho : opnd p 4 f = false) (bt : BoxT W wb tag V p) :
  Calls Tryz.prog 46 #[.pointer (some ⟨wb, 0, none⟩), .int .i64 f] W fun r W' => r = .returned (.tuple #[]) ∧ ∃ tag', BoxT W' wb tag' V (gnF (drR m) p 4 f) ∧ Kt tag tag' W W' := by
 obtain ⟨hf, hkf⟩ := List.getElem?_eq_some_iff.1 hk
 have h24 := hi.k24
 have hl1 : (p.kinds.length : Int) ≤ 1000 := by omega
 have hf2 : (f : Int) < (p.kinds.length : Int) := by omega
 have hl3 : (p.tasks.length : Int) ≤ 1000 := by have := hi.tasks; omega
 obtain ⟨g1, cap1, e1⟩ := bt.o.kinds.form (show 0 < p.kinds.length by omega)
 obtain ⟨g3, cap3, e3⟩ := bt.o.tasks.form (show 0 < p.tasks.length by have := hi.tasks; omega)
 have E1 := hid e1
 have E3 := hid e3
 have c1 : W.cell? ⟨wb, 1, none⟩ = some (.slice (some ⟨g1, 0, none⟩) p.kinds.length cap1) := by rw [range_cell bt.r (k := 1) rfl, e1]
 have x1 := bt.kindsAt e1 hf
 rw [hkf] at x1
 have x1f := bt.kindsFr e1 f
 obtain ⟨b1, k1⟩ := bt.kindsCell e1 f 0
 have B1 := hid (show BoxT (W.setCell ⟨g1, f, none⟩ (.int .i64 0)) wb tag V (nkP p f) from b1)
 have K1 := hid k1
 have hh := nk_inv hi hk ho
 have hlk : (nkP p f).kinds.length = p.kinds.length := List.length_set ..
 have tn : TL (nkP p f) := ht.of rfl rfl
 have h600 : (nkP p f).ram.length ≤ 600 := by have := hh.ram; omega
 have hiq := fg_full (nk_inv7 hi hk ho (by decide)) 12 (by decide) (f : Int)
 have HR := hid (show gnF (drR m) p 4 f = fwP (fgP 12 (nkP p f) f) 4 f by unfold gnF lsF; rw [if_neg (by decide), if_pos rfl])
 have FWC := hid (fun X tgx (h : BoxT X wb tgx V (fgP 12 (nkP p f) f)) => forgetWrong_any wb tgx V (fgP 12 (nkP p f) f) 4 f X h (hiq).fits ((tn.of rfl rfl : TL (fgP 12 (nkP p f) f))).len ((tn.of rfl rfl : TL (fgP 12 (nkP p f) f))).page ((tn.of rfl rfl : TL (fgP 12 (nkP p f) f))).word (by have := (hiq).ram; have := (hiq).k24; omega))
 clear hi ht hk ho bt hf hkf h24 e1 e3 b1 k1 hh hlk tn h600 hiq
 go_enter Tryz.func46, Tryz.ntmps46
 go_upto_region 2 with fail
 generalize World.setCell _ _ _ = W1 at *
 clear c1 x1 x1f
 go_upto_region 9 with fail
 go_loopw [6] (fun i wr => ∃ (j : Nat), j ≤ p.tasks.length ∧ i = .int .i64 j ∧ Hid (BoxT wr wb tag V { nkP p f with tasks := mapK (fg1 12 f) j p.tasks }) ∧ Hid (Kt tag tag W wr)) (fun i _ => p.tasks.length - (intOf i).toNat)
 case atStart => exact ⟨0, by omega, rfl, hid (by rw [mapK_zero]; exact B1.out), K1⟩
 case round =>
  obtain ⟨j, hj, rfl, HT, HK⟩ := hrel
  have c3 : wr.cell? ⟨wb, 3, none⟩ = some (.slice (some ⟨g3, 0, none⟩) p.tasks.length cap3) := by rw [range_cell HT.out.r (k := 3) rfl, E3.out]
  by_cases hjl : j < p.tasks.length
  ·have hjl2 : (j : Int) < (p.tasks.length : Int) := by omega
   have hkl : j < (mapK (fg1 12 f) j p.tasks).length := by rw [mapK_len]; exact hjl
   have he : V 3 = .slice (some ⟨g3, 0, none⟩) (mapK (fg1 12 f) j p.tasks).length cap3 := by rw [mapK_len]; exact E3.out
   have xc := HT.out.tasksAt he hkl (show 12 < 20 by omega)
   have fc := HT.out.tasksFr he (j * 20 + 12)
   simp only [mapK_at (fg1 12 f) j p.tasks hjl hkl] at xc
   by_cases h6 : p.tasks[j] 12 = f
   ·obtain ⟨hn, hkt⟩ := HT.out.tasksCell he hkl (show 12 < 20 by omega) (-1)
    have HN := hid (show BoxT (wr.setCell ⟨g3, j * 20 + 12, none⟩ (.int .i64 (-1))) wb tag V { nkP p f with tasks := mapK (fg1 12 f) (j + 1) p.tasks } by
     rw [mapK_succ (fg1 12 f) j p.tasks hjl, show fg1 12 f p.tasks[j] = upd p.tasks[j] 12 (-1) from if_pos h6, ← mapK_at (fg1 12 f) j p.tasks hjl hkl]
     exact hn)
    have HKK := hid (HK.out.trans hkt)
    rw [h6] at xc
    clear hn hkt he h6 hkl HT
    go_wp2_with fail
    exact ⟨⟨j + 1, by omega, by go_num, HN, HKK⟩, by simp [intOf]; omega⟩
   ·have HN := hid (show BoxT wr wb tag V { nkP p f with tasks := mapK (fg1 12 f) (j + 1) p.tasks } by
     rw [mapK_succ (fg1 12 f) j p.tasks hjl, show fg1 12 f p.tasks[j] = p.tasks[j] from if_neg h6, ← mapK_at (fg1 12 f) j p.tasks hjl hkl, List.set_getElem_self]
     exact HT.out)
    have h6b : (p.tasks[j] 12 == (f : Int)) = false := by simpa using h6
    generalize p.tasks[j] 12 = y at xc h6b
    clear he h6 hkl HT fc
    go_wp2_with fail
    exact ⟨⟨j + 1, by omega, by go_num, HN, HK⟩, by simp [intOf]; omega⟩
  ·obtain rfl : j = p.tasks.length := by omega
   have hge2 : ¬ ((p.tasks.length : Int) < (p.tasks.length : Int)) := by omega
   have B2 := hid (show BoxT wr wb tag V (fgP 12 (nkP p f) f) by unfold fgP; rw [show (nkP p f).tasks = p.tasks from rfl, ← mapK_all]; exact HT.out)
   have K2 := HK
   clear HT
   go_wp2_with fail
   refine (FWC.out _ _ B2.out).mono ?_
   rintro r w9 ⟨rfl, tg9, b9, k9⟩
   have B9 := hid b9
   have K9 := hid (K2.out.trans k9)
   clear b9 k9
   go_wp2_with fail
   exact bodyPost_end (results_none rfl _ _ _) rfl ⟨rfl, tg9, by rw [HR.out]; exact B9.out, K9.out⟩
set_option maxRecDepth 100000 in
set_option maxHeartbeats 8000000 in
theorem gone_2 {m : Nat} (p : PW) (f : Nat) (W : World) (wb : Nat) (tag : Nat → Nat) (V : Nat → Value) (hi : Inv p) (ht : TL p) (hk : p.kinds[f]? = some 2) (ho : opnd p 2 f = false) (bt : BoxT W wb tag V p) :
  Calls Tryz.prog 46 #[.pointer (some ⟨wb, 0, none⟩), .int .i64 f] W fun r W' => r = .returned (.tuple #[]) ∧ ∃ tag', BoxT W' wb tag' V (gnF (drR m) p 2 f) ∧ Kt tag tag' W W' := by
 obtain ⟨hf, hkf⟩ := List.getElem?_eq_some_iff.1 hk
 have h24 := hi.k24
 have hl1 : (p.kinds.length : Int) ≤ 1000 := by omega
 have hf2 : (f : Int) < (p.kinds.length : Int) := by omega
 have hl3 : (p.tasks.length : Int) ≤ 1000 := by have := hi.tasks; omega
 obtain ⟨g1, cap1, e1⟩ := bt.o.kinds.form (show 0 < p.kinds.length by omega)
 obtain ⟨g3, cap3, e3⟩ := bt.o.tasks.form (show 0 < p.tasks.length by have := hi.tasks; omega)
 have E1 := hid e1
 have E3 := hid e3
 have c1 : W.cell? ⟨wb, 1, none⟩ = some (.slice (some ⟨g1, 0, none⟩) p.kinds.length cap1) := by rw [range_cell bt.r (k := 1) rfl, e1]
 have x1 := bt.kindsAt e1 hf
 rw [hkf] at x1
 have x1f := bt.kindsFr e1 f
 obtain ⟨b1, k1⟩ := bt.kindsCell e1 f 0
 have B1 := hid (show BoxT (W.setCell ⟨g1, f, none⟩ (.int .i64 0)) wb tag V (nkP p f) from b1)
 have K1 := hid k1
 have hh := nk_inv hi hk ho
 have hlk : (nkP p f).kinds.length = p.kinds.length := List.length_set ..
 have tn : TL (nkP p f) := ht.of rfl rfl
 have h600 : (nkP p f).ram.length ≤ 600 := by have := hh.ram; omega
 have hiq := ut_inv (nk_inv7 hi hk ho (by decide)) (f : Int)
 have HENT := hid (nk_inv7 hi hk ho (by decide)).ent
 have HR := hid (show gnF (drR m) p 2 f = fwP (utP (nkP p f) f) 2 f by unfold gnF lsF; rw [if_pos (.inl rfl)])
 have FWC := hid (fun X tgx (h : BoxT X wb tgx V (utP (nkP p f) f)) => forgetWrong_any wb tgx V (utP (nkP p f) f) 2 f X h (hiq).fits ((tn.ut f : TL (utP (nkP p f) f))).len ((tn.ut f : TL (utP (nkP p f) f))).page ((tn.ut f : TL (utP (nkP p f) f))).word (by have := (hiq).ram; have := (hiq).k24; omega))
 have hl0 : (p.ram.length : Int) ≤ 1000 := by have := hi.ram; omega
 have HRM := hid hi.ram
 have HRF := hid (bt.o.ram.form (show 0 < p.ram.length by have := hi.ram; omega))
 have HLK := hid hlk
 have hf23 : (f : Int) ≤ 23 := by omega
 clear hi ht hk ho bt hf hkf h24 e1 e3 b1 k1 hh hlk tn h600 hiq
 go_enter Tryz.func46, Tryz.ntmps46
 go_upto_region 2 with fail
 generalize World.setCell _ _ _ = W1 at *
 clear c1 x1 x1f
 obtain ⟨g0, cap0, e0⟩ := HRF.out
 have E0 := hid e0
 clear e0
 go_upto_region 4 with fail
 go_loopw [5] (fun i wr => ∃ (j : Nat), j ≤ p.ram.length ∧ i = .int .i64 j ∧ Hid (BoxT wr wb tag V { nkP p f with ram := idK (ut1 (nkP p f).kinds f) j p.ram }) ∧ Hid (Kt tag tag W wr)) (fun i _ => p.ram.length - (intOf i).toNat)
 case atStart => exact ⟨0, by omega, rfl, hid (by rw [idK_zero]; exact B1.out), K1⟩
 case round =>
  obtain ⟨j, hj, rfl, HT, HK⟩ := hrel
  have c0 : wr.cell? ⟨wb, 0, none⟩ = some (.slice (some ⟨g0, 0, none⟩) p.ram.length cap0) := by rw [range_cell HT.out.r (k := 0) rfl, E0.out]
  by_cases hjl : j < p.ram.length
  ·have hjl2 : (j : Int) < (p.ram.length : Int) := by omega
   have hkl : j < (idK (ut1 (nkP p f).kinds f) j p.ram).length := by rw [idK_len]; exact hjl
   have he : V 0 = .slice (some ⟨g0, 0, none⟩) (idK (ut1 (nkP p f).kinds f) j p.ram).length cap0 := by rw [idK_len]; exact E0.out
   have xr := HT.out.ramAt he hkl
   have fr := HT.out.ramFr he j
   simp only [idK_at hjl hkl] at xr
   have hkd : j / 16 < (nkP p f).kinds.length := by rw [HLK.out]; have := HRM.out; omega
   have hkd2 : ((j : Int) / 16) = ((j / 16 : Nat) : Int) := by omega
   have hkd3 : ((j / 16 : Nat) : Int) < (p.kinds.length : Int) := by have := HLK.out; omega
   have ek : V 1 = .slice (some ⟨g1, 0, none⟩) (nkP p f).kinds.length cap1 := by rw [HLK.out]; exact E1.out
   have c1 : wr.cell? ⟨wb, 1, none⟩ = some (.slice (some ⟨g1, 0, none⟩) p.kinds.length cap1) := by rw [range_cell HT.out.r (k := 1) rfl, E1.out]
   have xk := HT.out.kindsAt ek hkd
   obtain ⟨kd, hkd0⟩ : ∃ kd, (nkP p f).kinds[j / 16] = kd := ⟨_, rfl⟩
   obtain ⟨y, hy0⟩ : ∃ y, p.ram[j] = y := ⟨_, rfl⟩
   have HX := hid (show (nkP p f).kinds.getD (j / 16) 0 = kd by rw [List.getD_eq_getElem?_getD, List.getElem?_eq_getElem hkd]; exact hkd0)
   have HKD := hid (show (nkP p f).kinds[j / 16]? = some kd by rw [List.getElem?_eq_getElem hkd, hkd0])
   have HY := hid hy0
   rw [hy0] at xr
   have xk2 : wr.cell? ⟨g1, j / 16, none⟩ = some (.int .i64 kd) := by rw [← hkd0]; exact xk
   generalize j / 16 = kq at hkd2 hkd3 xk2 ⊢
   clear xk hkd0 hy0 ek hkd
   by_cases hgk : kd = 3
   ·have hg3 : (kd == 3) = true := by simpa using hgk
    rcases HENT.out j y kd (by show p.ram[j]? = some y; rw [List.getElem?_eq_getElem hjl, HY.out]) HKD.out (.inl hgk) with hy0 | ⟨f', hf', hyy⟩
    ·have hy0b : (y != 0) = false := by rw [hy0]; rfl
     have HN := hid (show BoxT wr wb tag V { nkP p f with ram := idK (ut1 (nkP p f).kinds f) (j + 1) p.ram } by
      rw [idK_same hjl (by unfold ut1; rw [if_neg (by rw [HX.out, HY.out, hy0]; rintro ⟨-, h | h⟩ <;> omega)])]
      exact HT.out)
     clear he hkl HT hgk hy0
     go_wp2_with fail
     exact ⟨⟨j + 1, by omega, by go_num, HN, HK⟩, by simp [intOf]; omega⟩
    ·have hy0b : (y != 0) = true := bne_iff_ne.2 (by omega)
     have hym : y % 1024 = (f' : Int) := by omega
     have hyp : 0 ≤ y := by omega
     have hyq : y < 65536 := by omega
     by_cases hff : f' = f
     ·have hfb : ((f' : Int) == (f : Int)) = true := by simp [hff]
      obtain ⟨hn, hkt⟩ := HT.out.ramCell he j 0
      have HN := hid (show BoxT (wr.setCell ⟨g0, j, none⟩ (.int .i64 0)) wb tag V { nkP p f with ram := idK (ut1 (nkP p f).kinds f) (j + 1) p.ram } by
       rw [idK_succ hjl, show ut1 (nkP p f).kinds f j p.ram[j] = 0 by unfold ut1; rw [if_pos (by rw [HX.out, HY.out]; exact ⟨.inl hgk, by omega⟩)]]
       exact hn)
      have HKK := hid (HK.out.trans hkt)
      clear hn hkt he hkl HT hgk hff hyy
      go_wp2_with fail
      exact ⟨⟨j + 1, by omega, by go_num, HN, HKK⟩, by simp [intOf]; omega⟩
     ·have hfb : ((f' : Int) == (f : Int)) = false := by simp; omega
      have HN := hid (show BoxT wr wb tag V { nkP p f with ram := idK (ut1 (nkP p f).kinds f) (j + 1) p.ram } by
       rw [idK_same hjl (by unfold ut1; rw [if_neg (by rw [HX.out, HY.out]; rintro ⟨-, h | h⟩ <;> omega)])]
       exact HT.out)
      clear he hkl HT hgk hff hyy
      go_wp2_with fail
      exact ⟨⟨j + 1, by omega, by go_num, HN, HK⟩, by simp [intOf]; omega⟩
   ·have hg3 : (kd == 3) = false := by simpa using hgk
    have hgk3 := hid hgk
    clear hgk
    by_cases hgk : kd = 4
    ·have hg4 : (kd == 4) = true := by simpa using hgk
     rcases HENT.out j y kd (by show p.ram[j]? = some y; rw [List.getElem?_eq_getElem hjl, HY.out]) HKD.out (.inr hgk) with hy0 | ⟨f', hf', hyy⟩
     ·have hy0b : (y != 0) = false := by rw [hy0]; rfl
      have HN := hid (show BoxT wr wb tag V { nkP p f with ram := idK (ut1 (nkP p f).kinds f) (j + 1) p.ram } by
       rw [idK_same hjl (by unfold ut1; rw [if_neg (by rw [HX.out, HY.out, hy0]; rintro ⟨-, h | h⟩ <;> omega)])]
       exact HT.out)
      clear he hkl HT hgk hy0
      go_wp2_with fail
      exact ⟨⟨j + 1, by omega, by go_num, HN, HK⟩, by simp [intOf]; omega⟩
     ·have hy0b : (y != 0) = true := bne_iff_ne.2 (by omega)
      have hym : y % 1024 = (f' : Int) := by omega
      have hyp : 0 ≤ y := by omega
      have hyq : y < 65536 := by omega
      by_cases hff : f' = f
      ·have hfb : ((f' : Int) == (f : Int)) = true := by simp [hff]
       obtain ⟨hn, hkt⟩ := HT.out.ramCell he j 0
       have HN := hid (show BoxT (wr.setCell ⟨g0, j, none⟩ (.int .i64 0)) wb tag V { nkP p f with ram := idK (ut1 (nkP p f).kinds f) (j + 1) p.ram } by
        rw [idK_succ hjl, show ut1 (nkP p f).kinds f j p.ram[j] = 0 by unfold ut1; rw [if_pos (by rw [HX.out, HY.out]; exact ⟨.inr hgk, by omega⟩)]]
        exact hn)
       have HKK := hid (HK.out.trans hkt)
       clear hn hkt he hkl HT hgk hff hyy
       go_wp2_with fail
       exact ⟨⟨j + 1, by omega, by go_num, HN, HKK⟩, by simp [intOf]; omega⟩
      ·have hfb : ((f' : Int) == (f : Int)) = false := by simp; omega
       have HN := hid (show BoxT wr wb tag V { nkP p f with ram := idK (ut1 (nkP p f).kinds f) (j + 1) p.ram } by
        rw [idK_same hjl (by unfold ut1; rw [if_neg (by rw [HX.out, HY.out]; rintro ⟨-, h | h⟩ <;> omega)])]
        exact HT.out)
       clear he hkl HT hgk hff hyy
       go_wp2_with fail
       exact ⟨⟨j + 1, by omega, by go_num, HN, HK⟩, by simp [intOf]; omega⟩
    ·have hg4 : (kd == 4) = false := by simpa using hgk
     have HN := hid (show BoxT wr wb tag V { nkP p f with ram := idK (ut1 (nkP p f).kinds f) (j + 1) p.ram } by
      rw [idK_same hjl (by unfold ut1; rw [if_neg (by rw [HX.out]; rintro ⟨h | h, -⟩; exact hgk3.out h; exact hgk h)])]
      exact HT.out)
     clear he hkl HT hgk
     go_wp2_with fail
     exact ⟨⟨j + 1, by omega, by go_num, HN, HK⟩, by simp [intOf]; omega⟩
  ·obtain rfl : j = p.ram.length := by omega
   have hge : ¬ ((p.ram.length : Int) < (p.ram.length : Int)) := by omega
   have B2 := hid (show BoxT wr wb tag V (utP (nkP p f) f) by unfold utP; rw [show (nkP p f).ram = p.ram from rfl, ← idK_all]; exact HT.out)
   have K2 := HK
   clear HT HK
   generalize wr = W2 at *
   have c3 : W2.cell? ⟨wb, 3, none⟩ = some (.slice (some ⟨g3, 0, none⟩) p.tasks.length cap3) := by rw [range_cell B2.out.r (k := 3) rfl, E3.out]
   go_upto_region 9 with fail
   go_loopw [6] (fun i wr => ∃ (j : Nat), j ≤ p.tasks.length ∧ i = .int .i64 j ∧ W2 = wr) (fun i _ => p.tasks.length - (intOf i).toNat)
   case atStart => exact ⟨0, by omega, rfl, rfl⟩
   case round =>
    obtain ⟨j, hj, rfl, rfl⟩ := hrel
    by_cases hjl : j < p.tasks.length
    ·have hjl2 : (j : Int) < (p.tasks.length : Int) := by omega
     go_wp2_with fail
     exact ⟨⟨j + 1, by omega, by go_num, by first | rfl | trivial⟩, by simp [intOf]; omega⟩
    ·obtain rfl : j = p.tasks.length := by omega
     have hge2 : ¬ ((p.tasks.length : Int) < (p.tasks.length : Int)) := by omega
     go_wp2_with fail
     refine (FWC.out _ _ B2.out).mono ?_
     rintro r w9 ⟨rfl, tg9, b9, k9⟩
     have B9 := hid b9
     have K9 := hid (K2.out.trans k9)
     clear b9 k9
     go_wp2_with fail
     exact bodyPost_end (results_none rfl _ _ _) rfl ⟨rfl, tg9, by rw [HR.out]; exact B9.out, K9.out⟩
set_option maxRecDepth 100000 in
set_option maxHeartbeats 8000000 in
theorem gone_3 {m : Nat} (p : PW) (f : Nat) (W : World) (wb : Nat) (tag : Nat → Nat) (V : Nat → Value) (hi : Inv p) (ht : TL p) (hk : p.kinds[f]? = some 3) (ho : opnd p 3 f = false) (bt : BoxT W wb tag V p) :
  Calls Tryz.prog 46 #[.pointer (some ⟨wb, 0, none⟩), .int .i64 f] W fun r W' => r = .returned (.tuple #[]) ∧ ∃ tag', BoxT W' wb tag' V (gnF (drR m) p 3 f) ∧ Kt tag tag' W W' := by
 obtain ⟨hf, hkf⟩ := List.getElem?_eq_some_iff.1 hk
 have h24 := hi.k24
 have hl1 : (p.kinds.length : Int) ≤ 1000 := by omega
 have hf2 : (f : Int) < (p.kinds.length : Int) := by omega
 have hl3 : (p.tasks.length : Int) ≤ 1000 := by have := hi.tasks; omega
 obtain ⟨g1, cap1, e1⟩ := bt.o.kinds.form (show 0 < p.kinds.length by omega)
 obtain ⟨g3, cap3, e3⟩ := bt.o.tasks.form (show 0 < p.tasks.length by have := hi.tasks; omega)
 have E1 := hid e1
 have E3 := hid e3
 have c1 : W.cell? ⟨wb, 1, none⟩ = some (.slice (some ⟨g1, 0, none⟩) p.kinds.length cap1) := by rw [range_cell bt.r (k := 1) rfl, e1]
 have x1 := bt.kindsAt e1 hf
 rw [hkf] at x1
 have x1f := bt.kindsFr e1 f
 obtain ⟨b1, k1⟩ := bt.kindsCell e1 f 0
 have B1 := hid (show BoxT (W.setCell ⟨g1, f, none⟩ (.int .i64 0)) wb tag V (nkP p f) from b1)
 have K1 := hid k1
 have hh := nk_inv hi hk ho
 have hlk : (nkP p f).kinds.length = p.kinds.length := List.length_set ..
 have tn : TL (nkP p f) := ht.of rfl rfl
 have h600 : (nkP p f).ram.length ≤ 600 := by have := hh.ram; omega
 have hiq := ut_inv (nk_inv7 hi hk ho (by decide)) (f : Int)
 have HENT := hid (nk_inv7 hi hk ho (by decide)).ent
 have HR := hid (show gnF (drR m) p 3 f = fwP (utP (nkP p f) f) 3 f by unfold gnF lsF; rw [if_pos (.inr rfl)])
 have FWC := hid (fun X tgx (h : BoxT X wb tgx V (utP (nkP p f) f)) => forgetWrong_any wb tgx V (utP (nkP p f) f) 3 f X h (hiq).fits ((tn.ut f : TL (utP (nkP p f) f))).len ((tn.ut f : TL (utP (nkP p f) f))).page ((tn.ut f : TL (utP (nkP p f) f))).word (by have := (hiq).ram; have := (hiq).k24; omega))
 have hl0 : (p.ram.length : Int) ≤ 1000 := by have := hi.ram; omega
 have HRM := hid hi.ram
 have HRF := hid (bt.o.ram.form (show 0 < p.ram.length by have := hi.ram; omega))
 have HLK := hid hlk
 have hf23 : (f : Int) ≤ 23 := by omega
 clear hi ht hk ho bt hf hkf h24 e1 e3 b1 k1 hh hlk tn h600 hiq
 go_enter Tryz.func46, Tryz.ntmps46
 go_upto_region 2 with fail
 generalize World.setCell _ _ _ = W1 at *
 clear c1 x1 x1f
 obtain ⟨g0, cap0, e0⟩ := HRF.out
 have E0 := hid e0
 clear e0
 go_upto_region 4 with fail
 go_loopw [5] (fun i wr => ∃ (j : Nat), j ≤ p.ram.length ∧ i = .int .i64 j ∧ Hid (BoxT wr wb tag V { nkP p f with ram := idK (ut1 (nkP p f).kinds f) j p.ram }) ∧ Hid (Kt tag tag W wr)) (fun i _ => p.ram.length - (intOf i).toNat)
 case atStart => exact ⟨0, by omega, rfl, hid (by rw [idK_zero]; exact B1.out), K1⟩
 case round =>
  obtain ⟨j, hj, rfl, HT, HK⟩ := hrel
  have c0 : wr.cell? ⟨wb, 0, none⟩ = some (.slice (some ⟨g0, 0, none⟩) p.ram.length cap0) := by rw [range_cell HT.out.r (k := 0) rfl, E0.out]
  by_cases hjl : j < p.ram.length
  ·have hjl2 : (j : Int) < (p.ram.length : Int) := by omega
   have hkl : j < (idK (ut1 (nkP p f).kinds f) j p.ram).length := by rw [idK_len]; exact hjl
   have he : V 0 = .slice (some ⟨g0, 0, none⟩) (idK (ut1 (nkP p f).kinds f) j p.ram).length cap0 := by rw [idK_len]; exact E0.out
   have xr := HT.out.ramAt he hkl
   have fr := HT.out.ramFr he j
   simp only [idK_at hjl hkl] at xr
   have hkd : j / 16 < (nkP p f).kinds.length := by rw [HLK.out]; have := HRM.out; omega
   have hkd2 : ((j : Int) / 16) = ((j / 16 : Nat) : Int) := by omega
   have hkd3 : ((j / 16 : Nat) : Int) < (p.kinds.length : Int) := by have := HLK.out; omega
   have ek : V 1 = .slice (some ⟨g1, 0, none⟩) (nkP p f).kinds.length cap1 := by rw [HLK.out]; exact E1.out
   have c1 : wr.cell? ⟨wb, 1, none⟩ = some (.slice (some ⟨g1, 0, none⟩) p.kinds.length cap1) := by rw [range_cell HT.out.r (k := 1) rfl, E1.out]
   have xk := HT.out.kindsAt ek hkd
   obtain ⟨kd, hkd0⟩ : ∃ kd, (nkP p f).kinds[j / 16] = kd := ⟨_, rfl⟩
   obtain ⟨y, hy0⟩ : ∃ y, p.ram[j] = y := ⟨_, rfl⟩
   have HX := hid (show (nkP p f).kinds.getD (j / 16) 0 = kd by rw [List.getD_eq_getElem?_getD, List.getElem?_eq_getElem hkd]; exact hkd0)
   have HKD := hid (show (nkP p f).kinds[j / 16]? = some kd by rw [List.getElem?_eq_getElem hkd, hkd0])
   have HY := hid hy0
   rw [hy0] at xr
   have xk2 : wr.cell? ⟨g1, j / 16, none⟩ = some (.int .i64 kd) := by rw [← hkd0]; exact xk
   generalize j / 16 = kq at hkd2 hkd3 xk2 ⊢
   clear xk hkd0 hy0 ek hkd
   by_cases hgk : kd = 3
   ·have hg3 : (kd == 3) = true := by simpa using hgk
    rcases HENT.out j y kd (by show p.ram[j]? = some y; rw [List.getElem?_eq_getElem hjl, HY.out]) HKD.out (.inl hgk) with hy0 | ⟨f', hf', hyy⟩
    ·have hy0b : (y != 0) = false := by rw [hy0]; rfl
     have HN := hid (show BoxT wr wb tag V { nkP p f with ram := idK (ut1 (nkP p f).kinds f) (j + 1) p.ram } by
      rw [idK_same hjl (by unfold ut1; rw [if_neg (by rw [HX.out, HY.out, hy0]; rintro ⟨-, h | h⟩ <;> omega)])]
      exact HT.out)
     clear he hkl HT hgk hy0
     go_wp2_with fail
     exact ⟨⟨j + 1, by omega, by go_num, HN, HK⟩, by simp [intOf]; omega⟩
    ·have hy0b : (y != 0) = true := bne_iff_ne.2 (by omega)
     have hym : y % 1024 = (f' : Int) := by omega
     have hyp : 0 ≤ y := by omega
     have hyq : y < 65536 := by omega
     by_cases hff : f' = f
     ·have hfb : ((f' : Int) == (f : Int)) = true := by simp [hff]
      obtain ⟨hn, hkt⟩ := HT.out.ramCell he j 0
      have HN := hid (show BoxT (wr.setCell ⟨g0, j, none⟩ (.int .i64 0)) wb tag V { nkP p f with ram := idK (ut1 (nkP p f).kinds f) (j + 1) p.ram } by
       rw [idK_succ hjl, show ut1 (nkP p f).kinds f j p.ram[j] = 0 by unfold ut1; rw [if_pos (by rw [HX.out, HY.out]; exact ⟨.inl hgk, by omega⟩)]]
       exact hn)
      have HKK := hid (HK.out.trans hkt)
      clear hn hkt he hkl HT hgk hff hyy
      go_wp2_with fail
      exact ⟨⟨j + 1, by omega, by go_num, HN, HKK⟩, by simp [intOf]; omega⟩
     ·have hfb : ((f' : Int) == (f : Int)) = false := by simp; omega
      have HN := hid (show BoxT wr wb tag V { nkP p f with ram := idK (ut1 (nkP p f).kinds f) (j + 1) p.ram } by
       rw [idK_same hjl (by unfold ut1; rw [if_neg (by rw [HX.out, HY.out]; rintro ⟨-, h | h⟩ <;> omega)])]
       exact HT.out)
      clear he hkl HT hgk hff hyy
      go_wp2_with fail
      exact ⟨⟨j + 1, by omega, by go_num, HN, HK⟩, by simp [intOf]; omega⟩
   ·have hg3 : (kd == 3) = false := by simpa using hgk
    have hgk3 := hid hgk
    clear hgk
    by_cases hgk : kd = 4
    ·have hg4 : (kd == 4) = true := by simpa using hgk
     rcases HENT.out j y kd (by show p.ram[j]? = some y; rw [List.getElem?_eq_getElem hjl, HY.out]) HKD.out (.inr hgk) with hy0 | ⟨f', hf', hyy⟩
     ·have hy0b : (y != 0) = false := by rw [hy0]; rfl
      have HN := hid (show BoxT wr wb tag V { nkP p f with ram := idK (ut1 (nkP p f).kinds f) (j + 1) p.ram } by
       rw [idK_same hjl (by unfold ut1; rw [if_neg (by rw [HX.out, HY.out, hy0]; rintro ⟨-, h | h⟩ <;> omega)])]
       exact HT.out)
      clear he hkl HT hgk hy0
      go_wp2_with fail
      exact ⟨⟨j + 1, by omega, by go_num, HN, HK⟩, by simp [intOf]; omega⟩
     ·have hy0b : (y != 0) = true := bne_iff_ne.2 (by omega)
      have hym : y % 1024 = (f' : Int) := by omega
      have hyp : 0 ≤ y := by omega
      have hyq : y < 65536 := by omega
      by_cases hff : f' = f
      ·have hfb : ((f' : Int) == (f : Int)) = true := by simp [hff]
       obtain ⟨hn, hkt⟩ := HT.out.ramCell he j 0
       have HN := hid (show BoxT (wr.setCell ⟨g0, j, none⟩ (.int .i64 0)) wb tag V { nkP p f with ram := idK (ut1 (nkP p f).kinds f) (j + 1) p.ram } by
        rw [idK_succ hjl, show ut1 (nkP p f).kinds f j p.ram[j] = 0 by unfold ut1; rw [if_pos (by rw [HX.out, HY.out]; exact ⟨.inr hgk, by omega⟩)]]
        exact hn)
       have HKK := hid (HK.out.trans hkt)
       clear hn hkt he hkl HT hgk hff hyy
       go_wp2_with fail
       exact ⟨⟨j + 1, by omega, by go_num, HN, HKK⟩, by simp [intOf]; omega⟩
      ·have hfb : ((f' : Int) == (f : Int)) = false := by simp; omega
       have HN := hid (show BoxT wr wb tag V { nkP p f with ram := idK (ut1 (nkP p f).kinds f) (j + 1) p.ram } by
        rw [idK_same hjl (by unfold ut1; rw [if_neg (by rw [HX.out, HY.out]; rintro ⟨-, h | h⟩ <;> omega)])]
        exact HT.out)
       clear he hkl HT hgk hff hyy
       go_wp2_with fail
       exact ⟨⟨j + 1, by omega, by go_num, HN, HK⟩, by simp [intOf]; omega⟩
    ·have hg4 : (kd == 4) = false := by simpa using hgk
     have HN := hid (show BoxT wr wb tag V { nkP p f with ram := idK (ut1 (nkP p f).kinds f) (j + 1) p.ram } by
      rw [idK_same hjl (by unfold ut1; rw [if_neg (by rw [HX.out]; rintro ⟨h | h, -⟩; exact hgk3.out h; exact hgk h)])]
      exact HT.out)
     clear he hkl HT hgk
     go_wp2_with fail
     exact ⟨⟨j + 1, by omega, by go_num, HN, HK⟩, by simp [intOf]; omega⟩
  ·obtain rfl : j = p.ram.length := by omega
   have hge : ¬ ((p.ram.length : Int) < (p.ram.length : Int)) := by omega
   have B2 := hid (show BoxT wr wb tag V (utP (nkP p f) f) by unfold utP; rw [show (nkP p f).ram = p.ram from rfl, ← idK_all]; exact HT.out)
   have K2 := HK
   clear HT HK
   generalize wr = W2 at *
   have c3 : W2.cell? ⟨wb, 3, none⟩ = some (.slice (some ⟨g3, 0, none⟩) p.tasks.length cap3) := by rw [range_cell B2.out.r (k := 3) rfl, E3.out]
   go_upto_region 9 with fail
   go_loopw [6] (fun i wr => ∃ (j : Nat), j ≤ p.tasks.length ∧ i = .int .i64 j ∧ W2 = wr) (fun i _ => p.tasks.length - (intOf i).toNat)
   case atStart => exact ⟨0, by omega, rfl, rfl⟩
   case round =>
    obtain ⟨j, hj, rfl, rfl⟩ := hrel
    by_cases hjl : j < p.tasks.length
    ·have hjl2 : (j : Int) < (p.tasks.length : Int) := by omega
     go_wp2_with fail
     exact ⟨⟨j + 1, by omega, by go_num, by first | rfl | trivial⟩, by simp [intOf]; omega⟩
    ·obtain rfl : j = p.tasks.length := by omega
     have hge2 : ¬ ((p.tasks.length : Int) < (p.tasks.length : Int)) := by omega
     go_wp2_with fail
     refine (FWC.out _ _ B2.out).mono ?_
     rintro r w9 ⟨rfl, tg9, b9, k9⟩
     have B9 := hid b9
     have K9 := hid (K2.out.trans k9)
     clear b9 k9
     go_wp2_with fail
     exact bodyPost_end (results_none rfl _ _ _) rfl ⟨rfl, tg9, by rw [HR.out]; exact B9.out, K9.out⟩
set_option maxRecDepth 100000 in
set_option maxHeartbeats 8000000 in
theorem gone_5 {m : Nat} (hd : RefAt m) (p : PW) (f : Nat) (W : World) (wb : Nat) (tag : Nat → Nat) (V : Nat → Value) (hi : Inv p) (ht : TL p) (hk : p.kinds[f]? = some 5) (ho : opnd p 5 f = false) (hn : nds p < m + 1) (bt : BoxT W wb tag V p) :
  Calls Tryz.prog 46 #[.pointer (some ⟨wb, 0, none⟩), .int .i64 f] W fun r W' => r = .returned (.tuple #[]) ∧ ∃ tag', BoxT W' wb tag' V (gnF (drR m) p 5 f) ∧ Kt tag tag' W W' := by
 obtain ⟨hf, hkf⟩ := List.getElem?_eq_some_iff.1 hk
 have h24 := hi.k24
 have hl1 : (p.kinds.length : Int) ≤ 1000 := by omega
 have hf2 : (f : Int) < (p.kinds.length : Int) := by omega
 have hl3 : (p.tasks.length : Int) ≤ 1000 := by have := hi.tasks; omega
 obtain ⟨g1, cap1, e1⟩ := bt.o.kinds.form (show 0 < p.kinds.length by omega)
 obtain ⟨g3, cap3, e3⟩ := bt.o.tasks.form (show 0 < p.tasks.length by have := hi.tasks; omega)
 have E1 := hid e1
 have E3 := hid e3
 have c1 : W.cell? ⟨wb, 1, none⟩ = some (.slice (some ⟨g1, 0, none⟩) p.kinds.length cap1) := by rw [range_cell bt.r (k := 1) rfl, e1]
 have x1 := bt.kindsAt e1 hf
 rw [hkf] at x1
 have x1f := bt.kindsFr e1 f
 obtain ⟨b1, k1⟩ := bt.kindsCell e1 f 0
 have B1 := hid (show BoxT (W.setCell ⟨g1, f, none⟩ (.int .i64 0)) wb tag V (nkP p f) from b1)
 have K1 := hid k1
 have hh := nk_inv hi hk ho
 have hlk : (nkP p f).kinds.length = p.kinds.length := List.length_set ..
 have tn : TL (nkP p f) := ht.of rfl rfl
 have h600 : (nkP p f).ram.length ≤ 600 := by have := hh.ram; omega
 have hiq := fg_full (nk_inv7 hi hk ho (by decide)) 11 (by decide) (f : Int)
 have hc2 : nds (nkP p f) + 1 = nds p := (cnt_set p.kinds f).2 hk
 have HR := hid (show gnF (drR m) p 5 f = fwP (daF (drR m) f 16 (fgP 11 (nkP p f) f)) 5 f by unfold gnF lsF; rw [if_neg (by decide), if_neg (by decide), if_pos rfl])
 have HFL := hid (show f * 16 + 16 ≤ p.slots.length by have := hi.slots; omega)
 have hf23 : (f : Int) ≤ 23 := by omega
 have HD := hid hd
 have HI0 := hid (show Inv (fgP 11 (nkP p f) f) ∧ TL (fgP 11 (nkP p f) f) ∧ nds (fgP 11 (nkP p f) f) < m from ⟨hiq, tn.of rfl rfl, by show nds (nkP p f) < m; omega⟩)
 have FWC := hid (fun X tgx q (h : BoxT X wb tgx V q) (h1 : Inv q) (h2 : TL q) => forgetWrong_any wb tgx V q 5 f X h h1.fits h2.len h2.page h2.word (by have := h1.ram; have := h1.k24; omega))
 clear hi ht hk ho bt hf hkf h24 e1 e3 b1 k1 hh hlk tn h600 hiq hc2 hd hn
 go_enter Tryz.func46, Tryz.ntmps46
 go_upto_region 2 with fail
 generalize World.setCell _ _ _ = W1 at *
 clear c1 x1 x1f
 go_upto_region 9 with fail
 go_loopw [6] (fun i wr => ∃ (j : Nat), j ≤ p.tasks.length ∧ i = .int .i64 j ∧ Hid (BoxT wr wb tag V { nkP p f with tasks := mapK (fg1 11 f) j p.tasks }) ∧ Hid (Kt tag tag W wr)) (fun i _ => p.tasks.length - (intOf i).toNat)
 case atStart => exact ⟨0, by omega, rfl, hid (by rw [mapK_zero]; exact B1.out), K1⟩
 case round =>
  obtain ⟨j, hj, rfl, HT, HK⟩ := hrel
  have c3 : wr.cell? ⟨wb, 3, none⟩ = some (.slice (some ⟨g3, 0, none⟩) p.tasks.length cap3) := by rw [range_cell HT.out.r (k := 3) rfl, E3.out]
  by_cases hjl : j < p.tasks.length
  ·have hjl2 : (j : Int) < (p.tasks.length : Int) := by omega
   have hkl : j < (mapK (fg1 11 f) j p.tasks).length := by rw [mapK_len]; exact hjl
   have he : V 3 = .slice (some ⟨g3, 0, none⟩) (mapK (fg1 11 f) j p.tasks).length cap3 := by rw [mapK_len]; exact E3.out
   have xc := HT.out.tasksAt he hkl (show 11 < 20 by omega)
   have fc := HT.out.tasksFr he (j * 20 + 11)
   simp only [mapK_at (fg1 11 f) j p.tasks hjl hkl] at xc
   by_cases h6 : p.tasks[j] 11 = f
   ·obtain ⟨hn, hkt⟩ := HT.out.tasksCell he hkl (show 11 < 20 by omega) (-1)
    have HN := hid (show BoxT (wr.setCell ⟨g3, j * 20 + 11, none⟩ (.int .i64 (-1))) wb tag V { nkP p f with tasks := mapK (fg1 11 f) (j + 1) p.tasks } by
     rw [mapK_succ (fg1 11 f) j p.tasks hjl, show fg1 11 f p.tasks[j] = upd p.tasks[j] 11 (-1) from if_pos h6, ← mapK_at (fg1 11 f) j p.tasks hjl hkl]
     exact hn)
    have HKK := hid (HK.out.trans hkt)
    rw [h6] at xc
    clear hn hkt he h6 hkl HT
    go_wp2_with fail
    exact ⟨⟨j + 1, by omega, by go_num, HN, HKK⟩, by simp [intOf]; omega⟩
   ·have HN := hid (show BoxT wr wb tag V { nkP p f with tasks := mapK (fg1 11 f) (j + 1) p.tasks } by
     rw [mapK_succ (fg1 11 f) j p.tasks hjl, show fg1 11 f p.tasks[j] = p.tasks[j] from if_neg h6, ← mapK_at (fg1 11 f) j p.tasks hjl hkl, List.set_getElem_self]
     exact HT.out)
    have h6b : (p.tasks[j] 11 == (f : Int)) = false := by simpa using h6
    generalize p.tasks[j] 11 = y at xc h6b
    clear he h6 hkl HT fc
    go_wp2_with fail
    exact ⟨⟨j + 1, by omega, by go_num, HN, HK⟩, by simp [intOf]; omega⟩
  ·obtain rfl : j = p.tasks.length := by omega
   have hge2 : ¬ ((p.tasks.length : Int) < (p.tasks.length : Int)) := by omega
   have B2 := hid (show BoxT wr wb tag V (fgP 11 (nkP p f) f) by unfold fgP; rw [show (nkP p f).tasks = p.tasks from rfl, ← mapK_all]; exact HT.out)
   have K2 := HK
   clear HT
   generalize hq0 : fgP 11 (nkP p f) f = q0 at *
   have HSL0 := hid (show q0.slots.length = p.slots.length by rw [← hq0]; rfl)
   clear hq0
   go_upto_region 19 with fail
   go_loopw [7] (fun i wr => ∃ (a : Nat) (v : Int), i = .int .i64 v ∧ Hid (v = (a : Int) - 1 ∧ a ≤ 16 ∧ ∃ q tg, BoxT wr wb tg V q ∧ Kt tag tg W wr ∧ Inv q ∧ TL q ∧ nds q < m ∧ q.slots.length = p.slots.length ∧ daF (drR m) f a q = daF (drR m) f 16 q0)) (fun i _ => (intOf i + 1).toNat)
   case atStart => exact ⟨16, 15, rfl, hid ⟨rfl, Nat.le_refl _, q0, tag, B2.out, K2.out, HI0.out.1, HI0.out.2.1, HI0.out.2.2, HSL0.out, rfl⟩⟩
   case round =>
    obtain ⟨a, v, rfl, HH⟩ := hrel
    obtain ⟨hv, ha, q, tg, bt, kt, hi, htl, hn, hlen, hR⟩ := HH.out
    cases a with
    | zero =>
     obtain rfl : v = -1 := by omega
     have HB := hid bt
     have HK5 := hid kt
     have HRR := hid (show daF (drR m) f 16 q0 = q by rw [← hR, da_zero])
     have FW2 := hid (FWC.out _ tg q bt hi htl)
     clear bt kt hi hn hlen hR hv ha HH htl
     go_wp2_with fail
     refine FW2.out.mono ?_
     rintro r w9 ⟨rfl, tg9, b9, k9⟩
     have B9 := hid b9
     have K9 := hid (HK5.out.trans k9)
     clear b9 k9
     go_wp2_with fail
     exact bodyPost_end (results_none rfl _ _ _) rfl ⟨rfl, tg9, by rw [HR.out, HRR.out]; exact B9.out, K9.out⟩
    | succ a =>
     obtain rfl : v = (a : Int) := by omega
     obtain ⟨sl, hsl0⟩ : ∃ sl : Nat, f * 16 + a = sl := ⟨_, rfl⟩
     have hsl : (f : Int) * 16 + (a : Int) = (sl : Int) := by omega
     have hslt : sl < q.slots.length := by have := HFL.out; omega
     have ha0 : 0 ≤ (a : Int) := by omega
     have ha1 : (a : Int) ≤ 15 := by omega
     have HK5 := hid kt
     have HC := hid (HD.out q sl wr wb tg V hn hi htl hslt bt)
     have HI := hid (show (Inv (if (q.slots.getD sl eS) 0 = 0 then q else drR m q sl) ∧ TL (if (q.slots.getD sl eS) 0 = 0 then q else drR m q sl) ∧ nds (if (q.slots.getD sl eS) 0 = 0 then q else drR m q sl) < m ∧ (if (q.slots.getD sl eS) 0 = 0 then q else drR m q sl).slots.length = p.slots.length ∧ daF (drR m) f a (if (q.slots.getD sl eS) 0 = 0 then q else drR m q sl) = daF (drR m) f 16 q0) from by
      refine ⟨?_, ?_, ?_, ?_, by rw [← hR, da_succ, hsl0]⟩
      all_goals by_cases h0 : (q.slots.getD sl eS) 0 = 0
      ·rw [if_pos h0]; exact hi
      ·rw [if_neg h0]; exact ((rr_inv m).1 q sl hn hi hslt h0).1
      ·rw [if_pos h0]; exact htl
      ·rw [if_neg h0]; exact (rr_inv m).2 q sl hn hi hslt h0 htl
      ·rw [if_pos h0]; exact hn
      ·rw [if_neg h0]; have := ((rr_inv m).1 q sl hn hi hslt h0).2.1; omega
      ·rw [if_pos h0]; exact hlen
      ·rw [if_neg h0]
       obtain ⟨i1, -, i3⟩ := (rr_inv m).1 q sl hn hi hslt h0
       rw [i1.slots, i3, ← hi.slots]; exact hlen)
     generalize (if (q.slots.getD sl eS) 0 = 0 then q else drR m q sl) = qq at HC HI
     generalize (if (q.slots.getD sl eS) 0 = 0 then (6 : Int) else 0) = ee at HC
     clear bt kt hi hn hlen hR hv ha HH hslt hsl0 htl
     go_wp2_with fail
     refine HC.out.mono ?_
     rintro r w1 ⟨rfl, tg2, b2, k2⟩
     have HN := hid (show (a ≤ 16 ∧ ∃ q tg, BoxT w1 wb tg V q ∧ Kt tag tg W w1 ∧ Inv q ∧ TL q ∧ nds q < m ∧ q.slots.length = p.slots.length ∧ daF (drR m) f a q = daF (drR m) f 16 q0) from ⟨by omega, qq, tg2, b2, HK5.out.trans k2, HI.out.1, HI.out.2.1, HI.out.2.2.1, HI.out.2.2.2.1, HI.out.2.2.2.2⟩)
     clear b2 k2
     go_wp2_with fail
     exact ⟨⟨a, (a : Int) - 1, by first | rfl | go_num, hid ⟨rfl, HN.out⟩⟩, by simp [intOf] <;> omega⟩
theorem st_owes (p : PW) (t : Nat) (ht : t < p.tasks.length) : (stP p t).tasks.getD t bl 17 = if p.tasks.getD t bl 17 = t then -1 else p.tasks.getD t bl 17 := by
 unfold stP
 rw [task_getD _ t 14 17 _ (by rw [PW.task_len]; show t < (p.tasks.map (nOw t)).length; rw [List.length_map]; exact ht), if_neg (by decide), task_getD _ t 9 17 _ (by show t < (p.tasks.map (nOw t)).length; rw [List.length_map]; exact ht), if_neg (by decide)]
 show (p.tasks.map (nOw t)).getD t bl 17 = _
 rw [map_getD p t (nOw t) ht]
 unfold nOw
 by_cases e : p.tasks.getD t bl 17 = t
 ·rw [if_pos e, if_pos e]; exact if_pos rfl
 ·rw [if_neg e, if_neg e]
theorem et_self (q : PW) (t : Nat) : ({ q.task t 9 0 with tasks := (q.task t 9 0).tasks.set t bl } : PW) = { q with tasks := q.tasks.set t bl } := by
 unfold PW.task
 simp only [List.set_set]
set_option maxRecDepth 100000 in
set_option maxHeartbeats 8000000 in
theorem gone_6 {m : Nat} (p : PW) (f : Nat) (W : World) (wb : Nat) (tag : Nat → Nat) (V : Nat → Value) (hi : Inv p) (ht : TL p) (hk : p.kinds[f]? = some 6) (ho : opnd p 6 f = false) (bt : BoxT W wb tag V p) :
  Calls Tryz.prog 46 #[.pointer (some ⟨wb, 0, none⟩), .int .i64 f] W fun r W' => r = .returned (.tuple #[]) ∧ ∃ tag', BoxT W' wb tag' V (gnF (drR m) p 6 f) ∧ Kt tag tag' W W' := by
 obtain ⟨hf, hkf⟩ := List.getElem?_eq_some_iff.1 hk
 have h24 := hi.k24
 have hl1 : (p.kinds.length : Int) ≤ 1000 := by omega
 have hf2 : (f : Int) < (p.kinds.length : Int) := by omega
 have hl3 : (p.tasks.length : Int) ≤ 1000 := by have := hi.tasks; omega
 obtain ⟨g1, cap1, e1⟩ := bt.o.kinds.form (show 0 < p.kinds.length by omega)
 obtain ⟨g3, cap3, e3⟩ := bt.o.tasks.form (show 0 < p.tasks.length by have := hi.tasks; omega)
 have E1 := hid e1
 have E3 := hid e3
 have c1 : W.cell? ⟨wb, 1, none⟩ = some (.slice (some ⟨g1, 0, none⟩) p.kinds.length cap1) := by rw [range_cell bt.r (k := 1) rfl, e1]
 have x1 := bt.kindsAt e1 hf
 rw [hkf] at x1
 have x1f := bt.kindsFr e1 f
 obtain ⟨b1, k1⟩ := bt.kindsCell e1 f 0
 have B1 := hid (show BoxT (W.setCell ⟨g1, f, none⟩ (.int .i64 0)) wb tag V (nkP p f) from b1)
 have K1 := hid k1
 have hh := nk_inv hi hk ho
 have hlk : (nkP p f).kinds.length = p.kinds.length := List.length_set ..
 have tn : TL (nkP p f) := ht.of rfl rfl
 have h600 : (nkP p f).ram.length ≤ 600 := by have := hh.ram; omega
 have hiq := et_inv (nk_inv7 hi hk ho (by decide)) f
 have HR := hid (show gnF (drR m) p 6 f = fwP (etP (nkP p f) f) 6 f by unfold gnF lsF; rw [if_neg (by decide), if_neg (by decide), if_neg (by decide), if_pos rfl])
 have FWC := hid (fun X tgx (h : BoxT X wb tgx V (etP (nkP p f) f)) => forgetWrong_any wb tgx V (etP (nkP p f) f) 6 f X h (hiq).fits ((tn.of (et_tl (nkP p f) f).1 (et_tl (nkP p f) f).2 : TL (etP (nkP p f) f))).len ((tn.of (et_tl (nkP p f) f).1 (et_tl (nkP p f) f).2 : TL (etP (nkP p f) f))).page ((tn.of (et_tl (nkP p f) f).1 (et_tl (nkP p f) f).2 : TL (etP (nkP p f) f))).word (by have := (hiq).ram; have := (hiq).k24; omega))
 have htl : f < p.tasks.length := by rw [hi.tasks]; exact hf
 have HTT := hid htl
 have HST := hid (fun X (h : BoxT X wb tag V (nkP p f)) => stopped_ref wb tag V (nkP p f) f X h hh.fits htl)
 have LS := hid (show (stP (nkP p f) f).tasks.length = p.tasks.length from st_len (nkP p f) f)
 have hso := st_owes (nkP p f) f htl
 obtain ⟨ow, how⟩ : ∃ ow, p.tasks.getD f bl 17 = ow := ⟨_, rfl⟩
 have how2 : (nkP p f).tasks.getD f bl 17 = ow := how
 rw [how2] at hso
 have HEQ := hid (show etP (nkP p f) f = { (if ow = -1 then stP (nkP p f) f else (stP (nkP p f) f).task ow.toNat 9 0) with tasks := (if ow = -1 then stP (nkP p f) f else (stP (nkP p f) f).task ow.toNat 9 0).tasks.set f bl } by unfold etP; rw [how2])
 have HOW := hid (show ow = -1 ∨ ∃ u : Nat, ow = u ∧ u < p.tasks.length from by
  have h1 := hi.owes (p.tasks.getD f bl) (by rw [List.getD_eq_getElem?_getD, List.getElem?_eq_getElem htl]; exact List.getElem_mem htl)
  rw [how] at h1
  exact h1)
 have HSO := hid hso
 clear hi ht hk ho bt hf hkf h24 e1 e3 b1 k1 hh hlk tn h600 hiq htl hso how how2
 go_enter Tryz.func46, Tryz.ntmps46
 go_upto_region 2 with fail
 generalize World.setCell _ _ _ = W1 at *
 clear c1 x1 x1f
 have c3 : W1.cell? ⟨wb, 3, none⟩ = some (.slice (some ⟨g3, 0, none⟩) p.tasks.length cap3) := by rw [range_cell B1.out.r (k := 3) rfl, E3.out]
 go_upto_region 9 with fail
 go_loopw [6] (fun i wr => ∃ (j : Nat), j ≤ p.tasks.length ∧ i = .int .i64 j ∧ W1 = wr) (fun i _ => p.tasks.length - (intOf i).toNat)
 case atStart => exact ⟨0, by omega, rfl, rfl⟩
 case round =>
  obtain ⟨j, hj, rfl, rfl⟩ := hrel
  by_cases hjl : j < p.tasks.length
  ·have hjl2 : (j : Int) < (p.tasks.length : Int) := by omega
   go_wp2_with fail
   exact ⟨⟨j + 1, by omega, by go_num, by first | rfl | trivial⟩, by simp [intOf]; omega⟩
  ·obtain rfl : j = p.tasks.length := by omega
   have hge2 : ¬ ((p.tasks.length : Int) < (p.tasks.length : Int)) := by omega
   go_wp2_with fail
   refine (HST.out _ B1.out).mono ?_
   rintro r w7 ⟨rfl, tg9, b7, k7⟩
   have B7 := hid b7
   have K7 := hid (K1.out.trans k7)
   clear b7 k7 HST c3
   have he7 : V 3 = .slice (some ⟨g3, 0, none⟩) (stP (nkP p f) f).tasks.length cap3 := by rw [LS.out]; exact E3.out
   have c3 : w7.cell? ⟨wb, 3, none⟩ = some (.slice (some ⟨g3, 0, none⟩) p.tasks.length cap3) := by rw [range_cell B7.out.r (k := 3) rfl, E3.out]
   have hff : (f : Int) < (p.tasks.length : Int) := by have := HTT.out; omega
   have x17 := B7.out.taskAt he7 (i := f) (by rw [LS.out]; exact HTT.out) (show 17 < 20 by omega)
   rw [HSO.out] at x17
   by_cases hno : ow = -1 ∨ ow = f
   ·have hx : (if ow = (f : Int) then (-1 : Int) else ow) = -1 := by
     rcases hno with h | h
     ·rw [h]; split <;> rfl
     ·rw [if_pos h]
    rw [hx] at x17
    have HQQ := hid (show etP (nkP p f) f = { stP (nkP p f) f with tasks := (stP (nkP p f) f).tasks.set f bl } by
     rw [HEQ.out]
     rcases hno with h | h
     ·rw [if_pos h]
     ·rw [if_neg (by rw [h]; omega), h, Int.toNat_natCast]; exact et_self _ f)
    have LQ := LS
    generalize stP (nkP p f) f = qq at *
    have B9 := B7
    have KT9 := K7
    generalize w7 = w9 at *
    clear hno hx he7 HSO HEQ HOW
    go_upto_region 27 with fail
    clear c3 x17
    have he : V 3 = .slice (some ⟨g3, 0, none⟩) qq.tasks.length cap3 := by rw [LQ.out]; exact E3.out
    have BD : Hid (Below w9.heap.size w9 w9.drew) := hid (below_drew w9 1)
    have KS := hid (fun X (h : Below w9.heap.size w9 X) => show X.cell? ⟨wb, 3, none⟩ = some (.slice (some ⟨g3, 0, none⟩) p.tasks.length cap3) from by rw [range_cell (B9.out.below h).r (k := 3) rfl, E3.out])
    have ROW := hid (fun X (h : Below w9.heap.size w9 X) => (B9.out.below h).tasksRow he (i := f) (by rw [LQ.out]; exact HTT.out) bl)
    have THR := hid (fun X (h : Below w9.heap.size w9 X) => (B9.out.below h).tasksThere he (f * 20) 20 (by have := HTT.out; rw [LQ.out]; omega))
    clear he
    refine wp_region_held_drew (S := fun X => X.cell? ⟨wb, 3, none⟩ = some (.slice (some ⟨g3, 0, none⟩) p.tasks.length cap3)) (by kernel_rfl) (KS.out _ BD.out) (fun hH0 => ?_)
    have hH := hid hH0
    clear hH0
    refine tk 0 (.pointer (some ⟨wb, 0, none⟩)) rfl hH.out ?_
    simp only [jj]
    refine tk 1 (.pointer (some ⟨wb, 0, none⟩)) rfl hH.out ?_
    simp only [jj]
    refine tk 2 (.pointer (some ⟨wb, 3, none⟩)) rfl hH.out ?_
    simp only [jj]
    refine Mem.tg 3 (.slice (some ⟨g3, 0, none⟩) p.tasks.length cap3) rfl (Or.inl ⟨by rfl, fun W h => by have h3 := h; clear h; go_simp⟩) hH.out ?_
    simp only [jj]
    refine tk 4 (.int .i64 f) rfl hH.out ?_
    simp only [jj]
    refine wpAnyH_ready (rs := [5]) (by kernel_rfl) (by simp) (AllReadyH.cons rfl (fun K hK => ?_) AllReadyH.nil)
    go_simp
    refine (blank_ref _).mono ?_
    rintro q x1 ⟨rfl, hb⟩
    have A1 := hid (btr BD.out hb)
    clear hb
    go_wp2_with fail
    refine hK.out _ _ (KS.out _ A1.out) (fun hH0 => ?_)
    have hH2 := hid hH0
    clear hK K hH0
    try simp only [Act.put, jD, jE, jF]
    refine tk 6 (.pointer (some ⟨g3, f * 20, none⟩)) rfl hH2.out ?_
    simp only [jj]
    obtain ⟨b1, k1⟩ := ROW.out _ A1.out
    have BX := hid b1
    have KX := hid (KT9.out.trans ((Kt.below A1.out : Kt tg9 tg9 w9 x1).trans k1))
    have SX := hid (show (x1.setCells g3 (f * 20) (cf 20 bl)).cell? ⟨wb, 3, none⟩ = some (.slice (some ⟨g3, 0, none⟩) p.tasks.length cap3) from by rw [range_cell BX.out.r (k := 3) rfl, E3.out])
    clear b1 k1
    refine wpAnyH_ready (rs := [7]) (by kernel_rfl) (by simp) (AllReadyH.cons rfl (fun K hK => ?_) AllReadyH.nil)
    refine wp_store_mid 85 _ _ rfl g3 (f * 20) (cf 20 bl).toArray rfl rfl (by rw [List.size_toArray, cf_len]; exact THR.out _ A1.out) (by rw [info20]; rfl) (all_oneCell_toArray (cf_one 20 _)) ?_
    refine hK.out _ _ SX.out (fun _ => ?_)
    clear hK K hH hH2
    try simp only [Act.put]
    refine wpAnyH_done (by kernel_rfl) ?_ _
    clear KS ROW THR SX BD A1
    generalize World.setCells _ _ _ _ = WX at *
    rw [← HQQ.out] at BX
    go_wp2_with fail
    refine (FWC.out _ _ BX.out).mono ?_
    rintro r w8 ⟨rfl, tg8, b8, k8⟩
    have B8 := hid b8
    have K8 := hid (KX.out.trans k8)
    clear b8 k8
    go_wp2_with fail
    exact bodyPost_end (results_none rfl _ _ _) rfl ⟨rfl, tg8, by rw [HR.out]; exact B8.out, K8.out⟩
   ·obtain ⟨u, hu, hut⟩ : ∃ u : Nat, ow = u ∧ u < p.tasks.length := by
     rcases HOW.out with h | h
     ·exact absurd (.inl h) hno
     ·exact h
    have hx : (if ow = (f : Int) then (-1 : Int) else ow) = u := by rw [if_neg (fun h => hno (.inr h)), hu]
    rw [hx] at x17
    have HQQ := hid (show etP (nkP p f) f = { (stP (nkP p f) f).task u 9 0 with tasks := ((stP (nkP p f) f).task u 9 0).tasks.set f bl } by rw [HEQ.out, if_neg (fun h => hno (.inl h)), hu, Int.toNat_natCast])
    have hu2 : (u : Int) < (p.tasks.length : Int) := by omega
    have hu0 : 0 ≤ (u : Int) := by omega
    have xa := B7.out.taskAt he7 (i := u) (by rw [LS.out]; exact hut) (show 9 < 20 by omega)
    have fa := B7.out.tasksFr he7 (u * 20 + 9)
    obtain ⟨h1, h2⟩ := B7.out.task he7 (i := u) (by rw [LS.out]; exact hut) (show 9 < 20 by omega) 0
    have B9 := hid h1
    have KT9 := hid (K7.out.trans h2)
    have LQ := hid (show ((stP (nkP p f) f).task u 9 0).tasks.length = p.tasks.length by rw [PW.task_len]; exact LS.out)
    clear h1 h2 he7 hno hx HSO HEQ HOW hu hut
    go_upto_region 27 with fail
    generalize World.setCell _ _ _ = w9 at *
    generalize (stP (nkP p f) f).task u 9 0 = qq at *
    clear c3 x17 xa fa B7 K7
    have he : V 3 = .slice (some ⟨g3, 0, none⟩) qq.tasks.length cap3 := by rw [LQ.out]; exact E3.out
    have BD : Hid (Below w9.heap.size w9 w9.drew) := hid (below_drew w9 1)
    have KS := hid (fun X (h : Below w9.heap.size w9 X) => show X.cell? ⟨wb, 3, none⟩ = some (.slice (some ⟨g3, 0, none⟩) p.tasks.length cap3) from by rw [range_cell (B9.out.below h).r (k := 3) rfl, E3.out])
    have ROW := hid (fun X (h : Below w9.heap.size w9 X) => (B9.out.below h).tasksRow he (i := f) (by rw [LQ.out]; exact HTT.out) bl)
    have THR := hid (fun X (h : Below w9.heap.size w9 X) => (B9.out.below h).tasksThere he (f * 20) 20 (by have := HTT.out; rw [LQ.out]; omega))
    clear he
    refine wp_region_held_drew (S := fun X => X.cell? ⟨wb, 3, none⟩ = some (.slice (some ⟨g3, 0, none⟩) p.tasks.length cap3)) (by kernel_rfl) (KS.out _ BD.out) (fun hH0 => ?_)
    have hH := hid hH0
    clear hH0
    refine tk 0 (.pointer (some ⟨wb, 0, none⟩)) rfl hH.out ?_
    simp only [jj]
    refine tk 1 (.pointer (some ⟨wb, 0, none⟩)) rfl hH.out ?_
    simp only [jj]
    refine tk 2 (.pointer (some ⟨wb, 3, none⟩)) rfl hH.out ?_
    simp only [jj]
    refine Mem.tg 3 (.slice (some ⟨g3, 0, none⟩) p.tasks.length cap3) rfl (Or.inl ⟨by rfl, fun W h => by have h3 := h; clear h; go_simp⟩) hH.out ?_
    simp only [jj]
    refine tk 4 (.int .i64 f) rfl hH.out ?_
    simp only [jj]
    refine wpAnyH_ready (rs := [5]) (by kernel_rfl) (by simp) (AllReadyH.cons rfl (fun K hK => ?_) AllReadyH.nil)
    go_simp
    refine (blank_ref _).mono ?_
    rintro q x1 ⟨rfl, hb⟩
    have A1 := hid (btr BD.out hb)
    clear hb
    go_wp2_with fail
    refine hK.out _ _ (KS.out _ A1.out) (fun hH0 => ?_)
    have hH2 := hid hH0
    clear hK K hH0
    try simp only [Act.put, jD, jE, jF]
    refine tk 6 (.pointer (some ⟨g3, f * 20, none⟩)) rfl hH2.out ?_
    simp only [jj]
    obtain ⟨b1, k1⟩ := ROW.out _ A1.out
    have BX := hid b1
    have KX := hid (KT9.out.trans ((Kt.below A1.out : Kt tg9 tg9 w9 x1).trans k1))
    have SX := hid (show (x1.setCells g3 (f * 20) (cf 20 bl)).cell? ⟨wb, 3, none⟩ = some (.slice (some ⟨g3, 0, none⟩) p.tasks.length cap3) from by rw [range_cell BX.out.r (k := 3) rfl, E3.out])
    clear b1 k1
    refine wpAnyH_ready (rs := [7]) (by kernel_rfl) (by simp) (AllReadyH.cons rfl (fun K hK => ?_) AllReadyH.nil)
    refine wp_store_mid 85 _ _ rfl g3 (f * 20) (cf 20 bl).toArray rfl rfl (by rw [List.size_toArray, cf_len]; exact THR.out _ A1.out) (by rw [info20]; rfl) (all_oneCell_toArray (cf_one 20 _)) ?_
    refine hK.out _ _ SX.out (fun _ => ?_)
    clear hK K hH hH2
    try simp only [Act.put]
    refine wpAnyH_done (by kernel_rfl) ?_ _
    clear KS ROW THR SX BD A1
    generalize World.setCells _ _ _ _ = WX at *
    rw [← HQQ.out] at BX
    go_wp2_with fail
    refine (FWC.out _ _ BX.out).mono ?_
    rintro r w8 ⟨rfl, tg8, b8, k8⟩
    have B8 := hid b8
    have K8 := hid (KX.out.trans k8)
    clear b8 k8
    go_wp2_with fail
    exact bodyPost_end (results_none rfl _ _ _) rfl ⟨rfl, tg8, by rw [HR.out]; exact B8.out, K8.out⟩
set_option maxRecDepth 100000 in
set_option maxHeartbeats 8000000 in
theorem gone_7 {m : Nat} (p : PW) (f : Nat) (W : World) (wb : Nat) (tag : Nat → Nat) (V : Nat → Value) (hi : Inv p) (ht : TL p) (hk : p.kinds[f]? = some 7) (ho : opnd p 7 f = false) (bt : BoxT W wb tag V p) :
  Calls Tryz.prog 46 #[.pointer (some ⟨wb, 0, none⟩), .int .i64 f] W fun r W' => r = .returned (.tuple #[]) ∧ ∃ tag', BoxT W' wb tag' V (gnF (drR m) p 7 f) ∧ Kt tag tag' W W' := by
 obtain ⟨hf, hkf⟩ := List.getElem?_eq_some_iff.1 hk
 have h24 := hi.k24
 have hl1 : (p.kinds.length : Int) ≤ 1000 := by omega
 have hf2 : (f : Int) < (p.kinds.length : Int) := by omega
 have hl3 : (p.tasks.length : Int) ≤ 1000 := by have := hi.tasks; omega
 obtain ⟨g1, cap1, e1⟩ := bt.o.kinds.form (show 0 < p.kinds.length by omega)
 obtain ⟨g3, cap3, e3⟩ := bt.o.tasks.form (show 0 < p.tasks.length by have := hi.tasks; omega)
 have E1 := hid e1
 have E3 := hid e3
 have c1 : W.cell? ⟨wb, 1, none⟩ = some (.slice (some ⟨g1, 0, none⟩) p.kinds.length cap1) := by rw [range_cell bt.r (k := 1) rfl, e1]
 have x1 := bt.kindsAt e1 hf
 rw [hkf] at x1
 have x1f := bt.kindsFr e1 f
 obtain ⟨b1, k1⟩ := bt.kindsCell e1 f 0
 have B1 := hid (show BoxT (W.setCell ⟨g1, f, none⟩ (.int .i64 0)) wb tag V (nkP p f) from b1)
 have K1 := hid k1
 have hh := nk_inv hi hk ho
 have hlk : (nkP p f).kinds.length = p.kinds.length := List.length_set ..
 have tn : TL (nkP p f) := ht.of rfl rfl
 have h600 : (nkP p f).ram.length ≤ 600 := by have := hh.ram; omega
 have hll : f < p.lines.length := by rw [hi.lines]; exact hf
 have hbl : f < p.bits.length := by rw [hi.bits]; exact hf
 have hl4 : (p.lines.length : Int) ≤ 1000 := by have := hi.lines; omega
 have hl5 : (p.bits.length : Int) ≤ 1000 := by have := hi.bits; omega
 have hf4 : (f : Int) < (p.lines.length : Int) := by omega
 have hf5 : (f : Int) < (p.bits.length : Int) := by omega
 obtain ⟨gL, eL⟩ := bt.o.lines.form
 obtain ⟨g5, cap5, e5⟩ := bt.o.bits.form (show 0 < p.bits.length by omega)
 have EL := hid eL
 have E5 := hid e5
 have HFL := hid hll
 have HFB := hid hbl
 obtain ⟨l, hl⟩ : ∃ l, p.lines.getD f [] = l := ⟨_, rfl⟩
 have HZ := hid (show ∀ z ∈ l, ∃ u : Nat, z = u ∧ u < p.tasks.length from fun z hz => hi.line _ (by rw [← hl] at hz; rw [List.getD_eq_getElem?_getD, List.getElem?_eq_getElem hll] at hz; exact List.getElem_mem hll) z (by rw [← hl, List.getD_eq_getElem?_getD, List.getElem?_eq_getElem hll] at hz; exact hz))
 have h1000 : l.length ≤ 1000 := by
  have h1 := hi.fits.line _ (List.getElem_mem hll)
  have h2 := hl
  rw [List.getD_eq_getElem?_getD, List.getElem?_eq_getElem hll, Option.getD_some] at h2
  rw [h2] at h1
  exact h1
 have hll2 : (l.length : Int) ≤ 1000 := by omega
 have HLN := hid (fun X q (h : BoxT X wb tag V q) (e : q.lines = p.lines) => show ∃ u, X.cell? ⟨gL, f, none⟩ = some u ∧ InT X tag (12 + 3 * f) 3 1 u (l.length, ints l) from by
  have h2 := h.o.lines
  rw [e, eL] at h2
  obtain ⟨u, cu, hu⟩ := h2.at hll
  unfold ci at hu
  rw [hl] at hu
  exact ⟨u, cu, hu⟩)
 have hne : gL ≠ g3 := by
  intro e
  have h5 := bt.o.lines
  rw [eL] at h5
  have h4 := bt.o.tasks
  rw [e3] at h4
  have h6 := h4.2 g3 rfl
  rw [← e, h5.tag0.1] at h6
  cases h6
 have HNE := hid hne
 have HL := hid hl
 have hiq := fg_help (dsP_inv hh f)
 have HR := hid (show gnF (drR m) p 7 f = fwP (dsP (fgP 13 (nkP p f) f) f) 7 f by unfold gnF lsF; rw [if_neg (by decide), if_neg (by decide), if_neg (by decide), if_neg (by decide), fg_disp])
 rw [← fg_disp] at hiq
 have tq : TL (dsP (fgP 13 (nkP p f) f) f) := tn.of (ds_tl (fgP 13 (nkP p f) f) f).1 (ds_tl (fgP 13 (nkP p f) f) f).2
 have FWC := hid (fun X tgx (h : BoxT X wb tgx V (dsP (fgP 13 (nkP p f) f) f)) => forgetWrong_any wb tgx V (dsP (fgP 13 (nkP p f) f) f) 7 f X h (hiq).fits (tq).len (tq).page (tq).word (by have := (hiq).ram; have := (hiq).k24; omega))
 clear hi ht hk ho bt hf hkf h24 e1 e3 b1 k1 hh hlk tn h600 hiq hll hbl eL e5 hl h1000 hne tq
 go_enter Tryz.func46, Tryz.ntmps46
 go_upto_region 2 with fail
 generalize World.setCell _ _ _ = W1 at *
 clear c1 x1 x1f
 go_upto_region 9 with fail
 go_loopw [6] (fun i wr => ∃ (j : Nat), j ≤ p.tasks.length ∧ i = .int .i64 j ∧ Hid (BoxT wr wb tag V { nkP p f with tasks := mapK (fg1 13 f) j p.tasks }) ∧ Hid (Kt tag tag W wr)) (fun i _ => p.tasks.length - (intOf i).toNat)
 case atStart => exact ⟨0, by omega, rfl, hid (by rw [mapK_zero]; exact B1.out), K1⟩
 case round =>
  obtain ⟨j, hj, rfl, HT, HK⟩ := hrel
  have c3 : wr.cell? ⟨wb, 3, none⟩ = some (.slice (some ⟨g3, 0, none⟩) p.tasks.length cap3) := by rw [range_cell HT.out.r (k := 3) rfl, E3.out]
  by_cases hjl : j < p.tasks.length
  ·have hjl2 : (j : Int) < (p.tasks.length : Int) := by omega
   have hkl : j < (mapK (fg1 13 f) j p.tasks).length := by rw [mapK_len]; exact hjl
   have he : V 3 = .slice (some ⟨g3, 0, none⟩) (mapK (fg1 13 f) j p.tasks).length cap3 := by rw [mapK_len]; exact E3.out
   have xc := HT.out.tasksAt he hkl (show 13 < 20 by omega)
   have fc := HT.out.tasksFr he (j * 20 + 13)
   simp only [mapK_at (fg1 13 f) j p.tasks hjl hkl] at xc
   by_cases h6 : p.tasks[j] 13 = f
   ·obtain ⟨hn, hkt⟩ := HT.out.tasksCell he hkl (show 13 < 20 by omega) (-1)
    have HN := hid (show BoxT (wr.setCell ⟨g3, j * 20 + 13, none⟩ (.int .i64 (-1))) wb tag V { nkP p f with tasks := mapK (fg1 13 f) (j + 1) p.tasks } by
     rw [mapK_succ (fg1 13 f) j p.tasks hjl, show fg1 13 f p.tasks[j] = upd p.tasks[j] 13 (-1) from if_pos h6, ← mapK_at (fg1 13 f) j p.tasks hjl hkl]
     exact hn)
    have HKK := hid (HK.out.trans hkt)
    rw [h6] at xc
    clear hn hkt he h6 hkl HT
    go_wp2_with fail
    exact ⟨⟨j + 1, by omega, by go_num, HN, HKK⟩, by simp [intOf]; omega⟩
   ·have HN := hid (show BoxT wr wb tag V { nkP p f with tasks := mapK (fg1 13 f) (j + 1) p.tasks } by
     rw [mapK_succ (fg1 13 f) j p.tasks hjl, show fg1 13 f p.tasks[j] = p.tasks[j] from if_neg h6, ← mapK_at (fg1 13 f) j p.tasks hjl hkl, List.set_getElem_self]
     exact HT.out)
    have h6b : (p.tasks[j] 13 == (f : Int)) = false := by simpa using h6
    generalize p.tasks[j] 13 = y at xc h6b
    clear he h6 hkl HT fc
    go_wp2_with fail
    exact ⟨⟨j + 1, by omega, by go_num, HN, HK⟩, by simp [intOf]; omega⟩
  ·obtain rfl : j = p.tasks.length := by omega
   have hge2 : ¬ ((p.tasks.length : Int) < (p.tasks.length : Int)) := by omega
   have B2 := hid (show BoxT wr wb tag V (fgP 13 (nkP p f) f) by unfold fgP; rw [show (nkP p f).tasks = p.tasks from rfl, ← mapK_all]; exact HT.out)
   have K2 := HK
   clear HT
   have QL := hid (show (fgP 13 (nkP p f) f).lines = p.lines ∧ (fgP 13 (nkP p f) f).bits = p.bits ∧ (fgP 13 (nkP p f) f).tasks.length = p.tasks.length from ⟨rfl, rfl, List.length_map _⟩)
   generalize fgP 13 (nkP p f) f = q1 at *
   generalize wr = W5 at *
   obtain ⟨u, cu, hu⟩ := HLN.out W5 q1 B2.out QL.out.1
   obtain ⟨q, gu, capu, rfl, hq⟩ := hu.shape
   have HQ := hid hq
   have HUC := hid cu
   clear hq hu cu
   go_upto_region 30 with fail
   go_loopw [9] (fun i wr => ∃ (j : Nat), j ≤ l.length ∧ i = .int .i64 j ∧ Hid (BoxT wr wb tag V ((l.take j).foldl ds1 q1)) ∧ Hid (Kt tag tag W wr) ∧ Hid (wr.cell? ⟨gL, f, none⟩ = some (.slice q l.length capu))) (fun i _ => l.length - (intOf i).toNat)
   case atStart => exact ⟨0, by omega, rfl, B2, K2, HUC⟩
   case round =>
    obtain ⟨j, hj, rfl, HT, HK, HC⟩ := hrel
    have RST := hid (ds_rest (l.take j) q1)
    have LT := hid (show ((l.take j).foldl ds1 q1).tasks.length = p.tasks.length by rw [ds_len]; exact QL.out.2.2)
    have c4 : wr.cell? ⟨wb, 4, none⟩ = some (.slice (some ⟨gL, 0, none⟩) p.lines.length p.lines.length) := by rw [range_cell HT.out.r (k := 4) rfl, EL.out]
    have cl := HC.out
    by_cases hjl : j < l.length
    ·have hjl2 : (j : Int) < (l.length : Int) := by omega
     have hqe := HQ.out (by omega)
     subst hqe
     obtain ⟨z, hz, hzl⟩ := HZ.out l[j] (List.getElem_mem hjl)
     have HZZ := hid hz
     have hz2 : (z : Int) < (p.tasks.length : Int) := by omega
     have KSF := hid (fun X qx (h : BoxT X wb tag V qx) (e : qx.lines = p.lines) (hc : X.cell? ⟨gL, f, none⟩ = some (.slice (some ⟨gu, 0, none⟩) l.length capu)) => show X.cell? ⟨wb, 3, none⟩ = some (.slice (some ⟨g3, 0, none⟩) p.tasks.length cap3) ∧ X.cell? ⟨wb, 4, none⟩ = some (.slice (some ⟨gL, 0, none⟩) p.lines.length p.lines.length) ∧ X.cell? ⟨gL, f, none⟩ = some (.slice (some ⟨gu, 0, none⟩) l.length capu) ∧ X.cell? ⟨gu, j, none⟩ = some (.int .i64 z) from ⟨by rw [range_cell h.r (k := 3) rfl, E3.out], by rw [range_cell h.r (k := 4) rfl, EL.out], hc, by
      obtain ⟨u2, cu2, hu2⟩ := HLN.out X qx h e
      rw [Option.some.inj (cu2.symm.trans hc)] at hu2
      have x := hu2.int hjl
      rw [hz] at x
      exact x⟩)
     have LN := hid (show ((l.take j).foldl ds1 q1).lines = p.lines by rw [RST.out]; exact QL.out.1)
     have he : V 3 = .slice (some ⟨g3, 0, none⟩) ((l.take j).foldl ds1 q1).tasks.length cap3 := by rw [LT.out]; exact E3.out
     have BD : Hid (BoxT wr.drew wb tag V ((l.take j).foldl ds1 q1)) := hid (HT.out.below (below_drew wr 1))
     have KD : Hid (Kt tag tag W wr.drew) := hid (HK.out.trans (.below (below_drew wr 1)))
     have xa := BD.out.taskAt he (i := z) (by rw [LT.out]; exact hzl) (show 9 < 20 by omega)
     have fa := BD.out.tasksFr he (z * 20 + 9)
     obtain ⟨b1, q1'⟩ := BD.out.task he (i := z) (by rw [LT.out]; exact hzl) (show 9 < 20 by omega) 0
     have B6 := hid (show BoxT (wr.setCell ⟨g3, z * 20 + 9, none⟩ (.int .i64 0)).drew wb tag V (((l.take j).foldl ds1 q1).task z 9 0) from b1)
     have K6 := hid (show Kt tag tag W (wr.setCell ⟨g3, z * 20 + 9, none⟩ (.int .i64 0)).drew from KD.out.trans q1')
     have C6 := hid (show (wr.setCell ⟨g3, z * 20 + 9, none⟩ (.int .i64 0)).drew.cell? ⟨gL, f, none⟩ = some (.slice (some ⟨gu, 0, none⟩) l.length capu) from by
      show (wr.setCell ⟨g3, z * 20 + 9, none⟩ (.int .i64 0)).cell? ⟨gL, f, none⟩ = _
      rw [World.cell?_setCell_other _ _ _ _ (by intro e; cases e; exact HNE.out rfl)]
      exact HC.out)
     have S0 := hid (KSF.out _ _ BD.out LN.out HC.out)
     have S6 := hid (KSF.out _ _ B6.out LN.out C6.out)
     clear b1 q1' he
     go_upto_region 32 with fail
     clear c4 cl
     refine wp_region_held_drew (S := fun X => X.cell? ⟨wb, 3, none⟩ = some (.slice (some ⟨g3, 0, none⟩) p.tasks.length cap3) ∧ X.cell? ⟨wb, 4, none⟩ = some (.slice (some ⟨gL, 0, none⟩) p.lines.length p.lines.length) ∧ X.cell? ⟨gL, f, none⟩ = some (.slice (some ⟨gu, 0, none⟩) l.length capu) ∧ X.cell? ⟨gu, j, none⟩ = some (.int .i64 z)) (by kernel_rfl) S0.out (fun hH0 => ?_)
     have hH := hid hH0
     clear hH0
     refine tk 0 (.pointer (some ⟨wb, 0, none⟩)) rfl hH.out ?_
     simp only [jj]
     refine tk 1 (.pointer (some ⟨wb, 0, none⟩)) rfl hH.out ?_
     simp only [jj]
     refine tk 2 (.pointer (some ⟨wb, 3, none⟩)) rfl hH.out ?_
     simp only [jj]
     refine Mem.tg 3 (.slice (some ⟨g3, 0, none⟩) p.tasks.length cap3) rfl (Or.inl ⟨by rfl, fun W h => by have h3 := h.1; clear h; go_simp⟩) hH.out ?_
     simp only [jj]
     refine tk 4 (.pointer (some ⟨wb, 0, none⟩)) rfl hH.out ?_
     simp only [jj]
     refine tk 5 (.pointer (some ⟨wb, 0, none⟩)) rfl hH.out ?_
     simp only [jj]
     refine tk 6 (.pointer (some ⟨wb, 4, none⟩)) rfl hH.out ?_
     simp only [jj]
     refine Mem.tg 7 (.slice (some ⟨gL, 0, none⟩) p.lines.length p.lines.length) rfl (Or.inl ⟨by rfl, fun W h => by have h3 := h.2.1; clear h; go_simp⟩) hH.out ?_
     simp only [jj]
     refine tk 8 (.int .i64 f) rfl hH.out ?_
     simp only [jj]
     refine tk 9 (.pointer (some ⟨gL, f, none⟩)) rfl hH.out ?_
     simp only [jj]
     refine Mem.tg 10 (.slice (some ⟨gu, 0, none⟩) l.length capu) rfl (Or.inl ⟨by rfl, fun W h => by have h3 := h.2.2.1; clear h; go_simp⟩) hH.out ?_
     simp only [jj]
     refine tk 11 (.int .i64 j) rfl hH.out ?_
     simp only [jj]
     refine tk 12 (.pointer (some ⟨gu, j, none⟩)) rfl hH.out ?_
     simp only [jj]
     refine Mem.tg 13 (.int .i64 z) rfl (Or.inl ⟨by rfl, fun W h => by have h3 := h.2.2.2; clear h; go_simp⟩) hH.out ?_
     simp only [jj]
     refine tk 14 (.pointer (some ⟨g3, z * 20, none⟩)) rfl hH.out ?_
     simp only [jj]
     refine tk 15 (.pointer (some ⟨g3, z * 20 + 9, none⟩)) rfl hH.out ?_
     simp only [jj]
     refine wpAnyH_ready (rs := [16]) (by kernel_rfl) (by simp) (AllReadyH.cons rfl (fun K hK => ?_) AllReadyH.nil)
     go_simp
     refine hK.out _ _ S6.out (fun _ => ?_)
     clear hK K hH
     try simp only [Act.put]
     refine wpAnyH_done (by kernel_rfl) ?_ _
     clear xa fa S0 BD KD HT HK HC
     generalize World.drew (World.setCell _ _ _) = W6 at *
     have he2 : V 3 = .slice (some ⟨g3, 0, none⟩) (((l.take j).foldl ds1 q1).task z 9 0).tasks.length cap3 := by rw [PW.task_len, LT.out]; exact E3.out
     have BE : Hid (BoxT W6.drew wb tag V (((l.take j).foldl ds1 q1).task z 9 0)) := hid (B6.out.below (below_drew W6 1))
     have KE : Hid (Kt tag tag W W6.drew) := hid (K6.out.trans (.below (below_drew W6 1)))
     have xb := BE.out.taskAt he2 (i := z) (by rw [PW.task_len, LT.out]; exact hzl) (show 14 < 20 by omega)
     have fb := BE.out.tasksFr he2 (z * 20 + 14)
     obtain ⟨b2, q2'⟩ := BE.out.task he2 (i := z) (by rw [PW.task_len, LT.out]; exact hzl) (show 14 < 20 by omega) (-1)
     have B7 := hid (show BoxT (W6.setCell ⟨g3, z * 20 + 14, none⟩ (.int .i64 (-1))).drew wb tag V ((l.take (j + 1)).foldl ds1 q1) by
      rw [ds_snoc l j hjl, HZZ.out]
      unfold ds1
      rw [Int.toNat_natCast]
      exact b2)
     have K7 := hid (show Kt tag tag W (W6.setCell ⟨g3, z * 20 + 14, none⟩ (.int .i64 (-1))).drew from KE.out.trans q2')
     have C7 := hid (show (W6.setCell ⟨g3, z * 20 + 14, none⟩ (.int .i64 (-1))).drew.cell? ⟨gL, f, none⟩ = some (.slice (some ⟨gu, 0, none⟩) l.length capu) from by
      show (W6.setCell ⟨g3, z * 20 + 14, none⟩ (.int .i64 (-1))).cell? ⟨gL, f, none⟩ = _
      rw [World.cell?_setCell_other _ _ _ _ (by intro e; cases e; exact HNE.out rfl)]
      exact C6.out)
     have LN7 := hid (show ((l.take (j + 1)).foldl ds1 q1).lines = p.lines by rw [ds_rest]; exact QL.out.1)
     have S6b := hid (KSF.out _ _ BE.out LN.out C6.out)
     have S7 := hid (KSF.out _ _ B7.out LN7.out C7.out)
     clear b2 q2' he2
     go_upto_region 33 with fail
     refine wp_region_held_drew (S := fun X => X.cell? ⟨wb, 3, none⟩ = some (.slice (some ⟨g3, 0, none⟩) p.tasks.length cap3) ∧ X.cell? ⟨wb, 4, none⟩ = some (.slice (some ⟨gL, 0, none⟩) p.lines.length p.lines.length) ∧ X.cell? ⟨gL, f, none⟩ = some (.slice (some ⟨gu, 0, none⟩) l.length capu) ∧ X.cell? ⟨gu, j, none⟩ = some (.int .i64 z)) (by kernel_rfl) S6b.out (fun hH0 => ?_)
     have hH := hid hH0
     clear hH0
     refine tk 0 (.pointer (some ⟨wb, 0, none⟩)) rfl hH.out ?_
     simp only [jj]
     refine tk 1 (.pointer (some ⟨wb, 0, none⟩)) rfl hH.out ?_
     simp only [jj]
     refine tk 2 (.pointer (some ⟨wb, 3, none⟩)) rfl hH.out ?_
     simp only [jj]
     refine Mem.tg 3 (.slice (some ⟨g3, 0, none⟩) p.tasks.length cap3) rfl (Or.inl ⟨by rfl, fun W h => by have h3 := h.1; clear h; go_simp⟩) hH.out ?_
     simp only [jj]
     refine tk 4 (.pointer (some ⟨wb, 0, none⟩)) rfl hH.out ?_
     simp only [jj]
     refine tk 5 (.pointer (some ⟨wb, 0, none⟩)) rfl hH.out ?_
     simp only [jj]
     refine tk 6 (.pointer (some ⟨wb, 4, none⟩)) rfl hH.out ?_
     simp only [jj]
     refine Mem.tg 7 (.slice (some ⟨gL, 0, none⟩) p.lines.length p.lines.length) rfl (Or.inl ⟨by rfl, fun W h => by have h3 := h.2.1; clear h; go_simp⟩) hH.out ?_
     simp only [jj]
     refine tk 8 (.int .i64 f) rfl hH.out ?_
     simp only [jj]
     refine tk 9 (.pointer (some ⟨gL, f, none⟩)) rfl hH.out ?_
     simp only [jj]
     refine Mem.tg 10 (.slice (some ⟨gu, 0, none⟩) l.length capu) rfl (Or.inl ⟨by rfl, fun W h => by have h3 := h.2.2.1; clear h; go_simp⟩) hH.out ?_
     simp only [jj]
     refine tk 11 (.int .i64 j) rfl hH.out ?_
     simp only [jj]
     refine tk 12 (.pointer (some ⟨gu, j, none⟩)) rfl hH.out ?_
     simp only [jj]
     refine Mem.tg 13 (.int .i64 z) rfl (Or.inl ⟨by rfl, fun W h => by have h3 := h.2.2.2; clear h; go_simp⟩) hH.out ?_
     simp only [jj]
     refine tk 14 (.pointer (some ⟨g3, z * 20, none⟩)) rfl hH.out ?_
     simp only [jj]
     refine tk 15 (.pointer (some ⟨g3, z * 20 + 14, none⟩)) rfl hH.out ?_
     simp only [jj]
     refine wpAnyH_ready (rs := [16]) (by kernel_rfl) (by simp) (AllReadyH.cons rfl (fun K hK => ?_) AllReadyH.nil)
     go_simp
     refine hK.out _ _ S7.out (fun _ => ?_)
     clear hK K hH
     try simp only [Act.put]
     refine wpAnyH_done (by kernel_rfl) ?_ _
     clear xb fb S6 S6b S7 BE KE B6 K6 C6 KSF
     generalize World.drew (World.setCell _ _ _) = W7 at *
     go_wp2_with fail
     exact ⟨⟨j + 1, by omega, by go_num, B7, K7, C7⟩, by simp [intOf]; omega⟩
    ·obtain rfl : j = l.length := by omega
     have hge4 : ¬ ((l.length : Int) < (l.length : Int)) := by omega
     have HT2 := hid (show BoxT wr wb tag V (l.foldl ds1 q1) by have h := HT.out; rw [List.take_length] at h; exact h)
     have RS2 := hid (ds_rest l q1)
     generalize hqd : l.foldl ds1 q1 = qd at *
     have HQD := hid hqd
     have LQL := hid (show qd.lines = p.lines by rw [RS2.out]; exact QL.out.1)
     have LQB := hid (show qd.bits = p.bits by rw [RS2.out]; exact QL.out.2.1)
     clear HT RST LT hqd
     have eL2 : V 4 = .slice (some ⟨gL, 0, none⟩) qd.lines.length qd.lines.length := by rw [LQL.out]; exact EL.out
     have fl : wr.frozen? ⟨gL, f, none⟩ = false := by
      have h5 := HT2.out.o.lines
      rw [eL2] at h5
      exact h5.fr f
     obtain ⟨b1, q1'⟩ := HT2.out.lineNil eL2 (j := f) (by rw [LQL.out]; exact HFL.out)
     have B6 := hid b1
     have K6 := hid (HK.out.trans q1')
     have e52 : V 5 = .slice (some ⟨g5, 0, none⟩) ({ qd with lines := qd.lines.set f [] } : PW).bits.length cap5 := by show V 5 = .slice (some ⟨g5, 0, none⟩) qd.bits.length cap5; rw [LQB.out]; exact E5.out
     have c5 : (wr.setCell ⟨gL, f, none⟩ (.slice none 0 0)).cell? ⟨wb, 5, none⟩ = some (.slice (some ⟨g5, 0, none⟩) p.bits.length cap5) := by rw [range_cell B6.out.r (k := 5) rfl, E5.out]
     obtain ⟨yb, xb⟩ : ∃ y, (wr.setCell ⟨gL, f, none⟩ (.slice none 0 0)).cell? ⟨g5, f, none⟩ = some y := ⟨_, B6.out.bitsInt e52 (i := f) (by show f < qd.bits.length; rw [LQB.out]; exact HFB.out)⟩
     have fb := B6.out.bitsFr e52 f
     obtain ⟨b2, q2'⟩ := B6.out.bitsCell e52 f 0
     have B7 := hid (show BoxT ((wr.setCell ⟨gL, f, none⟩ (.slice none 0 0)).setCell ⟨g5, f, none⟩ (.int .i64 0)) wb tag V (dsP q1 f) by
      unfold dsP
      rw [QL.out.1, HL.out, HQD.out, ← LQL.out, QL.out.2.1, ← LQB.out]
      exact b2)
     have K7 := hid (K6.out.trans q2')
     clear b1 q1' b2 q2' e52 eL2 HC
     go_upto_region 35 with fail
     generalize World.setCell _ _ _ = W6 at *
     clear c4 cl fl
     go_upto_region 36 with fail
     generalize World.setCell _ _ _ = W7 at *
     clear c5 xb fb B6 K6
     go_wp2_with fail
     refine (FWC.out _ _ B7.out).mono ?_
     rintro r w9 ⟨rfl, tg9, b9, k9⟩
     have B9 := hid b9
     have K9 := hid (K7.out.trans k9)
     clear b9 k9
     go_wp2_with fail
     exact bodyPost_end (results_none rfl _ _ _) rfl ⟨rfl, tg9, by rw [HR.out]; exact B9.out, K9.out⟩
set_option maxRecDepth 100000 in
set_option maxHeartbeats 8000000 in
theorem gone_8 {m : Nat} (p : PW) (f : Nat) (W : World) (wb : Nat) (tag : Nat → Nat) (V : Nat → Value) (hi : Inv p) (ht : TL p) (hk : p.kinds[f]? = some 8) (ho : opnd p 8 f = false) (bt : BoxT W wb tag V p) :
  Calls Tryz.prog 46 #[.pointer (some ⟨wb, 0, none⟩), .int .i64 f] W fun r W' => r = .returned (.tuple #[]) ∧ ∃ tag', BoxT W' wb tag' V (gnF (drR m) p 8 f) ∧ Kt tag tag' W W' := by
 obtain ⟨hf, hkf⟩ := List.getElem?_eq_some_iff.1 hk
 have h24 := hi.k24
 have hl1 : (p.kinds.length : Int) ≤ 1000 := by omega
 have hf2 : (f : Int) < (p.kinds.length : Int) := by omega
 have hl3 : (p.tasks.length : Int) ≤ 1000 := by have := hi.tasks; omega
 obtain ⟨g1, cap1, e1⟩ := bt.o.kinds.form (show 0 < p.kinds.length by omega)
 obtain ⟨g3, cap3, e3⟩ := bt.o.tasks.form (show 0 < p.tasks.length by have := hi.tasks; omega)
 have E1 := hid e1
 have E3 := hid e3
 have c1 : W.cell? ⟨wb, 1, none⟩ = some (.slice (some ⟨g1, 0, none⟩) p.kinds.length cap1) := by rw [range_cell bt.r (k := 1) rfl, e1]
 have x1 := bt.kindsAt e1 hf
 rw [hkf] at x1
 have x1f := bt.kindsFr e1 f
 obtain ⟨b1, k1⟩ := bt.kindsCell e1 f 0
 have B1 := hid (show BoxT (W.setCell ⟨g1, f, none⟩ (.int .i64 0)) wb tag V (nkP p f) from b1)
 have K1 := hid k1
 have hh := nk_inv hi hk ho
 have hlk : (nkP p f).kinds.length = p.kinds.length := List.length_set ..
 have tn : TL (nkP p f) := ht.of rfl rfl
 have h600 : (nkP p f).ram.length ≤ 600 := by have := hh.ram; omega
 have hll : f < p.lines.length := by rw [hi.lines]; exact hf
 have hbl : f < p.bits.length := by rw [hi.bits]; exact hf
 have hl4 : (p.lines.length : Int) ≤ 1000 := by have := hi.lines; omega
 have hl5 : (p.bits.length : Int) ≤ 1000 := by have := hi.bits; omega
 have hf4 : (f : Int) < (p.lines.length : Int) := by omega
 have hf5 : (f : Int) < (p.bits.length : Int) := by omega
 obtain ⟨gL, eL⟩ := bt.o.lines.form
 obtain ⟨g5, cap5, e5⟩ := bt.o.bits.form (show 0 < p.bits.length by omega)
 have EL := hid eL
 have E5 := hid e5
 have HFL := hid hll
 have HFB := hid hbl
 obtain ⟨l, hl⟩ : ∃ l, p.lines.getD f [] = l := ⟨_, rfl⟩
 have HZ := hid (show ∀ z ∈ l, ∃ u : Nat, z = u ∧ u < p.tasks.length from fun z hz => hi.line _ (by rw [← hl] at hz; rw [List.getD_eq_getElem?_getD, List.getElem?_eq_getElem hll] at hz; exact List.getElem_mem hll) z (by rw [← hl, List.getD_eq_getElem?_getD, List.getElem?_eq_getElem hll] at hz; exact hz))
 have h1000 : l.length ≤ 1000 := by
  have h1 := hi.fits.line _ (List.getElem_mem hll)
  have h2 := hl
  rw [List.getD_eq_getElem?_getD, List.getElem?_eq_getElem hll, Option.getD_some] at h2
  rw [h2] at h1
  exact h1
 have hll2 : (l.length : Int) ≤ 1000 := by omega
 have HLN := hid (fun X q (h : BoxT X wb tag V q) (e : q.lines = p.lines) => show ∃ u, X.cell? ⟨gL, f, none⟩ = some u ∧ InT X tag (12 + 3 * f) 3 1 u (l.length, ints l) from by
  have h2 := h.o.lines
  rw [e, eL] at h2
  obtain ⟨u, cu, hu⟩ := h2.at hll
  unfold ci at hu
  rw [hl] at hu
  exact ⟨u, cu, hu⟩)
 have hne : gL ≠ g3 := by
  intro e
  have h5 := bt.o.lines
  rw [eL] at h5
  have h4 := bt.o.tasks
  rw [e3] at h4
  have h6 := h4.2 g3 rfl
  rw [← e, h5.tag0.1] at h6
  cases h6
 have HNE := hid hne
 have HL := hid hl
 have hin := nk_inv7 hi hk ho (by decide)
 have hid1 := dsP_inv (hin.h (-1)) f
 have hiq : Inv (dsP (nkP p f) f) := hid1.full fun _ _ e => e
 have HR := hid (show gnF (drR m) p 8 f = fwP (dsP (nkP p f) f) 8 f by
  unfold gnF lsF
  rw [if_neg (by decide), if_neg (by decide), if_neg (by decide), if_neg (by decide), fg_none 13 (fun g hg e => ?_)]
  rcases hiq.help g hg with h1 | ⟨u, hu, hku⟩
  ·omega
  ·have : u = f := by omega
   subst this
   rw [ds_kinds] at hku
   exact (nk_get hku (by decide)).2 rfl)
 have tq : TL (dsP (nkP p f) f) := tn.of (ds_tl (nkP p f) f).1 (ds_tl (nkP p f) f).2
 have FWC := hid (fun X tgx (h : BoxT X wb tgx V (dsP (nkP p f) f)) => forgetWrong_any wb tgx V (dsP (nkP p f) f) 8 f X h (hiq).fits (tq).len (tq).page (tq).word (by have := (hiq).ram; have := (hiq).k24; omega))
 clear hi ht hk ho bt hf hkf h24 e1 e3 b1 k1 hh hlk tn h600 hiq hll hbl eL e5 hl h1000 hne tq hin hid1
 go_enter Tryz.func46, Tryz.ntmps46
 go_upto_region 2 with fail
 generalize World.setCell _ _ _ = W1 at *
 clear c1 x1 x1f
 have c3 : W1.cell? ⟨wb, 3, none⟩ = some (.slice (some ⟨g3, 0, none⟩) p.tasks.length cap3) := by rw [range_cell B1.out.r (k := 3) rfl, E3.out]
 go_upto_region 9 with fail
 go_loopw [6] (fun i wr => ∃ (j : Nat), j ≤ p.tasks.length ∧ i = .int .i64 j ∧ W1 = wr) (fun i _ => p.tasks.length - (intOf i).toNat)
 case atStart => exact ⟨0, by omega, rfl, rfl⟩
 case round =>
  obtain ⟨j, hj, rfl, rfl⟩ := hrel
  by_cases hjl : j < p.tasks.length
  ·have hjl2 : (j : Int) < (p.tasks.length : Int) := by omega
   go_wp2_with fail
   exact ⟨⟨j + 1, by omega, by go_num, by first | rfl | trivial⟩, by simp [intOf]; omega⟩
  ·obtain rfl : j = p.tasks.length := by omega
   have hge2 : ¬ ((p.tasks.length : Int) < (p.tasks.length : Int)) := by omega
   have QL := hid (show (nkP p f).lines = p.lines ∧ (nkP p f).bits = p.bits ∧ (nkP p f).tasks.length = p.tasks.length from ⟨rfl, rfl, rfl⟩)
   generalize nkP p f = q1 at *
   have B2 := B1
   have K2 := K1
   generalize W1 = W5 at *
   obtain ⟨u, cu, hu⟩ := HLN.out W5 q1 B2.out QL.out.1
   obtain ⟨q, gu, capu, rfl, hq⟩ := hu.shape
   have HQ := hid hq
   have HUC := hid cu
   clear hq hu cu
   go_upto_region 30 with fail
   go_loopw [9] (fun i wr => ∃ (j : Nat), j ≤ l.length ∧ i = .int .i64 j ∧ Hid (BoxT wr wb tag V ((l.take j).foldl ds1 q1)) ∧ Hid (Kt tag tag W wr) ∧ Hid (wr.cell? ⟨gL, f, none⟩ = some (.slice q l.length capu))) (fun i _ => l.length - (intOf i).toNat)
   case atStart => exact ⟨0, by omega, rfl, B2, K2, HUC⟩
   case round =>
    obtain ⟨j, hj, rfl, HT, HK, HC⟩ := hrel
    have RST := hid (ds_rest (l.take j) q1)
    have LT := hid (show ((l.take j).foldl ds1 q1).tasks.length = p.tasks.length by rw [ds_len]; exact QL.out.2.2)
    have c4 : wr.cell? ⟨wb, 4, none⟩ = some (.slice (some ⟨gL, 0, none⟩) p.lines.length p.lines.length) := by rw [range_cell HT.out.r (k := 4) rfl, EL.out]
    have cl := HC.out
    by_cases hjl : j < l.length
    ·have hjl2 : (j : Int) < (l.length : Int) := by omega
     have hqe := HQ.out (by omega)
     subst hqe
     obtain ⟨z, hz, hzl⟩ := HZ.out l[j] (List.getElem_mem hjl)
     have HZZ := hid hz
     have hz2 : (z : Int) < (p.tasks.length : Int) := by omega
     have KSF := hid (fun X qx (h : BoxT X wb tag V qx) (e : qx.lines = p.lines) (hc : X.cell? ⟨gL, f, none⟩ = some (.slice (some ⟨gu, 0, none⟩) l.length capu)) => show X.cell? ⟨wb, 3, none⟩ = some (.slice (some ⟨g3, 0, none⟩) p.tasks.length cap3) ∧ X.cell? ⟨wb, 4, none⟩ = some (.slice (some ⟨gL, 0, none⟩) p.lines.length p.lines.length) ∧ X.cell? ⟨gL, f, none⟩ = some (.slice (some ⟨gu, 0, none⟩) l.length capu) ∧ X.cell? ⟨gu, j, none⟩ = some (.int .i64 z) from ⟨by rw [range_cell h.r (k := 3) rfl, E3.out], by rw [range_cell h.r (k := 4) rfl, EL.out], hc, by
      obtain ⟨u2, cu2, hu2⟩ := HLN.out X qx h e
      rw [Option.some.inj (cu2.symm.trans hc)] at hu2
      have x := hu2.int hjl
      rw [hz] at x
      exact x⟩)
     have LN := hid (show ((l.take j).foldl ds1 q1).lines = p.lines by rw [RST.out]; exact QL.out.1)
     have he : V 3 = .slice (some ⟨g3, 0, none⟩) ((l.take j).foldl ds1 q1).tasks.length cap3 := by rw [LT.out]; exact E3.out
     have BD : Hid (BoxT wr.drew wb tag V ((l.take j).foldl ds1 q1)) := hid (HT.out.below (below_drew wr 1))
     have KD : Hid (Kt tag tag W wr.drew) := hid (HK.out.trans (.below (below_drew wr 1)))
     have xa := BD.out.taskAt he (i := z) (by rw [LT.out]; exact hzl) (show 9 < 20 by omega)
     have fa := BD.out.tasksFr he (z * 20 + 9)
     obtain ⟨b1, q1'⟩ := BD.out.task he (i := z) (by rw [LT.out]; exact hzl) (show 9 < 20 by omega) 0
     have B6 := hid (show BoxT (wr.setCell ⟨g3, z * 20 + 9, none⟩ (.int .i64 0)).drew wb tag V (((l.take j).foldl ds1 q1).task z 9 0) from b1)
     have K6 := hid (show Kt tag tag W (wr.setCell ⟨g3, z * 20 + 9, none⟩ (.int .i64 0)).drew from KD.out.trans q1')
     have C6 := hid (show (wr.setCell ⟨g3, z * 20 + 9, none⟩ (.int .i64 0)).drew.cell? ⟨gL, f, none⟩ = some (.slice (some ⟨gu, 0, none⟩) l.length capu) from by
      show (wr.setCell ⟨g3, z * 20 + 9, none⟩ (.int .i64 0)).cell? ⟨gL, f, none⟩ = _
      rw [World.cell?_setCell_other _ _ _ _ (by intro e; cases e; exact HNE.out rfl)]
      exact HC.out)
     have S0 := hid (KSF.out _ _ BD.out LN.out HC.out)
     have S6 := hid (KSF.out _ _ B6.out LN.out C6.out)
     clear b1 q1' he
     go_upto_region 32 with fail
     clear c4 cl
     refine wp_region_held_drew (S := fun X => X.cell? ⟨wb, 3, none⟩ = some (.slice (some ⟨g3, 0, none⟩) p.tasks.length cap3) ∧ X.cell? ⟨wb, 4, none⟩ = some (.slice (some ⟨gL, 0, none⟩) p.lines.length p.lines.length) ∧ X.cell? ⟨gL, f, none⟩ = some (.slice (some ⟨gu, 0, none⟩) l.length capu) ∧ X.cell? ⟨gu, j, none⟩ = some (.int .i64 z)) (by kernel_rfl) S0.out (fun hH0 => ?_)
     have hH := hid hH0
     clear hH0
     refine tk 0 (.pointer (some ⟨wb, 0, none⟩)) rfl hH.out ?_
     simp only [jj]
     refine tk 1 (.pointer (some ⟨wb, 0, none⟩)) rfl hH.out ?_
     simp only [jj]
     refine tk 2 (.pointer (some ⟨wb, 3, none⟩)) rfl hH.out ?_
     simp only [jj]
     refine Mem.tg 3 (.slice (some ⟨g3, 0, none⟩) p.tasks.length cap3) rfl (Or.inl ⟨by rfl, fun W h => by have h3 := h.1; clear h; go_simp⟩) hH.out ?_
     simp only [jj]
     refine tk 4 (.pointer (some ⟨wb, 0, none⟩)) rfl hH.out ?_
     simp only [jj]
     refine tk 5 (.pointer (some ⟨wb, 0, none⟩)) rfl hH.out ?_
     simp only [jj]
     refine tk 6 (.pointer (some ⟨wb, 4, none⟩)) rfl hH.out ?_
     simp only [jj]
     refine Mem.tg 7 (.slice (some ⟨gL, 0, none⟩) p.lines.length p.lines.length) rfl (Or.inl ⟨by rfl, fun W h => by have h3 := h.2.1; clear h; go_simp⟩) hH.out ?_
     simp only [jj]
     refine tk 8 (.int .i64 f) rfl hH.out ?_
     simp only [jj]
     refine tk 9 (.pointer (some ⟨gL, f, none⟩)) rfl hH.out ?_
     simp only [jj]
     refine Mem.tg 10 (.slice (some ⟨gu, 0, none⟩) l.length capu) rfl (Or.inl ⟨by rfl, fun W h => by have h3 := h.2.2.1; clear h; go_simp⟩) hH.out ?_
     simp only [jj]
     refine tk 11 (.int .i64 j) rfl hH.out ?_
     simp only [jj]
     refine tk 12 (.pointer (some ⟨gu, j, none⟩)) rfl hH.out ?_
     simp only [jj]
     refine Mem.tg 13 (.int .i64 z) rfl (Or.inl ⟨by rfl, fun W h => by have h3 := h.2.2.2; clear h; go_simp⟩) hH.out ?_
     simp only [jj]
     refine tk 14 (.pointer (some ⟨g3, z * 20, none⟩)) rfl hH.out ?_
     simp only [jj]
     refine tk 15 (.pointer (some ⟨g3, z * 20 + 9, none⟩)) rfl hH.out ?_
     simp only [jj]
     refine wpAnyH_ready (rs := [16]) (by kernel_rfl) (by simp) (AllReadyH.cons rfl (fun K hK => ?_) AllReadyH.nil)
     go_simp
     refine hK.out _ _ S6.out (fun _ => ?_)
     clear hK K hH
     try simp only [Act.put]
     refine wpAnyH_done (by kernel_rfl) ?_ _
     clear xa fa S0 BD KD HT HK HC
     generalize World.drew (World.setCell _ _ _) = W6 at *
     have he2 : V 3 = .slice (some ⟨g3, 0, none⟩) (((l.take j).foldl ds1 q1).task z 9 0).tasks.length cap3 := by rw [PW.task_len, LT.out]; exact E3.out
     have BE : Hid (BoxT W6.drew wb tag V (((l.take j).foldl ds1 q1).task z 9 0)) := hid (B6.out.below (below_drew W6 1))
     have KE : Hid (Kt tag tag W W6.drew) := hid (K6.out.trans (.below (below_drew W6 1)))
     have xb := BE.out.taskAt he2 (i := z) (by rw [PW.task_len, LT.out]; exact hzl) (show 14 < 20 by omega)
     have fb := BE.out.tasksFr he2 (z * 20 + 14)
     obtain ⟨b2, q2'⟩ := BE.out.task he2 (i := z) (by rw [PW.task_len, LT.out]; exact hzl) (show 14 < 20 by omega) (-1)
     have B7 := hid (show BoxT (W6.setCell ⟨g3, z * 20 + 14, none⟩ (.int .i64 (-1))).drew wb tag V ((l.take (j + 1)).foldl ds1 q1) by
      rw [ds_snoc l j hjl, HZZ.out]
      unfold ds1
      rw [Int.toNat_natCast]
      exact b2)
     have K7 := hid (show Kt tag tag W (W6.setCell ⟨g3, z * 20 + 14, none⟩ (.int .i64 (-1))).drew from KE.out.trans q2')
     have C7 := hid (show (W6.setCell ⟨g3, z * 20 + 14, none⟩ (.int .i64 (-1))).drew.cell? ⟨gL, f, none⟩ = some (.slice (some ⟨gu, 0, none⟩) l.length capu) from by
      show (W6.setCell ⟨g3, z * 20 + 14, none⟩ (.int .i64 (-1))).cell? ⟨gL, f, none⟩ = _
      rw [World.cell?_setCell_other _ _ _ _ (by intro e; cases e; exact HNE.out rfl)]
      exact C6.out)
     have LN7 := hid (show ((l.take (j + 1)).foldl ds1 q1).lines = p.lines by rw [ds_rest]; exact QL.out.1)
     have S6b := hid (KSF.out _ _ BE.out LN.out C6.out)
     have S7 := hid (KSF.out _ _ B7.out LN7.out C7.out)
     clear b2 q2' he2
     go_upto_region 33 with fail
     refine wp_region_held_drew (S := fun X => X.cell? ⟨wb, 3, none⟩ = some (.slice (some ⟨g3, 0, none⟩) p.tasks.length cap3) ∧ X.cell? ⟨wb, 4, none⟩ = some (.slice (some ⟨gL, 0, none⟩) p.lines.length p.lines.length) ∧ X.cell? ⟨gL, f, none⟩ = some (.slice (some ⟨gu, 0, none⟩) l.length capu) ∧ X.cell? ⟨gu, j, none⟩ = some (.int .i64 z)) (by kernel_rfl) S6b.out (fun hH0 => ?_)
     have hH := hid hH0
     clear hH0
     refine tk 0 (.pointer (some ⟨wb, 0, none⟩)) rfl hH.out ?_
     simp only [jj]
     refine tk 1 (.pointer (some ⟨wb, 0, none⟩)) rfl hH.out ?_
     simp only [jj]
     refine tk 2 (.pointer (some ⟨wb, 3, none⟩)) rfl hH.out ?_
     simp only [jj]
     refine Mem.tg 3 (.slice (some ⟨g3, 0, none⟩) p.tasks.length cap3) rfl (Or.inl ⟨by rfl, fun W h => by have h3 := h.1; clear h; go_simp⟩) hH.out ?_
     simp only [jj]
     refine tk 4 (.pointer (some ⟨wb, 0, none⟩)) rfl hH.out ?_
     simp only [jj]
     refine tk 5 (.pointer (some ⟨wb, 0, none⟩)) rfl hH.out ?_
     simp only [jj]
     refine tk 6 (.pointer (some ⟨wb, 4, none⟩)) rfl hH.out ?_
     simp only [jj]
     refine Mem.tg 7 (.slice (some ⟨gL, 0, none⟩) p.lines.length p.lines.length) rfl (Or.inl ⟨by rfl, fun W h => by have h3 := h.2.1; clear h; go_simp⟩) hH.out ?_
     simp only [jj]
     refine tk 8 (.int .i64 f) rfl hH.out ?_
     simp only [jj]
     refine tk 9 (.pointer (some ⟨gL, f, none⟩)) rfl hH.out ?_
     simp only [jj]
     refine Mem.tg 10 (.slice (some ⟨gu, 0, none⟩) l.length capu) rfl (Or.inl ⟨by rfl, fun W h => by have h3 := h.2.2.1; clear h; go_simp⟩) hH.out ?_
     simp only [jj]
     refine tk 11 (.int .i64 j) rfl hH.out ?_
     simp only [jj]
     refine tk 12 (.pointer (some ⟨gu, j, none⟩)) rfl hH.out ?_
     simp only [jj]
     refine Mem.tg 13 (.int .i64 z) rfl (Or.inl ⟨by rfl, fun W h => by have h3 := h.2.2.2; clear h; go_simp⟩) hH.out ?_
     simp only [jj]
     refine tk 14 (.pointer (some ⟨g3, z * 20, none⟩)) rfl hH.out ?_
     simp only [jj]
     refine tk 15 (.pointer (some ⟨g3, z * 20 + 14, none⟩)) rfl hH.out ?_
     simp only [jj]
     refine wpAnyH_ready (rs := [16]) (by kernel_rfl) (by simp) (AllReadyH.cons rfl (fun K hK => ?_) AllReadyH.nil)
     go_simp
     refine hK.out _ _ S7.out (fun _ => ?_)
     clear hK K hH
     try simp only [Act.put]
     refine wpAnyH_done (by kernel_rfl) ?_ _
     clear xb fb S6 S6b S7 BE KE B6 K6 C6 KSF
     generalize World.drew (World.setCell _ _ _) = W7 at *
     go_wp2_with fail
     exact ⟨⟨j + 1, by omega, by go_num, B7, K7, C7⟩, by simp [intOf]; omega⟩
    ·obtain rfl : j = l.length := by omega
     have hge4 : ¬ ((l.length : Int) < (l.length : Int)) := by omega
     have HT2 := hid (show BoxT wr wb tag V (l.foldl ds1 q1) by have h := HT.out; rw [List.take_length] at h; exact h)
     have RS2 := hid (ds_rest l q1)
     generalize hqd : l.foldl ds1 q1 = qd at *
     have HQD := hid hqd
     have LQL := hid (show qd.lines = p.lines by rw [RS2.out]; exact QL.out.1)
     have LQB := hid (show qd.bits = p.bits by rw [RS2.out]; exact QL.out.2.1)
     clear HT RST LT hqd
     have eL2 : V 4 = .slice (some ⟨gL, 0, none⟩) qd.lines.length qd.lines.length := by rw [LQL.out]; exact EL.out
     have fl : wr.frozen? ⟨gL, f, none⟩ = false := by
      have h5 := HT2.out.o.lines
      rw [eL2] at h5
      exact h5.fr f
     obtain ⟨b1, q1'⟩ := HT2.out.lineNil eL2 (j := f) (by rw [LQL.out]; exact HFL.out)
     have B6 := hid b1
     have K6 := hid (HK.out.trans q1')
     have e52 : V 5 = .slice (some ⟨g5, 0, none⟩) ({ qd with lines := qd.lines.set f [] } : PW).bits.length cap5 := by show V 5 = .slice (some ⟨g5, 0, none⟩) qd.bits.length cap5; rw [LQB.out]; exact E5.out
     have c5 : (wr.setCell ⟨gL, f, none⟩ (.slice none 0 0)).cell? ⟨wb, 5, none⟩ = some (.slice (some ⟨g5, 0, none⟩) p.bits.length cap5) := by rw [range_cell B6.out.r (k := 5) rfl, E5.out]
     obtain ⟨yb, xb⟩ : ∃ y, (wr.setCell ⟨gL, f, none⟩ (.slice none 0 0)).cell? ⟨g5, f, none⟩ = some y := ⟨_, B6.out.bitsInt e52 (i := f) (by show f < qd.bits.length; rw [LQB.out]; exact HFB.out)⟩
     have fb := B6.out.bitsFr e52 f
     obtain ⟨b2, q2'⟩ := B6.out.bitsCell e52 f 0
     have B7 := hid (show BoxT ((wr.setCell ⟨gL, f, none⟩ (.slice none 0 0)).setCell ⟨g5, f, none⟩ (.int .i64 0)) wb tag V (dsP q1 f) by
      unfold dsP
      rw [QL.out.1, HL.out, HQD.out, ← LQL.out, QL.out.2.1, ← LQB.out]
      exact b2)
     have K7 := hid (K6.out.trans q2')
     clear b1 q1' b2 q2' e52 eL2 HC
     go_upto_region 35 with fail
     generalize World.setCell _ _ _ = W6 at *
     clear c4 cl fl
     go_upto_region 36 with fail
     generalize World.setCell _ _ _ = W7 at *
     clear c5 xb fb B6 K6
     go_wp2_with fail
     refine (FWC.out _ _ B7.out).mono ?_
     rintro r w9 ⟨rfl, tg9, b9, k9⟩
     have B9 := hid b9
     have K9 := hid (K7.out.trans k9)
     clear b9 k9
     go_wp2_with fail
     exact bodyPost_end (results_none rfl _ _ _) rfl ⟨rfl, tg9, by rw [HR.out]; exact B9.out, K9.out⟩
end Go.Proofs.YtoebmjgkfkfhjaaGreatDoor.Wd
