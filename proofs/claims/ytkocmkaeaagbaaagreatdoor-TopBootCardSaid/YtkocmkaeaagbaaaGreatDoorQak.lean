/- What a core remembers: world.badMemory; walked. · What a core remembers, by the other text: keyholdref.tlbWell; walked. · Whether a world is sound: world.Check; walked. (Written by mk_check.py.) -/
import Derived.BigQuiet
import Derived.Test.YtkocmkaeaagbaaaGreatDoorQae
import Derived.Test.YtkocmkaeaagbaaaGreatDoorQaj
namespace Go.Proofs.YtkocmkaeaagbaaaGreatDoor.Wd
open Go.RowKit Go.Proofs.YtkocmkaeaagbaaaGreatDoor.Mem Go.Proofs.YtkocmkaeaagbaaaGreatDoor.Bw Go.Proofs.YtkocmkaeaagbaaaGreatDoor.Nums Go.Proofs.YtkocmkaeaagbaaaGreatDoor.Mmu

/-- Is the j-th of what is remembered there before, or not told by the tables? -/
def emB (p : PW) (l : List Ent) (j : Nat) (e : Ent) : Bool := (l.take j).any (pg e.1 e.2.1) || !toldB p e
/-- Is what is remembered not well? -/
def bmB (p : PW) (l : List Ent) : Bool := decide (4 < l.length) || (List.range l.length).any fun j => match l[j]? with | some e => emB p l j e | none => false
theorem bm_yes {p : PW} {l : List Ent} (j : Nat) (hj : j < l.length) (h : emB p l j l[j] = true) : bmB p l = true := by
  unfold bmB
  rw [Bool.or_eq_true]
  refine .inr (List.any_eq_true.2 ⟨j, List.mem_range.2 hj, ?_⟩)
  rw [List.getElem?_eq_getElem hj]
  exact h
theorem bm_no {p : PW} {l : List Ent} (h4 : l.length ≤ 4) (h : ∀ j (hj : j < l.length), emB p l j l[j] = false) : bmB p l = false := by
  unfold bmB
  rw [decide_eq_false (by omega), Bool.false_or, List.any_eq_false]
  intro j hj
  have hj2 := List.mem_range.1 hj
  rw [List.getElem?_eq_getElem hj2]
  simp [h j hj2]
theorem find_any_b {l : List Ent} {s g : Int} : (findR l s g).2 = l.any (pg s g) := by
  unfold findR
  split
  · rename_i h
    rw [List.findIdx_lt_length] at h
    exact (List.any_eq_true.2 h).symm
  · rename_i h
    rw [List.findIdx_lt_length] at h
    refine (List.any_eq_false.2 fun x hx hp => h ⟨x, hx, hp⟩).symm
theorem tlb_take {w : World} {b off : Nat} {l : List Ent} (k : Nat) (hk : k ≤ l.length) (hz : EntsAt w b off l) (hl : l.length ≤ 100) (c2 : Nat) : TlbIn w (.slice (some ⟨b, off, none⟩) k c2) (l.take k) := by
  refine ⟨some ⟨b, off, none⟩, b, off, c2, ?_, fun _ => rfl, fun j hj => ?_, ?_⟩
  · rw [List.length_take, Nat.min_eq_left hk]
  · rw [List.length_take] at hj
    have := hz j (by omega)
    simpa using this
  · rw [List.length_take]; omega
set_option maxRecDepth 100000 in
set_option maxHeartbeats 2000000 in
theorem badMemory_any (vb : Nat) (V : Nat → Value) (p : PW) (n : Int) (x : Value) (l : List Ent) (w : World) (hv : ViewAt w vb V p) (hr : RamIn w (V 0) p.ram) (hx : TlbIn w x l) (hm : RoomV x) :
    Calls Tryz.prog 59 #[.pointer (some ⟨vb, 0, none⟩), .int .i64 n, x] w fun r w' => r = .returned (.bool (bmB p l)) ∧ Below w.heap.size w w' := by
  obtain ⟨q, b, off, cap, rfl, hq, hz, hl⟩ := hx
  by_cases h4 : 4 < l.length
  · have h42 : (4 : Int) < (l.length : Int) := by omega
    have HB := hid (show bmB p l = true by unfold bmB; rw [decide_eq_true h4]; rfl)
    clear hv hr hq hz h4 hm
    go_enter Tryz.func59, Tryz.ntmps59
    go_wp2_with fail
    go_ret
    exact ⟨by rw [HB.out]; rfl, Below.refl _ _⟩
  have h42 : ¬ (4 : Int) < (l.length : Int) := by omega
  have hm2 : l.length ≤ cap := hm
  clear hm
  have HV := hid hv
  have HR := hid hr
  have HQ := hid hq
  have HZ := hid hz
  have hl4 : l.length ≤ 4 := by omega
  clear hv hr hq hz h4
  go_enter Tryz.func59, Tryz.ntmps59
  go_wp2_with fail
  go_loopw [16] (fun i wr => ∃ k : Nat, k ≤ l.length ∧ i = .int .i64 k ∧ Hid (∀ j (hj : j < l.length), j < k → emB p l j l[j] = false) ∧ Hid (Below w.heap.size w wr)) (fun i _ => l.length - (intOf i).toNat)
  case atStart => exact ⟨0, by omega, rfl, hid fun j _ h => by omega, hid (Below.refl _ _)⟩
  case round =>
    obtain ⟨k, hk, rfl, HE, HW⟩ := hrel
    by_cases hlt : k < l.length
    · have hlt2 : (k : Int) < (l.length : Int) := by omega
      have hqe := HQ.out (by omega)
      subst hqe
      obtain ⟨c0, c1, c2, c3⟩ := (HZ.out.below HW.out) k hlt
      have HY := hid (show emB p l k l[k] = true → bmB p l = true from fun h => bm_yes k hlt h)
      have HS := hid (show emB p l k l[k] = false → ∀ j (hj : j < l.length), j < k + 1 → emB p l j l[j] = false from fun hf j hj hjk => by
        by_cases e : j = k
        · subst e; exact hf
        · exact HE.out j hj (by omega))
      generalize l[k] = e at c0 c1 c2 c3 HY HS
      obtain ⟨s, g, f, wt⟩ := e
      simp only at c0 c1 c2 c3
      go_upto_region 6 with fail
      have X0 := hid (cells_new wr #[.int .i64 s, .int .i64 g, .int .i64 f, .bool wt] 103)
      have B1 := hid (bal (Below.refl wr.heap.size wr) (.cells #[.int .i64 s, .int .i64 g, .int .i64 f, .bool wt] 103))
      have S0 := hid (show (wr.alloc (.cells #[.int .i64 s, .int .i64 g, .int .i64 f, .bool wt] 103)).heap.size = wr.heap.size + 1 by simp)
      generalize World.alloc _ _ = W0 at X0 B1 S0 ⊢
      have KS := hid (show ∀ W, Below W0.heap.size W0 W → W.cell? ⟨wr.heap.size, 0, none⟩ = some (.int .i64 s) ∧ W.cell? ⟨wr.heap.size, 1, none⟩ = some (.int .i64 g) from fun W hb => ⟨cells_next X0.out (by rw [S0.out]; omega) hb 0, cells_next X0.out (by rw [S0.out]; omega) hb 1⟩)
      have FV := hid (show ∀ W, Below W0.heap.size W0 W → TlbIn W (.slice (some ⟨b, off, none⟩) k cap) (l.take k) from fun W hb => tlb_take k (by omega) (HZ.out.below (btr (btr HW.out B1.out) hb)) (by omega) cap)
      have BD : Hid (Below W0.heap.size W0 W0.drew) := hid (below_drew W0 1)
      have hkc : (k : Int) ≤ (cap : Int) := by omega
      have HFB := hid (find_any_b (l := l.take k) (s := s) (g := g))
      clear c0 c1 c2 c3
      have FA := hid (fun W h => find_any _ (l.take k) s g W (FV.out W h))
      generalize findR (l.take k) s g = fr at FA HFB
      obtain ⟨⟨x, y, z, d⟩, t⟩ := fr
      go_cut [10] (fun r wx => Hid (r = .bool ((l.take k).any (pg s g))) ∧ Hid (Below W0.heap.size W0 wx))
      case first =>
        go_region_held3 (fun W => W.cell? ⟨wr.heap.size, 0, none⟩ = some (.int .i64 s) ∧ W.cell? ⟨wr.heap.size, 1, none⟩ = some (.int .i64 g))
          (first
            | exact KS.out _ K1.out
            | exact KS.out _ (bal A1.out _)
            | exact KS.out _ A1.out
            | exact KS.out _ (bal BD.out _)
            | exact KS.out _ BD.out)
          (first
            | (go_at_call 104; refine (FA.out _ BD.out).mono ?_; rintro r w1 ⟨rfl, hb⟩; have A1 := hid (btr BD.out hb); clear hb; unfold foundV)
            | (go_at_call 104; refine (FA.out _ (bal BD.out _)).mono ?_; rintro r w1 ⟨rfl, hb⟩; have A1 := hid (btr (bal BD.out _) hb); have HX4 := hid (cells_next (cells_at W0.drew #[.int .i64 0, .int .i64 0, .int .i64 0, .bool false] 103 W0.heap.size rfl) (show W0.heap.size < _ by simp) hb); have X4 : ∀ o, w1.cell? ⟨W0.heap.size, o, none⟩ = (#[.int .i64 0, .int .i64 0, .int .i64 0, .bool false] : Array Value)[o]? := HX4.out; have z0 : w1.frozen? ⟨W0.heap.size, 0, none⟩ = false := (hb.frozen (p := ⟨W0.heap.size, 0, none⟩) (by simp)).trans (there_four W0.drew 0 (by decide)); have z1 : w1.frozen? ⟨W0.heap.size, 1, none⟩ = false := (hb.frozen (p := ⟨W0.heap.size, 1, none⟩) (by simp)).trans (there_four W0.drew 1 (by decide)); have z2 : w1.frozen? ⟨W0.heap.size, 2, none⟩ = false := (hb.frozen (p := ⟨W0.heap.size, 2, none⟩) (by simp)).trans (there_four W0.drew 2 (by decide)); have z3 : w1.frozen? ⟨W0.heap.size, 3, none⟩ = false := (hb.frozen (p := ⟨W0.heap.size, 3, none⟩) (by simp)).trans (there_four W0.drew 3 (by decide)); have K1 := hid (show Below W0.heap.size W0 ((((w1.setCell ⟨W0.heap.size, 0, none⟩ (.int .i64 x)).setCell ⟨W0.heap.size, 1, none⟩ (.int .i64 y)).setCell ⟨W0.heap.size, 2, none⟩ (.int .i64 z)).setCell ⟨W0.heap.size, 3, none⟩ (.bool d)) from bset (bset (bset (bset A1.out (Nat.le_refl _) _) (Nat.le_refl _) _) (Nat.le_refl _) _) (Nat.le_refl _) _); clear hb; unfold foundV))
        all_goals (go_wp2_with fail; go_meet; exact ⟨hid (by rw [← HFB.out]), (by first | exact K1 | exact hid (bal A1.out _) | exact A1)⟩)
      case rest =>
        obtain ⟨hx, BX⟩ := hcut
        obtain rfl := hx.out
        have X2 := cells_next X0.out (show wr.heap.size < W0.heap.size by rw [S0.out]; omega) BX.out
        have BY := hid (btr (btr HW.out B1.out) BX.out)
        have HV2 := hid (HV.out.below BY.out)
        have HR2 := hid (HR.out.below BY.out)
        clear X0 KS FV BD FA HFB BX B1 S0 HW
        cases ht : (l.take k).any (pg s g) with
        | true =>
          have HN := hid (HY.out (by unfold emB; rw [ht]; rfl))
          clear ht HS HY
          go_wp2_with fail
          go_quiet (fail)
          have BB := hid (below_drewN BY.out nq)
          generalize World.drewN _ _ = W4 at BB ⊢
          go_wp2_with fail
          go_ret
          exact ⟨by rw [HN.out]; rfl, BB.out⟩
        | false =>
          have HN := hid (show emB p l k (s, g, f, wt) = !toldB p (s, g, f, wt) by unfold emB; rw [ht]; rfl)
          clear ht
          have KS := hid (show ∀ W, Below wc.heap.size wc W → W.cell? ⟨wr.heap.size, 0, none⟩ = some (.int .i64 s) ∧ W.cell? ⟨wr.heap.size, 1, none⟩ = some (.int .i64 g) ∧ W.cell? ⟨wr.heap.size, 2, none⟩ = some (.int .i64 f) ∧ W.cell? ⟨wr.heap.size, 3, none⟩ = some (.bool wt) from fun W hb => by
            have hlt := World.block_lt_of_cell? wc ⟨wr.heap.size, 0, none⟩ (X2 0)
            exact ⟨cells_next X2 hlt hb 0, cells_next X2 hlt hb 1, cells_next X2 hlt hb 2, cells_next X2 hlt hb 3⟩)
          have BD : Hid (Below wc.heap.size wc wc.drew) := hid (below_drew wc 1)
          have d0 := X2 0
          have d1 := X2 1
          have d2 := X2 2
          have d3 := X2 3
          clear X2
          go_wp2_with fail
          go_region_held3 (fun W => W.cell? ⟨wr.heap.size, 0, none⟩ = some (.int .i64 s) ∧ W.cell? ⟨wr.heap.size, 1, none⟩ = some (.int .i64 g) ∧ W.cell? ⟨wr.heap.size, 2, none⟩ = some (.int .i64 f) ∧ W.cell? ⟨wr.heap.size, 3, none⟩ = some (.bool wt))
            (first
              | exact KS.out _ A1.out
              | exact KS.out _ BD.out)
            (first
              | (go_at_call 105; refine (told_any vb V p s g f wt _ (HV2.out.below BD.out) (HR2.out.below BD.out)).mono ?_; rintro r w1 ⟨rfl, hb⟩; have A1 := hid (btr BD.out hb); clear hb))
          have BZ := hid (btr BY.out A1.out)
          cases ht : toldB p (s, g, f, wt) with
          | true =>
            have HM := hid (HS.out (by rw [HN.out, ht]; rfl))
            clear ht HN HY HS
            go_wp2_with fail
            exact ⟨⟨k + 1, by omega, by go_num, HM, BZ⟩, by simp [intOf]; omega⟩
          | false =>
            have HM := hid (HY.out (by rw [HN.out, ht]; rfl))
            clear ht HN HY HS
            go_wp2_with fail
            go_ret
            exact ⟨by rw [HM.out]; rfl, BZ.out⟩
    · obtain rfl : k = l.length := by omega
      have hge : ¬ ((l.length : Int) < (l.length : Int)) := by omega
      have HF := hid (show bmB p l = false from bm_no (by omega) fun k h => HE.out k h h)
      go_wp2_with fail
      go_ret
      exact ⟨by rw [HF.out]; rfl, HW.out⟩
end Go.Proofs.YtkocmkaeaagbaaaGreatDoor.Wd
namespace Go.Proofs.YtkocmkaeaagbaaaGreatDoor.Wd
open Go.RowKit Go.Proofs.YtkocmkaeaagbaaaGreatDoor.Mem Go.Proofs.YtkocmkaeaagbaaaGreatDoor.Bw Go.Proofs.YtkocmkaeaagbaaaGreatDoor.Nums Go.Proofs.YtkocmkaeaagbaaaGreatDoor.Mmu

end Go.Proofs.YtkocmkaeaagbaaaGreatDoor.Wd
namespace Go.Proofs.YtkocmkaeaagbaaaGreatDoor.Wd
open Go.RowKit Go.Proofs.YtkocmkaeaagbaaaGreatDoor.Mem Go.Proofs.YtkocmkaeaagbaaaGreatDoor.Bw Go.Proofs.YtkocmkaeaagbaaaGreatDoor.Nums Go.Proofs.YtkocmkaeaagbaaaGreatDoor.Mmu
/-- The first of a list that is not well. -/
def lk {α : Type} (bad : Nat → α → Bool) (l : List α) : Option Nat := (List.range l.length).find? fun k => match l[k]? with | some x => bad k x | none => false
theorem lk_none {α : Type} {bad : Nat → α → Bool} {l : List α} (h : ∀ k (hk : k < l.length), bad k l[k] = false) : lk bad l = none := by
 unfold lk
 rw [List.find?_eq_none]
 intro k hk
 have hk2 := List.mem_range.1 hk
 rw [List.getElem?_eq_getElem hk2]
 simp [h k hk2]
theorem lk_some {α : Type} {bad : Nat → α → Bool} {l : List α} (k : Nat) (hk : k < l.length) (h1 : bad k l[k] = true) (h2 : ∀ j (hj : j < l.length), j < k → bad j l[j] = false) : lk bad l = some k := by
 unfold lk
 rw [List.find?_range_eq_some]
 refine ⟨by rw [List.getElem?_eq_getElem hk]; exact h1, List.mem_range.2 hk, fun j hj => ?_⟩
 rw [List.getElem?_eq_getElem (by omega)]
 simp [h2 j (by omega) hj]
theorem getD_at {α : Type} {l : List α} {k : Nat} {d : α} (h : k < l.length) : l.getD k d = l[k] := by
 rw [List.getD_eq_getElem?_getD, List.getElem?_eq_getElem h]
 rfl
/-- The first that is not well, in the order of the document; its number and where it is (0, -1: all is; -1: nowhere). -/
def firstOf : List (Int × Option Nat) → Int × Int
 | [] => (0, -1)
 | (e, some k) :: _ => (e, k)
 | (_, none) :: r => firstOf r
def looks (p : PW) : List (Int × Option Nat) := [(1, lk (fun _ x => nwB x) p.ram), (3, lk (fun _ x => nkB x) p.kinds), (2, lk (fun _ x => nd x) p.doms), (8, lk (fun k s => bsB p (p.kinds.getD (k / 16) 0) s) p.slots), (8, lk (fun k x => bfB p k x) p.kinds), (8, lk (fun k f => btB p k (p.kinds.getD k 0) f) p.tasks), (8, lk (fun k l => blB p k (p.kinds.getD k 0) (p.bits.getD k 0) l) p.lines), (8, lk (fun k t => bcB p k t) p.cores), (8, lk (fun k l => brB p k l) p.ready), (9, lk (fun k x => beB p (p.kinds.getD (k / 16) 0) x) p.ram), (9, lk (fun _ l => bmB p l) p.tlbs)]
def wmA (p : PW) : Int × Int := if lfB p && within 0 1000000 p.time then firstOf (looks p) else (2, -1)
/-- The error that tells it. -/
def ChkV (w : World) (x : Value) (r : Int × Int) : Prop := (x = .nilIface ∧ r = (0, -1)) ∨ (∃ e, e ≠ 0 ∧ x = .iface 29 (.int .i64 e) ∧ r = (e, -1)) ∨
 ∃ (e k : Int) (b : Nat), e ≠ 0 ∧ w.cell? ⟨b, 0, none⟩ = some (.int .i64 k) ∧ w.cell? ⟨b, 1, none⟩ = some (.iface 29 (.int .i64 e)) ∧ x = .iface 96 (.pointer (some ⟨b, 0, none⟩)) ∧ r = (e, k)
theorem ChkV.fine {w : World} : ChkV w .nilIface (0, -1) := .inl ⟨rfl, rfl⟩
theorem ChkV.all {w : World} (e : Int) (he : e ≠ 0) : ChkV w (.iface 29 (.int .i64 e)) (e, -1) := .inr (.inl ⟨e, he, rfl, rfl⟩)
theorem ChkV.on {w : World} {e k : Int} (b : Nat) (he : e ≠ 0) (h0 : w.cell? ⟨b, 0, none⟩ = some (.int .i64 k)) (h1 : w.cell? ⟨b, 1, none⟩ = some (.iface 29 (.int .i64 e))) : ChkV w (.iface 96 (.pointer (some ⟨b, 0, none⟩))) (e, k) := .inr (.inr ⟨e, k, b, he, h0, h1, rfl, rfl⟩)
theorem nw_in {x : Int} (h : nwB x = false) : 0 ≤ x ∧ x ≤ 65535 := by
 unfold nwB wB at h
 simpa using h
theorem ram_in {w : World} {V : Nat → Value} {p : PW} (hv : WorldV w V p) (hl : LF p) (hw : ∀ k (hk : k < p.ram.length), 0 ≤ p.ram[k] ∧ p.ram[k] ≤ 65535) : RamIn w (V 0) p.ram :=
 ⟨hv.ram, fun z hz => by
  obtain ⟨k, hk, rfl⟩ := List.mem_iff_getElem.1 hz
  have := hw k hk
  omega, by
  have := hl.ram
  have := hl.k2
  omega⟩
theorem kb_of {p : PW} {g : Nat → Int} (h : ∀ k (hk : k < p.slots.length), bsB p (g k) p.slots[k] = false) : ∀ s ∈ p.slots, KB s := fun s hs => by
 obtain ⟨k, hk, rfl⟩ := List.mem_iff_getElem.1 hs
 have h1 := h k hk
 generalize p.slots[k] = s at h1 ⊢
 have hc : kc s = 0 := by
  unfold bsB at h1
  split at h1
  ·rename_i hz
   have := of_decide_eq_true hz
   unfold kc
   rw [this.1]
   exact KP.chk_2 this.2
  ·unfold opB at h1
   simp only [Bool.not_eq_false', Bool.and_eq_true, beq_iff_eq] at h1
   exact h1.1.1.2.1.1
 obtain ⟨-, -, b0, b1, l0, l1, m0, m1, -, -, -, -⟩ := KP.chk_zero hc
 refine ⟨b0, by omega, l0, by omega, m0, by omega, fun h0 => ?_⟩
 have h : KP.chk (s 0) (s 1) (s 2) (s 3) (s 4) (s 5) = 0 := hc
 rw [chk_plain] at h
 split at h
 ·omega
 split at h
 ·omega
 split at h
 ·omega
 ·omega
theorem widen {P : Program} {f : Nat} {a : Array Value} {w : World} {Q : Ending → World → Prop} (h : Calls P f a w Q) : Calls P f a w Q := h
theorem cf_0 (args : Array Value) (W : World) : (callFunc 45 args).run Tryz.prog W = .ok (.enter 45 args) W := by
 go_simp
theorem cf_1 (args : Array Value) (W : World) : (callFunc 46 args).run Tryz.prog W = .ok (.enter 46 args) W := by
 go_simp
theorem cf_2 (args : Array Value) (W : World) : (callFunc 47 args).run Tryz.prog W = .ok (.enter 47 args) W := by
 go_simp
theorem cf_3 (args : Array Value) (W : World) : (callFunc 49 args).run Tryz.prog W = .ok (.enter 49 args) W := by
 go_simp
theorem cf_4 (args : Array Value) (W : World) : (callFunc 50 args).run Tryz.prog W = .ok (.enter 50 args) W := by
 go_simp
theorem cf_5 (args : Array Value) (W : World) : (callFunc 52 args).run Tryz.prog W = .ok (.enter 52 args) W := by
 go_simp
theorem cf_6 (args : Array Value) (W : World) : (callFunc 54 args).run Tryz.prog W = .ok (.enter 54 args) W := by
 go_simp
theorem cf_7 (args : Array Value) (W : World) : (callFunc 55 args).run Tryz.prog W = .ok (.enter 55 args) W := by
 go_simp
theorem cf_8 (args : Array Value) (W : World) : (callFunc 56 args).run Tryz.prog W = .ok (.enter 56 args) W := by
 go_simp
theorem cf_9 (args : Array Value) (W : World) : (callFunc 57 args).run Tryz.prog W = .ok (.enter 57 args) W := by
 go_simp
theorem cf_10 (args : Array Value) (W : World) : (callFunc 59 args).run Tryz.prog W = .ok (.enter 59 args) W := by
 go_simp
set_option maxRecDepth 100000 in
set_option maxHeartbeats 20000000 in
theorem check_any (V : Nat → Value) (p : PW) (w : World) (hv : WorldV w V p) (hp : p.Fits) :
  Calls Tryz.prog 25 #[.agg (arr11 V)] w fun r w' => ∃ x, r = .returned x ∧ ChkV w' x (wmA p) ∧ Below w.heap.size w w' := by
 have RG := hid (boxed w V 28)
 have B0 := hid (bal (Below.refl w.heap.size w) (.cells (arr11 V) 28))
 have HF := hid hp
 have HLF := hid (listsFit_any V p (w.alloc (.cells (arr11 V) 28)) (hv.below B0.out) hp)
 have HVV := hid hv
 have htm := hv.time
 clear hv hp
 go_enter Tryz.func25, Tryz.ntmps25
 go_wp2_with (first | ((with_reducible (show wpList _ _ _ (⟨_, Op.load 28 _, _, _, _, _⟩ :: _) _ _)); refine wp_ldWg (by rfl) _ rfl _ rfl V RG.out ?_))
 generalize World.alloc _ _ = W0 at *
 refine HLF.out.mono ?_
 rintro r w1 ⟨rfl, hb⟩
 have A1 := hid hb
 have RG1 := hid (range_below RG.out hb)
 have g10 : w1.cell? ⟨w.heap.size, 10, none⟩ = some (V 10) := range_cell RG1.out rfl
 rw [htm] at g10
 clear hb HLF htm
 cases hl : lfB p with
 | false =>
  have HN := hid (show wmA p = (2, -1) by unfold wmA; rw [hl]; rfl)
  go_wp2_with fail
  go_ret
  exact ⟨_, rfl, by rw [HN.out]; exact .all 2 (by decide), btr B0.out A1.out⟩
 | true =>
 have HL := hid (lfB_in hl)
 go_wp2_with fail
 refine (withinB p.time 0 1000000 _).mono ?_
 rintro r w2 ⟨rfl, rfl⟩
 cases hw : within 0 1000000 p.time with
 | false =>
  have HN := hid (show wmA p = (2, -1) by unfold wmA; rw [hl, hw]; rfl)
  go_wp2_with fail
  go_ret
  exact ⟨_, rfl, by rw [HN.out]; exact .all 2 (by decide), btr B0.out A1.out⟩
 | true =>
 have HA := hid (show wmA p = firstOf (looks p) by unfold wmA; rw [hl, hw]; rfl)
 clear hl hw
 have BV := hid (btr (btr B0.out A1.out) (bal (Below.refl w1.heap.size w1) (.cells (arr11 V) 107)))
 have RV := hid (show (w1.alloc (.cells (arr11 V) 107)).rangeAt w1.heap.size 0 (arr11 V).toList from boxed w1 V 107)
 clear g10
 go_upto_region 4 with (first | ((with_reducible (show wpList _ _ _ (⟨_, Op.load 28 _, _, _, _, _⟩ :: _) _ _)); refine wp_ldWg (by rfl) _ rfl _ rfl V RG1.out ?_))
 generalize w1.heap.size = vb at *
 generalize World.alloc _ _ = v0 at BV RV ⊢
 have HVW := hid (show ∀ W, Below v0.heap.size v0 W → ViewAt W vb V p from fun W hb => ⟨range_below RV.out hb, HVV.out.below (btr BV.out hb), HF.out⟩)
 have C0 := hid (Below.refl v0.heap.size v0)
 have g0 : v0.cell? ⟨vb, 0, none⟩ = some (V 0) := range_cell (HVW.out v0 C0.out).r rfl
 have HC0 := hid (look_int 45 #[] (fun _ x => nwB x) 1 (V 0) p.ram v0 ((HVW.out v0 C0.out).v.ram) HF.out.ram cf_0 (fun k hk W hb => (noWord_any k _ W).mono fun _ _ h => ⟨h.1, h.2 ▸ Below.refl _ _⟩))
 go_wp2_with fail
 refine (widen HC0.out).mono ?_
 rintro r v1 ⟨x, rfl, hT, hb⟩
 have C1 := hid (btr C0.out hb)
 clear hb g0 HC0
 rcases hT with ⟨hN, rfl⟩ | ⟨k, b, hk, h1, h2, rfl, y0, y1⟩
 rotate_left
 ·have HN := hid (show wmA p = (1, (k : Int)) by
   rw [HA.out]
   unfold looks
   rw [lk_some k hk h1 h2]
   rfl)
  have Y := hid (show ChkV v1 (.iface 96 (.pointer (some ⟨b, 0, none⟩))) (1, (k : Int)) from .on b (by decide) y0 y1)
  clear y0 y1 h1 h2
  have t0 : v1.cell? ⟨vb, 0, none⟩ = some (V 0) := range_cell (HVW.out v1 C1.out).r rfl
  have t1 : v1.cell? ⟨vb, 1, none⟩ = some (V 1) := range_cell (HVW.out v1 C1.out).r rfl
  have t2 : v1.cell? ⟨vb, 2, none⟩ = some (V 2) := range_cell (HVW.out v1 C1.out).r rfl
  have t3 : v1.cell? ⟨vb, 3, none⟩ = some (V 3) := range_cell (HVW.out v1 C1.out).r rfl
  have t4 : v1.cell? ⟨vb, 4, none⟩ = some (V 4) := range_cell (HVW.out v1 C1.out).r rfl
  have t6 : v1.cell? ⟨vb, 6, none⟩ = some (V 6) := range_cell (HVW.out v1 C1.out).r rfl
  have t7 : v1.cell? ⟨vb, 7, none⟩ = some (V 7) := range_cell (HVW.out v1 C1.out).r rfl
  have t8 : v1.cell? ⟨vb, 8, none⟩ = some (V 8) := range_cell (HVW.out v1 C1.out).r rfl
  have t9 : v1.cell? ⟨vb, 9, none⟩ = some (V 9) := range_cell (HVW.out v1 C1.out).r rfl
  go_wp2_with fail
  refine (skip_int _ _ _ _ _).mono ?_
  rintro r w1 ⟨rfl, rfl⟩
  go_wp2_with fail
  refine (skip_int _ _ _ _ _).mono ?_
  rintro r w1 ⟨rfl, rfl⟩
  go_wp2_with fail
  refine (skip_slots _ _ _ _ _).mono ?_
  rintro r w1 ⟨rfl, rfl⟩
  go_wp2_with fail
  refine (skip_int _ _ _ _ _).mono ?_
  rintro r w1 ⟨rfl, rfl⟩
  go_wp2_with fail
  refine (skip_tasks _ _ _ _ _).mono ?_
  rintro r w1 ⟨rfl, rfl⟩
  go_wp2_with fail
  refine (skip_lists _ _ _ _ _).mono ?_
  rintro r w1 ⟨rfl, rfl⟩
  go_wp2_with fail
  refine (skip_int _ _ _ _ _).mono ?_
  rintro r w1 ⟨rfl, rfl⟩
  go_wp2_with fail
  refine (skip_lists _ _ _ _ _).mono ?_
  rintro r w1 ⟨rfl, rfl⟩
  go_wp2_with fail
  refine (skip_int _ _ _ _ _).mono ?_
  rintro r w1 ⟨rfl, rfl⟩
  go_wp2_with fail
  refine (skip_tlbs _ _ _ _ _).mono ?_
  rintro r w1 ⟨rfl, rfl⟩
  go_wp2_with fail
  go_ret
  exact ⟨_, rfl, by rw [HN.out]; exact Y.out, btr BV.out C1.out⟩
 have L0 := hid (lk_none hN)
 have HRW := hid (fun (k : Nat) (hk : k < p.ram.length) => nw_in (hN k hk))
 have HRM := hid (fun W (hb : Below v0.heap.size v0 W) => ram_in (HVW.out W (btr C0.out hb)).v HL.out HRW.out)
 clear hN
 have g1 : v1.cell? ⟨vb, 1, none⟩ = some (V 1) := range_cell (HVW.out v1 C1.out).r rfl
 have HC1 := hid (look_int 46 #[] (fun _ x => nkB x) 3 (V 1) p.kinds v1 ((HVW.out v1 C1.out).v.kinds) HF.out.kinds cf_1 (fun k hk W hb => (noKind_any k _ W).mono fun _ _ h => ⟨h.1, h.2 ▸ Below.refl _ _⟩))
 go_wp2_with fail
 refine (widen HC1.out).mono ?_
 rintro r v2 ⟨x, rfl, hT, hb⟩
 have C2 := hid (btr C1.out hb)
 clear hb g1 HC1
 rcases hT with ⟨hN, rfl⟩ | ⟨k, b, hk, h1, h2, rfl, y0, y1⟩
 rotate_left
 ·have HN := hid (show wmA p = (3, (k : Int)) by
   rw [HA.out]
   unfold looks
   rw [L0.out, lk_some k hk h1 h2]
   rfl)
  have Y := hid (show ChkV v2 (.iface 96 (.pointer (some ⟨b, 0, none⟩))) (3, (k : Int)) from .on b (by decide) y0 y1)
  clear y0 y1 h1 h2
  have t0 : v2.cell? ⟨vb, 0, none⟩ = some (V 0) := range_cell (HVW.out v2 C2.out).r rfl
  have t1 : v2.cell? ⟨vb, 1, none⟩ = some (V 1) := range_cell (HVW.out v2 C2.out).r rfl
  have t2 : v2.cell? ⟨vb, 2, none⟩ = some (V 2) := range_cell (HVW.out v2 C2.out).r rfl
  have t3 : v2.cell? ⟨vb, 3, none⟩ = some (V 3) := range_cell (HVW.out v2 C2.out).r rfl
  have t4 : v2.cell? ⟨vb, 4, none⟩ = some (V 4) := range_cell (HVW.out v2 C2.out).r rfl
  have t6 : v2.cell? ⟨vb, 6, none⟩ = some (V 6) := range_cell (HVW.out v2 C2.out).r rfl
  have t7 : v2.cell? ⟨vb, 7, none⟩ = some (V 7) := range_cell (HVW.out v2 C2.out).r rfl
  have t8 : v2.cell? ⟨vb, 8, none⟩ = some (V 8) := range_cell (HVW.out v2 C2.out).r rfl
  have t9 : v2.cell? ⟨vb, 9, none⟩ = some (V 9) := range_cell (HVW.out v2 C2.out).r rfl
  go_wp2_with fail
  refine (skip_int _ _ _ _ _).mono ?_
  rintro r w1 ⟨rfl, rfl⟩
  go_wp2_with fail
  refine (skip_slots _ _ _ _ _).mono ?_
  rintro r w1 ⟨rfl, rfl⟩
  go_wp2_with fail
  refine (skip_int _ _ _ _ _).mono ?_
  rintro r w1 ⟨rfl, rfl⟩
  go_wp2_with fail
  refine (skip_tasks _ _ _ _ _).mono ?_
  rintro r w1 ⟨rfl, rfl⟩
  go_wp2_with fail
  refine (skip_lists _ _ _ _ _).mono ?_
  rintro r w1 ⟨rfl, rfl⟩
  go_wp2_with fail
  refine (skip_int _ _ _ _ _).mono ?_
  rintro r w1 ⟨rfl, rfl⟩
  go_wp2_with fail
  refine (skip_lists _ _ _ _ _).mono ?_
  rintro r w1 ⟨rfl, rfl⟩
  go_wp2_with fail
  refine (skip_int _ _ _ _ _).mono ?_
  rintro r w1 ⟨rfl, rfl⟩
  go_wp2_with fail
  refine (skip_tlbs _ _ _ _ _).mono ?_
  rintro r w1 ⟨rfl, rfl⟩
  go_wp2_with fail
  go_ret
  exact ⟨_, rfl, by rw [HN.out]; exact Y.out, btr BV.out C2.out⟩
 have L1 := hid (lk_none hN)
 clear hN
 have g2 : v2.cell? ⟨vb, 9, none⟩ = some (V 9) := range_cell (HVW.out v2 C2.out).r rfl
 have HC2 := hid (look_int 47 #[] (fun _ x => nd x) 2 (V 9) p.doms v2 ((HVW.out v2 C2.out).v.doms) HF.out.doms cf_2 (fun k hk W hb => (noDom_any k _ W).mono fun _ _ h => ⟨h.1, h.2 ▸ Below.refl _ _⟩))
 go_wp2_with fail
 refine (widen HC2.out).mono ?_
 rintro r v3 ⟨x, rfl, hT, hb⟩
 have C3 := hid (btr C2.out hb)
 clear hb g2 HC2
 rcases hT with ⟨hN, rfl⟩ | ⟨k, b, hk, h1, h2, rfl, y0, y1⟩
 rotate_left
 ·have HN := hid (show wmA p = (2, (k : Int)) by
   rw [HA.out]
   unfold looks
   rw [L0.out, L1.out, lk_some k hk h1 h2]
   rfl)
  have Y := hid (show ChkV v3 (.iface 96 (.pointer (some ⟨b, 0, none⟩))) (2, (k : Int)) from .on b (by decide) y0 y1)
  clear y0 y1 h1 h2
  have t0 : v3.cell? ⟨vb, 0, none⟩ = some (V 0) := range_cell (HVW.out v3 C3.out).r rfl
  have t1 : v3.cell? ⟨vb, 1, none⟩ = some (V 1) := range_cell (HVW.out v3 C3.out).r rfl
  have t2 : v3.cell? ⟨vb, 2, none⟩ = some (V 2) := range_cell (HVW.out v3 C3.out).r rfl
  have t3 : v3.cell? ⟨vb, 3, none⟩ = some (V 3) := range_cell (HVW.out v3 C3.out).r rfl
  have t4 : v3.cell? ⟨vb, 4, none⟩ = some (V 4) := range_cell (HVW.out v3 C3.out).r rfl
  have t6 : v3.cell? ⟨vb, 6, none⟩ = some (V 6) := range_cell (HVW.out v3 C3.out).r rfl
  have t7 : v3.cell? ⟨vb, 7, none⟩ = some (V 7) := range_cell (HVW.out v3 C3.out).r rfl
  have t8 : v3.cell? ⟨vb, 8, none⟩ = some (V 8) := range_cell (HVW.out v3 C3.out).r rfl
  go_wp2_with fail
  refine (skip_slots _ _ _ _ _).mono ?_
  rintro r w1 ⟨rfl, rfl⟩
  go_wp2_with fail
  refine (skip_int _ _ _ _ _).mono ?_
  rintro r w1 ⟨rfl, rfl⟩
  go_wp2_with fail
  refine (skip_tasks _ _ _ _ _).mono ?_
  rintro r w1 ⟨rfl, rfl⟩
  go_wp2_with fail
  refine (skip_lists _ _ _ _ _).mono ?_
  rintro r w1 ⟨rfl, rfl⟩
  go_wp2_with fail
  refine (skip_int _ _ _ _ _).mono ?_
  rintro r w1 ⟨rfl, rfl⟩
  go_wp2_with fail
  refine (skip_lists _ _ _ _ _).mono ?_
  rintro r w1 ⟨rfl, rfl⟩
  go_wp2_with fail
  refine (skip_int _ _ _ _ _).mono ?_
  rintro r w1 ⟨rfl, rfl⟩
  go_wp2_with fail
  refine (skip_tlbs _ _ _ _ _).mono ?_
  rintro r w1 ⟨rfl, rfl⟩
  go_wp2_with fail
  go_ret
  exact ⟨_, rfl, by rw [HN.out]; exact Y.out, btr BV.out C3.out⟩
 have L2 := hid (lk_none hN)
 clear hN
 have g3 : v3.cell? ⟨vb, 2, none⟩ = some (V 2) := range_cell (HVW.out v3 C3.out).r rfl
 have HC3 := hid (look_slots 49 #[.pointer (some ⟨vb, 0, none⟩)] (fun k s => bsB p (p.kinds.getD (k / 16) 0) s) 8 (V 2) p.slots v3 ((HVW.out v3 C3.out).v.slots) HF.out.slots cf_3 (fun k hk W hb => by
   have hk2 : k / 16 < p.kinds.length := by have := HL.out.slots; omega
   have := badSlot_any vb V p k (k / 16) p.slots[k] W (HVW.out W (btr C3.out hb)) (by omega) hk2
   rw [← getD_at hk2] at this
   exact this))
 go_wp2_with fail
 refine (widen HC3.out).mono ?_
 rintro r v4 ⟨x, rfl, hT, hb⟩
 have C4 := hid (btr C3.out hb)
 clear hb g3 HC3
 rcases hT with ⟨hN, rfl⟩ | ⟨k, b, hk, h1, h2, rfl, y0, y1⟩
 rotate_left
 ·have HN := hid (show wmA p = (8, (k : Int)) by
   rw [HA.out]
   unfold looks
   rw [L0.out, L1.out, L2.out, lk_some k hk h1 h2]
   rfl)
  have Y := hid (show ChkV v4 (.iface 96 (.pointer (some ⟨b, 0, none⟩))) (8, (k : Int)) from .on b (by decide) y0 y1)
  clear y0 y1 h1 h2
  have t0 : v4.cell? ⟨vb, 0, none⟩ = some (V 0) := range_cell (HVW.out v4 C4.out).r rfl
  have t1 : v4.cell? ⟨vb, 1, none⟩ = some (V 1) := range_cell (HVW.out v4 C4.out).r rfl
  have t3 : v4.cell? ⟨vb, 3, none⟩ = some (V 3) := range_cell (HVW.out v4 C4.out).r rfl
  have t4 : v4.cell? ⟨vb, 4, none⟩ = some (V 4) := range_cell (HVW.out v4 C4.out).r rfl
  have t6 : v4.cell? ⟨vb, 6, none⟩ = some (V 6) := range_cell (HVW.out v4 C4.out).r rfl
  have t7 : v4.cell? ⟨vb, 7, none⟩ = some (V 7) := range_cell (HVW.out v4 C4.out).r rfl
  have t8 : v4.cell? ⟨vb, 8, none⟩ = some (V 8) := range_cell (HVW.out v4 C4.out).r rfl
  go_wp2_with fail
  refine (skip_int _ _ _ _ _).mono ?_
  rintro r w1 ⟨rfl, rfl⟩
  go_wp2_with fail
  refine (skip_tasks _ _ _ _ _).mono ?_
  rintro r w1 ⟨rfl, rfl⟩
  go_wp2_with fail
  refine (skip_lists _ _ _ _ _).mono ?_
  rintro r w1 ⟨rfl, rfl⟩
  go_wp2_with fail
  refine (skip_int _ _ _ _ _).mono ?_
  rintro r w1 ⟨rfl, rfl⟩
  go_wp2_with fail
  refine (skip_lists _ _ _ _ _).mono ?_
  rintro r w1 ⟨rfl, rfl⟩
  go_wp2_with fail
  refine (skip_int _ _ _ _ _).mono ?_
  rintro r w1 ⟨rfl, rfl⟩
  go_wp2_with fail
  refine (skip_tlbs _ _ _ _ _).mono ?_
  rintro r w1 ⟨rfl, rfl⟩
  go_wp2_with fail
  go_ret
  exact ⟨_, rfl, by rw [HN.out]; exact Y.out, btr BV.out C4.out⟩
 have L3 := hid (lk_none hN)
 have HKB := hid (kb_of (fun k hk => hN k hk))
 clear hN
 have g4 : v4.cell? ⟨vb, 1, none⟩ = some (V 1) := range_cell (HVW.out v4 C4.out).r rfl
 have HC4 := hid (look_int 50 #[.pointer (some ⟨vb, 0, none⟩)] (fun k x => bfB p k x) 8 (V 1) p.kinds v4 ((HVW.out v4 C4.out).v.kinds) HF.out.kinds cf_4 (fun k hk W hb => (badFrame_any vb V p k _ W (HVW.out W (btr C4.out hb)) HKB.out)))
 go_wp2_with fail
 refine (widen HC4.out).mono ?_
 rintro r v5 ⟨x, rfl, hT, hb⟩
 have C5 := hid (btr C4.out hb)
 clear hb g4 HC4
 rcases hT with ⟨hN, rfl⟩ | ⟨k, b, hk, h1, h2, rfl, y0, y1⟩
 rotate_left
 ·have HN := hid (show wmA p = (8, (k : Int)) by
   rw [HA.out]
   unfold looks
   rw [L0.out, L1.out, L2.out, L3.out, lk_some k hk h1 h2]
   rfl)
  have Y := hid (show ChkV v5 (.iface 96 (.pointer (some ⟨b, 0, none⟩))) (8, (k : Int)) from .on b (by decide) y0 y1)
  clear y0 y1 h1 h2
  have t0 : v5.cell? ⟨vb, 0, none⟩ = some (V 0) := range_cell (HVW.out v5 C5.out).r rfl
  have t3 : v5.cell? ⟨vb, 3, none⟩ = some (V 3) := range_cell (HVW.out v5 C5.out).r rfl
  have t4 : v5.cell? ⟨vb, 4, none⟩ = some (V 4) := range_cell (HVW.out v5 C5.out).r rfl
  have t6 : v5.cell? ⟨vb, 6, none⟩ = some (V 6) := range_cell (HVW.out v5 C5.out).r rfl
  have t7 : v5.cell? ⟨vb, 7, none⟩ = some (V 7) := range_cell (HVW.out v5 C5.out).r rfl
  have t8 : v5.cell? ⟨vb, 8, none⟩ = some (V 8) := range_cell (HVW.out v5 C5.out).r rfl
  go_wp2_with fail
  refine (skip_tasks _ _ _ _ _).mono ?_
  rintro r w1 ⟨rfl, rfl⟩
  go_wp2_with fail
  refine (skip_lists _ _ _ _ _).mono ?_
  rintro r w1 ⟨rfl, rfl⟩
  go_wp2_with fail
  refine (skip_int _ _ _ _ _).mono ?_
  rintro r w1 ⟨rfl, rfl⟩
  go_wp2_with fail
  refine (skip_lists _ _ _ _ _).mono ?_
  rintro r w1 ⟨rfl, rfl⟩
  go_wp2_with fail
  refine (skip_int _ _ _ _ _).mono ?_
  rintro r w1 ⟨rfl, rfl⟩
  go_wp2_with fail
  refine (skip_tlbs _ _ _ _ _).mono ?_
  rintro r w1 ⟨rfl, rfl⟩
  go_wp2_with fail
  go_ret
  exact ⟨_, rfl, by rw [HN.out]; exact Y.out, btr BV.out C5.out⟩
 have L4 := hid (lk_none hN)
 clear hN
 have g5 : v5.cell? ⟨vb, 3, none⟩ = some (V 3) := range_cell (HVW.out v5 C5.out).r rfl
 have HC5 := hid (look_tasks 52 #[.pointer (some ⟨vb, 0, none⟩)] (fun k f => btB p k (p.kinds.getD k 0) f) 8 (V 3) p.tasks v5 ((HVW.out v5 C5.out).v.tasks) HF.out.tasks cf_5 (fun k hk W hb => by
   have hk2 : k < p.kinds.length := by have := HL.out.tasks; omega
   have := badTask_any vb V p k p.tasks[k] W (HVW.out W (btr C5.out hb)) hk2 HL.out.tasks HL.out.lines
   rw [← getD_at hk2] at this
   exact this))
 go_wp2_with fail
 refine (widen HC5.out).mono ?_
 rintro r v6 ⟨x, rfl, hT, hb⟩
 have C6 := hid (btr C5.out hb)
 clear hb g5 HC5
 rcases hT with ⟨hN, rfl⟩ | ⟨k, b, hk, h1, h2, rfl, y0, y1⟩
 rotate_left
 ·have HN := hid (show wmA p = (8, (k : Int)) by
   rw [HA.out]
   unfold looks
   rw [L0.out, L1.out, L2.out, L3.out, L4.out, lk_some k hk h1 h2]
   rfl)
  have Y := hid (show ChkV v6 (.iface 96 (.pointer (some ⟨b, 0, none⟩))) (8, (k : Int)) from .on b (by decide) y0 y1)
  clear y0 y1 h1 h2
  have t0 : v6.cell? ⟨vb, 0, none⟩ = some (V 0) := range_cell (HVW.out v6 C6.out).r rfl
  have t4 : v6.cell? ⟨vb, 4, none⟩ = some (V 4) := range_cell (HVW.out v6 C6.out).r rfl
  have t6 : v6.cell? ⟨vb, 6, none⟩ = some (V 6) := range_cell (HVW.out v6 C6.out).r rfl
  have t7 : v6.cell? ⟨vb, 7, none⟩ = some (V 7) := range_cell (HVW.out v6 C6.out).r rfl
  have t8 : v6.cell? ⟨vb, 8, none⟩ = some (V 8) := range_cell (HVW.out v6 C6.out).r rfl
  go_wp2_with fail
  refine (skip_lists _ _ _ _ _).mono ?_
  rintro r w1 ⟨rfl, rfl⟩
  go_wp2_with fail
  refine (skip_int _ _ _ _ _).mono ?_
  rintro r w1 ⟨rfl, rfl⟩
  go_wp2_with fail
  refine (skip_lists _ _ _ _ _).mono ?_
  rintro r w1 ⟨rfl, rfl⟩
  go_wp2_with fail
  refine (skip_int _ _ _ _ _).mono ?_
  rintro r w1 ⟨rfl, rfl⟩
  go_wp2_with fail
  refine (skip_tlbs _ _ _ _ _).mono ?_
  rintro r w1 ⟨rfl, rfl⟩
  go_wp2_with fail
  go_ret
  exact ⟨_, rfl, by rw [HN.out]; exact Y.out, btr BV.out C6.out⟩
 have L5 := hid (lk_none hN)
 clear hN
 have g6 : v6.cell? ⟨vb, 4, none⟩ = some (V 4) := range_cell (HVW.out v6 C6.out).r rfl
 have HC6 := hid (look_lists 54 #[.pointer (some ⟨vb, 0, none⟩)] (fun k l => blB p k (p.kinds.getD k 0) (p.bits.getD k 0) l) 8 (V 4) p.lines v6 ((HVW.out v6 C6.out).v.lines) HF.out.lines cf_6 (fun k hk W x hb hx => by
   have hk2 : k < p.kinds.length := by have := HL.out.lines; omega
   have hk3 : k < p.bits.length := by have := HL.out.lines; have := HL.out.bits; omega
   have := badLine_any vb V p k x p.lines[k] W (HVW.out W (btr C6.out hb)) HL.out.tasks hk2 hk3 hx (HF.out.line _ (List.getElem_mem hk))
   rw [← getD_at hk2, ← getD_at hk3] at this
   exact this))
 go_wp2_with fail
 refine (widen HC6.out).mono ?_
 rintro r v7 ⟨x, rfl, hT, hb⟩
 have C7 := hid (btr C6.out hb)
 clear hb g6 HC6
 rcases hT with ⟨hN, rfl⟩ | ⟨k, b, hk, h1, h2, rfl, y0, y1⟩
 rotate_left
 ·have HN := hid (show wmA p = (8, (k : Int)) by
   rw [HA.out]
   unfold looks
   rw [L0.out, L1.out, L2.out, L3.out, L4.out, L5.out, lk_some k hk h1 h2]
   rfl)
  have Y := hid (show ChkV v7 (.iface 96 (.pointer (some ⟨b, 0, none⟩))) (8, (k : Int)) from .on b (by decide) y0 y1)
  clear y0 y1 h1 h2
  have t0 : v7.cell? ⟨vb, 0, none⟩ = some (V 0) := range_cell (HVW.out v7 C7.out).r rfl
  have t6 : v7.cell? ⟨vb, 6, none⟩ = some (V 6) := range_cell (HVW.out v7 C7.out).r rfl
  have t7 : v7.cell? ⟨vb, 7, none⟩ = some (V 7) := range_cell (HVW.out v7 C7.out).r rfl
  have t8 : v7.cell? ⟨vb, 8, none⟩ = some (V 8) := range_cell (HVW.out v7 C7.out).r rfl
  go_wp2_with fail
  refine (skip_int _ _ _ _ _).mono ?_
  rintro r w1 ⟨rfl, rfl⟩
  go_wp2_with fail
  refine (skip_lists _ _ _ _ _).mono ?_
  rintro r w1 ⟨rfl, rfl⟩
  go_wp2_with fail
  refine (skip_int _ _ _ _ _).mono ?_
  rintro r w1 ⟨rfl, rfl⟩
  go_wp2_with fail
  refine (skip_tlbs _ _ _ _ _).mono ?_
  rintro r w1 ⟨rfl, rfl⟩
  go_wp2_with fail
  go_ret
  exact ⟨_, rfl, by rw [HN.out]; exact Y.out, btr BV.out C7.out⟩
 have L6 := hid (lk_none hN)
 clear hN
 have g7 : v7.cell? ⟨vb, 6, none⟩ = some (V 6) := range_cell (HVW.out v7 C7.out).r rfl
 have HC7 := hid (look_int 55 #[.pointer (some ⟨vb, 0, none⟩)] (fun k t => bcB p k t) 8 (V 6) p.cores v7 ((HVW.out v7 C7.out).v.cores) HF.out.cores cf_7 (fun k hk W hb => (badCore_any vb V p k _ W (HVW.out W (btr C7.out hb)) HL.out.tasks).mono fun _ _ h => ⟨h.1, h.2 ▸ Below.refl _ _⟩))
 go_wp2_with fail
 refine (widen HC7.out).mono ?_
 rintro r v8 ⟨x, rfl, hT, hb⟩
 have C8 := hid (btr C7.out hb)
 clear hb g7 HC7
 rcases hT with ⟨hN, rfl⟩ | ⟨k, b, hk, h1, h2, rfl, y0, y1⟩
 rotate_left
 ·have HN := hid (show wmA p = (8, (k : Int)) by
   rw [HA.out]
   unfold looks
   rw [L0.out, L1.out, L2.out, L3.out, L4.out, L5.out, L6.out, lk_some k hk h1 h2]
   rfl)
  have Y := hid (show ChkV v8 (.iface 96 (.pointer (some ⟨b, 0, none⟩))) (8, (k : Int)) from .on b (by decide) y0 y1)
  clear y0 y1 h1 h2
  have t0 : v8.cell? ⟨vb, 0, none⟩ = some (V 0) := range_cell (HVW.out v8 C8.out).r rfl
  have t7 : v8.cell? ⟨vb, 7, none⟩ = some (V 7) := range_cell (HVW.out v8 C8.out).r rfl
  have t8 : v8.cell? ⟨vb, 8, none⟩ = some (V 8) := range_cell (HVW.out v8 C8.out).r rfl
  go_wp2_with fail
  refine (skip_lists _ _ _ _ _).mono ?_
  rintro r w1 ⟨rfl, rfl⟩
  go_wp2_with fail
  refine (skip_int _ _ _ _ _).mono ?_
  rintro r w1 ⟨rfl, rfl⟩
  go_wp2_with fail
  refine (skip_tlbs _ _ _ _ _).mono ?_
  rintro r w1 ⟨rfl, rfl⟩
  go_wp2_with fail
  go_ret
  exact ⟨_, rfl, by rw [HN.out]; exact Y.out, btr BV.out C8.out⟩
 have L7 := hid (lk_none hN)
 clear hN
 have g8 : v8.cell? ⟨vb, 7, none⟩ = some (V 7) := range_cell (HVW.out v8 C8.out).r rfl
 have HC8 := hid (look_lists 56 #[.pointer (some ⟨vb, 0, none⟩)] (fun k l => brB p k l) 8 (V 7) p.ready v8 ((HVW.out v8 C8.out).v.ready) HF.out.ready cf_8 (fun k hk W x hb hx => (badReady_any vb V p k x _ W (HVW.out W (btr C8.out hb)) HL.out.tasks hx (HF.out.next _ (List.getElem_mem hk)) (by have := HF.out.ready; omega)).mono fun _ _ h => ⟨h.1, h.2 ▸ Below.refl _ _⟩))
 go_wp2_with fail
 refine (widen HC8.out).mono ?_
 rintro r v9 ⟨x, rfl, hT, hb⟩
 have C9 := hid (btr C8.out hb)
 clear hb g8 HC8
 rcases hT with ⟨hN, rfl⟩ | ⟨k, b, hk, h1, h2, rfl, y0, y1⟩
 rotate_left
 ·have HN := hid (show wmA p = (8, (k : Int)) by
   rw [HA.out]
   unfold looks
   rw [L0.out, L1.out, L2.out, L3.out, L4.out, L5.out, L6.out, L7.out, lk_some k hk h1 h2]
   rfl)
  have Y := hid (show ChkV v9 (.iface 96 (.pointer (some ⟨b, 0, none⟩))) (8, (k : Int)) from .on b (by decide) y0 y1)
  clear y0 y1 h1 h2
  have t0 : v9.cell? ⟨vb, 0, none⟩ = some (V 0) := range_cell (HVW.out v9 C9.out).r rfl
  have t8 : v9.cell? ⟨vb, 8, none⟩ = some (V 8) := range_cell (HVW.out v9 C9.out).r rfl
  go_wp2_with fail
  refine (skip_int _ _ _ _ _).mono ?_
  rintro r w1 ⟨rfl, rfl⟩
  go_wp2_with fail
  refine (skip_tlbs _ _ _ _ _).mono ?_
  rintro r w1 ⟨rfl, rfl⟩
  go_wp2_with fail
  go_ret
  exact ⟨_, rfl, by rw [HN.out]; exact Y.out, btr BV.out C9.out⟩
 have L8 := hid (lk_none hN)
 clear hN
 have g9 : v9.cell? ⟨vb, 0, none⟩ = some (V 0) := range_cell (HVW.out v9 C9.out).r rfl
 have HC9 := hid (look_int 57 #[.pointer (some ⟨vb, 0, none⟩)] (fun k x => beB p (p.kinds.getD (k / 16) 0) x) 9 (V 0) p.ram v9 ((HVW.out v9 C9.out).v.ram) HF.out.ram cf_9 (fun k hk W hb => by
   have hk2 : k / 16 < p.kinds.length := by have := HL.out.ram; omega
   have := badEntry_any vb V p k (k / 16) p.ram[k] W (HVW.out W (btr C9.out hb)) (by have := HF.out.ram; omega) (by omega) hk2 (HRW.out k hk)
   rw [← getD_at hk2] at this
   exact this.mono fun _ _ h => ⟨h.1, h.2 ▸ Below.refl _ _⟩))
 go_wp2_with fail
 refine (widen HC9.out).mono ?_
 rintro r v10 ⟨x, rfl, hT, hb⟩
 have C10 := hid (btr C9.out hb)
 clear hb g9 HC9
 rcases hT with ⟨hN, rfl⟩ | ⟨k, b, hk, h1, h2, rfl, y0, y1⟩
 rotate_left
 ·have HN := hid (show wmA p = (9, (k : Int)) by
   rw [HA.out]
   unfold looks
   rw [L0.out, L1.out, L2.out, L3.out, L4.out, L5.out, L6.out, L7.out, L8.out, lk_some k hk h1 h2]
   rfl)
  have Y := hid (show ChkV v10 (.iface 96 (.pointer (some ⟨b, 0, none⟩))) (9, (k : Int)) from .on b (by decide) y0 y1)
  clear y0 y1 h1 h2
  have t8 : v10.cell? ⟨vb, 8, none⟩ = some (V 8) := range_cell (HVW.out v10 C10.out).r rfl
  go_wp2_with fail
  refine (skip_tlbs _ _ _ _ _).mono ?_
  rintro r w1 ⟨rfl, rfl⟩
  go_wp2_with fail
  go_ret
  exact ⟨_, rfl, by rw [HN.out]; exact Y.out, btr BV.out C10.out⟩
 have L9 := hid (lk_none hN)
 clear hN
 have g10 : v10.cell? ⟨vb, 8, none⟩ = some (V 8) := range_cell (HVW.out v10 C10.out).r rfl
 have HC10 := hid (look_tlbs 59 #[.pointer (some ⟨vb, 0, none⟩)] (fun _ l => bmB p l) 9 (V 8) p.tlbs v10 ((HVW.out v10 C10.out).v.tlbs) HF.out.tlbs cf_10 (fun k hk W x hb hx hm => badMemory_any vb V p k x _ W (HVW.out W (btr C10.out hb)) (HRM.out W (btr C10.out hb)) hx hm))
 go_wp2_with fail
 refine (widen HC10.out).mono ?_
 rintro r v11 ⟨x, rfl, hT, hb⟩
 have C11 := hid (btr C10.out hb)
 clear hb g10 HC10
 rcases hT with ⟨hN, rfl⟩ | ⟨k, b, hk, h1, h2, rfl, y0, y1⟩
 rotate_left
 ·have HN := hid (show wmA p = (9, (k : Int)) by
   rw [HA.out]
   unfold looks
   rw [L0.out, L1.out, L2.out, L3.out, L4.out, L5.out, L6.out, L7.out, L8.out, L9.out, lk_some k hk h1 h2]
   rfl)
  have Y := hid (show ChkV v11 (.iface 96 (.pointer (some ⟨b, 0, none⟩))) (9, (k : Int)) from .on b (by decide) y0 y1)
  clear y0 y1 h1 h2
  go_wp2_with fail
  go_ret
  exact ⟨_, rfl, by rw [HN.out]; exact Y.out, btr BV.out C11.out⟩
 have L10 := hid (lk_none hN)
 clear hN
 have HN := hid (show wmA p = (0, -1) by
  rw [HA.out]
  unfold looks
  rw [L0.out, L1.out, L2.out, L3.out, L4.out, L5.out, L6.out, L7.out, L8.out, L9.out, L10.out]
  rfl)
 go_wp2_with fail
 go_ret
 exact ⟨_, rfl, by rw [HN.out]; exact .fine, btr BV.out C11.out⟩
end Go.Proofs.YtkocmkaeaagbaaaGreatDoor.Wd
