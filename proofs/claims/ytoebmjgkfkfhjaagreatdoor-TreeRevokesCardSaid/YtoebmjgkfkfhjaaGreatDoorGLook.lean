/- A world that is handed in and not huge; world.look over numbers, walked. · world.look over lists of numbers, lists of entries, slots and tasks, walked; and where something was wrong before. · What is asked of a world: kinds of frames, words; walked. · Who may run: world.isReady, world.badCore; walked. · Who may run, by the other text: keyholdref.readyAt; walked. · Who is next: world.badReady; walked. · Words of tables: world.badEntry; walked. · Words of tables, by the other text: keyholdref.entryWell; walked. -/
import Derived.Test.YtoebmjgkfkfhjaaGreatDoorGOpenW
import Derived.Test.YtoebmjgkfkfhjaaGreatDoorWdNew0
namespace Go.Proofs.YtoebmjgkfkfhjaaGreatDoor.Wd
open Go.RowKit Go.Proofs.YtoebmjgkfkfhjaaGreatDoor.Mem Go.Proofs.YtoebmjgkfkfhjaaGreatDoor.Bw Go.Proofs.YtoebmjgkfkfhjaaGreatDoor.Nums Go.Proofs.YtoebmjgkfkfhjaaGreatDoor.Mmu
theorem raw_ints {w : World} {v : Value} {zs : List Int} (h : RawIn w v zs) : IntsIn w v zs := by
 obtain ⟨q, b, off, cap, h1, h2, h3, _⟩ := h
 exact ⟨q, b, off, cap, h1, h2, h3⟩
theorem raw_lists {w : World} {v : Value} {ls : List (List Int)} (h : ListsRaw w v ls) : ListsIn w v ls := by
 obtain ⟨q, b, off, cap, h1, h2, h3, _⟩ := h
 refine ⟨q, b, off, cap, h1, h2, fun j hj => ?_⟩
 obtain ⟨x, hx, hr, _⟩ := h3 j hj
 exact ⟨x, hx, raw_ints hr⟩
theorem raw_tlbs {w : World} {v : Value} {ls : List (List Ent)} (h : TlbsRaw w v ls) (hs : ∀ l ∈ ls, l.length ≤ 50) : TlbsIn w v ls := by
 obtain ⟨q, b, off, cap, h1, h2, h3, _⟩ := h
 refine ⟨q, b, off, cap, h1, h2, fun j hj => ?_⟩
 obtain ⟨x, hx, ⟨q', b', o', c', g1, g2, g3, _⟩, hm⟩ := h3 j hj
 exact ⟨x, hx, ⟨q', b', o', c', g1, g2, g3, Nat.le_trans (hs _ (List.getElem_mem hj)) (by decide)⟩, hm⟩
theorem small_world {w : World} {V : Nat → Value} {p : PW} (h : WorldR w V p) (hs : Small p) : WorldV w V p ∧ p.Fits :=
 ⟨⟨raw_ints h.ram.1, raw_ints h.kinds.1, h.slots.1, h.tasks.1, raw_lists h.lines, raw_ints h.bits.1, raw_ints h.cores.1, raw_lists h.ready, raw_tlbs h.tlbs hs.tlb, raw_ints h.doms.1, h.time.1⟩,
  ⟨hs.ram, Nat.le_trans hs.kinds (by decide), hs.slots, Nat.le_trans hs.tasks (by decide), Nat.le_trans hs.lines (by decide), fun l hl => Nat.le_trans (hs.line l hl) (by decide), Nat.le_trans hs.bits (by decide), Nat.le_trans hs.cores (by decide), Nat.le_trans hs.ready (by decide), fun l hl => Nat.le_trans (hs.next l hl) (by decide), Nat.le_trans hs.tlbs (by decide), Nat.le_trans hs.doms (by decide)⟩⟩
/-- What a search tells: nothing, or the first that is not well. -/
def Told {α : Type} (w : World) (bad : Nat → α → Bool) (l : List α) (e : Int) (x : Value) : Prop :=
 ((∀ k (h : k < l.length), bad k l[k] = false) ∧ x = .nilIface) ∨
 ∃ (k b : Nat) (h : k < l.length), bad k l[k] = true ∧ (∀ j (h : j < l.length), j < k → bad j l[j] = false) ∧ x = .iface 104 (.pointer (some ⟨b, 0, none⟩)) ∧ w.cell? ⟨b, 0, none⟩ = some (.int .i64 k) ∧ w.cell? ⟨b, 1, none⟩ = some (.iface 35 (.int .i64 e))
set_option maxRecDepth 100000 in
set_option maxHeartbeats 2000000 in
theorem look_int (N : Nat) (first : Array Value) (bad : Nat → Int → Bool) (e : Int) (v : Value) (zs : List Int) (w : World) (hv : IntsIn w v zs) (hl : zs.length ≤ 1000) (hN : ∀ args (W : World), (callFunc N args).run Tryz.prog W = .ok (.enter N args) W)
  (hC : ∀ (k : Nat) (hk : k < zs.length) (W : World), Below w.heap.size w W → Calls Tryz.prog N (first ++ #[.int .i64 k, .int .i64 zs[k]]) W fun r w' => r = .returned (.bool (bad k zs[k])) ∧ Below W.heap.size W w') :
  Calls Tryz.prog 71 #[.nilIface, v, .func (.func N) first #[], .int .i64 e] w fun r w' => ∃ x, r = .returned x ∧ Told w' bad zs e x ∧ Below w.heap.size w w' := by
 obtain ⟨q, b, off, cap, rfl, hq, hz⟩ := hv
 have HQ := hid hq
 have HZ := hid hz
 have HC := hid hC
 clear hq hz hC
 have hl2 : (zs.length : Int) ≤ 1000 := by omega
 go_enter Tryz.func71, Tryz.ntmps71
 go_wp2_with fail
 go_loopw [16] (fun i wr => ∃ k : Nat, k ≤ zs.length ∧ i = .int .i64 k ∧ Hid (∀ j (hj : j < zs.length), j < k → bad j zs[j] = false) ∧ Hid (Below w.heap.size w wr)) (fun i _ => zs.length - (intOf i).toNat)
 case atStart => exact ⟨0, by omega, rfl, hid fun j _ h => by omega, hid (Below.refl _ _)⟩
 case round =>
  obtain ⟨k, hk, rfl, HE, HB⟩ := hrel
  by_cases hlt : k < zs.length
  ·have hlt2 : (k : Int) < (zs.length : Int) := by omega
   have hqe := HQ.out (by omega)
   subst hqe
   have c0 := (HZ.out.below HB.out) k hlt
   have CC := hid (HC.out k hlt wr HB.out)
   have HT := hid (fun (W : World) (b : Nat) (x : Value) (h1 : bad k zs[k] = true) (h2 : x = .iface 104 (.pointer (some ⟨b, 0, none⟩))) (h3 : W.cell? ⟨b, 0, none⟩ = some (.int .i64 k)) (h4 : W.cell? ⟨b, 1, none⟩ = some (.iface 35 (.int .i64 e))) => show Told W bad zs e x from .inr ⟨k, b, hlt, h1, HE.out, h2, h3, h4⟩)
   have HS := hid (show bad k zs[k] = false → ∀ j (hj : j < zs.length), j < k + 1 → bad j zs[j] = false from fun hf j hj hjk => by
    by_cases e : j = k
    ·subst e; exact hf
    ·exact HE.out j hj (by omega))
   generalize zs[k] = z at c0 CC HT HS
   go_wp2_with fail
   refine CC.out.mono ?_
   rintro r w1 ⟨rfl, hb⟩
   have B1 := hid (btr HB.out hb)
   clear hb
   cases hn : bad k z with
   | true =>
    have HV := hid (HT.out (w1.alloc (.cells #[.int .i64 k, .iface 35 (.int .i64 e)] 108)) w1.heap.size _ hn rfl (cells_new w1 #[.int .i64 k, .iface 35 (.int .i64 e)] _ 0) (cells_new w1 #[.int .i64 k, .iface 35 (.int .i64 e)] _ 1))
    go_wp2_with fail
    go_ret
    exact ⟨_, rfl, HV.out, bal B1.out _⟩
   | false =>
    have HN := hid (HS.out hn)
    go_wp2_with fail
    exact ⟨⟨k + 1, by omega, by go_num, HN, B1⟩, by simp [intOf]; omega⟩
  ·obtain rfl : k = zs.length := by omega
   have hge : ¬ ((zs.length : Int) < (zs.length : Int)) := by omega
   have HF := hid (show ∀ k (h : k < zs.length), bad k zs[k] = false from fun k h => HE.out k h h)
   go_wp2_with fail
   go_ret
   exact ⟨_, rfl, .inl ⟨HF.out, rfl⟩, HB.out⟩
theorem cf_noWord (args : Array Value) (W : World) : (callFunc 72 args).run Tryz.prog W = .ok (.enter 72 args) W := by
 go_simp
set_option maxRecDepth 100000 in
set_option maxHeartbeats 2000000 in
theorem look_lists (N : Nat) (first : Array Value) (bad : Nat → List Int → Bool) (e : Int) (v : Value) (zs : List (List Int)) (w : World) (hv : ListsIn w v zs) (hl : zs.length ≤ 1000) (hN : ∀ args (W : World), (callFunc N args).run Tryz.prog W = .ok (.enter N args) W)
  (hC : ∀ (k : Nat) (hk : k < zs.length) (W : World) (x : Value), Below w.heap.size w W → IntsIn W x zs[k] → Calls Tryz.prog N (first ++ #[.int .i64 k, x]) W fun r w' => r = .returned (.bool (bad k zs[k])) ∧ Below W.heap.size W w') :
  Calls Tryz.prog 80 #[.nilIface, v, .func (.func N) first #[], .int .i64 e] w fun r w' => ∃ x, r = .returned x ∧ Told w' bad zs e x ∧ Below w.heap.size w w' := by
 obtain ⟨q, b, off, cap, rfl, hq, hz⟩ := hv
 have HQ := hid hq
 have HZ := hid hz
 have HC := hid hC
 clear hq hz hC
 have hl2 : (zs.length : Int) ≤ 1000 := by omega
 go_enter Tryz.func80, Tryz.ntmps80
 go_wp2_with fail
 go_loopw [16] (fun i wr => ∃ k : Nat, k ≤ zs.length ∧ i = .int .i64 k ∧ Hid (∀ j (hj : j < zs.length), j < k → bad j zs[j] = false) ∧ Hid (Below w.heap.size w wr)) (fun i _ => zs.length - (intOf i).toNat)
 case atStart => exact ⟨0, by omega, rfl, hid fun j _ h => by omega, hid (Below.refl _ _)⟩
 case round =>
  obtain ⟨k, hk, rfl, HE, HB⟩ := hrel
  by_cases hlt : k < zs.length
  ·have hlt2 : (k : Int) < (zs.length : Int) := by omega
   have hqe := HQ.out (by omega)
   subst hqe
   obtain ⟨y, hy, hyi⟩ := HZ.out k hlt
   have c0 := (HB.out.cell (World.block_lt_of_cell? _ _ hy)).trans hy
   have CC := hid (HC.out k hlt wr y HB.out (hyi.below HB.out))
   clear hy hyi
   have HT := hid (fun (W : World) (b : Nat) (x : Value) (h1 : bad k zs[k] = true) (h2 : x = .iface 104 (.pointer (some ⟨b, 0, none⟩))) (h3 : W.cell? ⟨b, 0, none⟩ = some (.int .i64 k)) (h4 : W.cell? ⟨b, 1, none⟩ = some (.iface 35 (.int .i64 e))) => show Told W bad zs e x from .inr ⟨k, b, hlt, h1, HE.out, h2, h3, h4⟩)
   have HS := hid (show bad k zs[k] = false → ∀ j (hj : j < zs.length), j < k + 1 → bad j zs[j] = false from fun hf j hj hjk => by
    by_cases e : j = k
    ·subst e; exact hf
    ·exact HE.out j hj (by omega))
   generalize zs[k] = z at CC HT HS
   go_wp2_with fail
   refine CC.out.mono ?_
   rintro r w1 ⟨rfl, hb⟩
   have B1 := hid (btr HB.out hb)
   clear hb
   cases hn : bad k z with
   | true =>
    have HV := hid (HT.out (w1.alloc (.cells #[.int .i64 k, .iface 35 (.int .i64 e)] 108)) w1.heap.size _ hn rfl (cells_new w1 #[.int .i64 k, .iface 35 (.int .i64 e)] _ 0) (cells_new w1 #[.int .i64 k, .iface 35 (.int .i64 e)] _ 1))
    go_wp2_with fail
    go_ret
    exact ⟨_, rfl, HV.out, bal B1.out _⟩
   | false =>
    have HN := hid (HS.out hn)
    go_wp2_with fail
    exact ⟨⟨k + 1, by omega, by go_num, HN, B1⟩, by simp [intOf]; omega⟩
  ·obtain rfl : k = zs.length := by omega
   have hge : ¬ ((zs.length : Int) < (zs.length : Int)) := by omega
   have HF := hid (show ∀ k (h : k < zs.length), bad k zs[k] = false from fun k h => HE.out k h h)
   go_wp2_with fail
   go_ret
   exact ⟨_, rfl, .inl ⟨HF.out, rfl⟩, HB.out⟩
set_option maxRecDepth 100000 in
set_option maxHeartbeats 2000000 in
theorem look_tlbs (N : Nat) (first : Array Value) (bad : Nat → List Ent → Bool) (e : Int) (v : Value) (zs : List (List Ent)) (w : World) (hv : TlbsIn w v zs) (hl : zs.length ≤ 1000) (hN : ∀ args (W : World), (callFunc N args).run Tryz.prog W = .ok (.enter N args) W)
  (hC : ∀ (k : Nat) (hk : k < zs.length) (W : World) (x : Value), Below w.heap.size w W → TlbIn W x zs[k] → RoomV x → Calls Tryz.prog N (first ++ #[.int .i64 k, x]) W fun r w' => r = .returned (.bool (bad k zs[k])) ∧ Below W.heap.size W w') :
  Calls Tryz.prog 85 #[.nilIface, v, .func (.func N) first #[], .int .i64 e] w fun r w' => ∃ x, r = .returned x ∧ Told w' bad zs e x ∧ Below w.heap.size w w' := by
 obtain ⟨q, b, off, cap, rfl, hq, hz⟩ := hv
 have HQ := hid hq
 have HZ := hid hz
 have HC := hid hC
 clear hq hz hC
 have hl2 : (zs.length : Int) ≤ 1000 := by omega
 go_enter Tryz.func85, Tryz.ntmps85
 go_wp2_with fail
 go_loopw [16] (fun i wr => ∃ k : Nat, k ≤ zs.length ∧ i = .int .i64 k ∧ Hid (∀ j (hj : j < zs.length), j < k → bad j zs[j] = false) ∧ Hid (Below w.heap.size w wr)) (fun i _ => zs.length - (intOf i).toNat)
 case atStart => exact ⟨0, by omega, rfl, hid fun j _ h => by omega, hid (Below.refl _ _)⟩
 case round =>
  obtain ⟨k, hk, rfl, HE, HB⟩ := hrel
  by_cases hlt : k < zs.length
  ·have hlt2 : (k : Int) < (zs.length : Int) := by omega
   have hqe := HQ.out (by omega)
   subst hqe
   obtain ⟨y, hy, hyi⟩ := HZ.out k hlt
   have c0 := (HB.out.cell (World.block_lt_of_cell? _ _ hy)).trans hy
   have CC := hid (HC.out k hlt wr y HB.out (hyi.1.below HB.out) hyi.2)
   clear hy hyi
   have HT := hid (fun (W : World) (b : Nat) (x : Value) (h1 : bad k zs[k] = true) (h2 : x = .iface 104 (.pointer (some ⟨b, 0, none⟩))) (h3 : W.cell? ⟨b, 0, none⟩ = some (.int .i64 k)) (h4 : W.cell? ⟨b, 1, none⟩ = some (.iface 35 (.int .i64 e))) => show Told W bad zs e x from .inr ⟨k, b, hlt, h1, HE.out, h2, h3, h4⟩)
   have HS := hid (show bad k zs[k] = false → ∀ j (hj : j < zs.length), j < k + 1 → bad j zs[j] = false from fun hf j hj hjk => by
    by_cases e : j = k
    ·subst e; exact hf
    ·exact HE.out j hj (by omega))
   generalize zs[k] = z at CC HT HS
   go_wp2_with fail
   refine CC.out.mono ?_
   rintro r w1 ⟨rfl, hb⟩
   have B1 := hid (btr HB.out hb)
   clear hb
   cases hn : bad k z with
   | true =>
    have HV := hid (HT.out (w1.alloc (.cells #[.int .i64 k, .iface 35 (.int .i64 e)] 108)) w1.heap.size _ hn rfl (cells_new w1 #[.int .i64 k, .iface 35 (.int .i64 e)] _ 0) (cells_new w1 #[.int .i64 k, .iface 35 (.int .i64 e)] _ 1))
    go_wp2_with fail
    go_ret
    exact ⟨_, rfl, HV.out, bal B1.out _⟩
   | false =>
    have HN := hid (HS.out hn)
    go_wp2_with fail
    exact ⟨⟨k + 1, by omega, by go_num, HN, B1⟩, by simp [intOf]; omega⟩
  ·obtain rfl : k = zs.length := by omega
   have hge : ¬ ((zs.length : Int) < (zs.length : Int)) := by omega
   have HF := hid (show ∀ k (h : k < zs.length), bad k zs[k] = false from fun k h => HE.out k h h)
   go_wp2_with fail
   go_ret
   exact ⟨_, rfl, .inl ⟨HF.out, rfl⟩, HB.out⟩
set_option maxRecDepth 100000 in
set_option maxHeartbeats 4000000 in
theorem look_slots (N : Nat) (first : Array Value) (bad : Nat → (Nat → Int) → Bool) (e : Int) (v : Value) (zs : List (Nat → Int)) (w : World) (hv : RowsIn 7 w v zs) (hl : zs.length ≤ 1000) (hN : ∀ args (W : World), (callFunc N args).run Tryz.prog W = .ok (.enter N args) W)
  (hC : ∀ (k : Nat) (hk : k < zs.length) (W : World), Below w.heap.size w W → Calls Tryz.prog N (first ++ #[.int .i64 k, .agg (cf 7 zs[k]).toArray]) W fun r w' => r = .returned (.bool (bad k zs[k])) ∧ Below W.heap.size W w') :
  Calls Tryz.prog 75 #[.nilIface, v, .func (.func N) first #[], .int .i64 e] w fun r w' => ∃ x, r = .returned x ∧ Told w' bad zs e x ∧ Below w.heap.size w w' := by
 obtain ⟨q, b, off, cap, rfl, hq, hz⟩ := hv
 have HQ := hid hq
 have HZ := hid hz
 have HC := hid hC
 clear hq hz hC
 have hl2 : (zs.length : Int) ≤ 1000 := by omega
 go_enter Tryz.func75, Tryz.ntmps75
 go_wp2_with fail
 go_loopw [16] (fun i wr => ∃ k : Nat, k ≤ zs.length ∧ i = .int .i64 k ∧ Hid (∀ j (hj : j < zs.length), j < k → bad j zs[j] = false) ∧ Hid (Below w.heap.size w wr)) (fun i _ => zs.length - (intOf i).toNat)
 case atStart => exact ⟨0, by omega, rfl, hid fun j _ h => by omega, hid (Below.refl _ _)⟩
 case round =>
  obtain ⟨k, hk, rfl, HE, HB⟩ := hrel
  by_cases hlt : k < zs.length
  ·have hlt2 : (k : Int) < (zs.length : Int) := by omega
   have hqe := HQ.out (by omega)
   subst hqe
   have X0 := hid (range_belowO (HZ.out k hlt) HB.out)
   have CC := hid (HC.out k hlt)
   have HT := hid (fun (W : World) (b : Nat) (x : Value) (h1 : bad k zs[k] = true) (h2 : x = .iface 104 (.pointer (some ⟨b, 0, none⟩))) (h3 : W.cell? ⟨b, 0, none⟩ = some (.int .i64 k)) (h4 : W.cell? ⟨b, 1, none⟩ = some (.iface 35 (.int .i64 e))) => show Told W bad zs e x from .inr ⟨k, b, hlt, h1, HE.out, h2, h3, h4⟩)
   have HS := hid (show bad k zs[k] = false → ∀ j (hj : j < zs.length), j < k + 1 → bad j zs[j] = false from fun hf j hj hjk => by
    by_cases e : j = k
    ·subst e; exact hf
    ·exact HE.out j hj (by omega))
   generalize zs[k] = z at X0 CC HT HS
   have T5 := hid (there_new wr #[.int .i64 0, .int .i64 0, .int .i64 0, .int .i64 0, .int .i64 0, .int .i64 0, .int .i64 0] 64 wr.heap.size 7 rfl (by decide))
   have R5 := hid (World.rangeAt_setCells_same _ wr.heap.size 0 (cf 7 z) (by rw [cf_len]; exact T5.out))
   have B5 := hid (below_setCells (bal (Below.refl wr.heap.size wr) (.cells #[.int .i64 0, .int .i64 0, .int .i64 0, .int .i64 0, .int .i64 0, .int .i64 0, .int .i64 0] 64)) (Nat.le_refl _) (cf 7 z) 0)
   have hi5 : (Tryz.prog.info? 64).map (·.size) = some (cf 7 z).length := by rw [cf_len]; exact info7
   have HI5 := hid hi5
   have HS5 := hid (show (Tryz.prog.info? 64).map (·.size) = some (cf 7 z).toArray.size by rw [List.size_toArray]; exact hi5)
   have esz : (cf 7 z).toArray.size = 7 := by simp [cf_len]
   have T6 := hid (show (wr.alloc (.cells #[.int .i64 0, .int .i64 0, .int .i64 0, .int .i64 0, .int .i64 0, .int .i64 0, .int .i64 0] 64)).there wr.heap.size 0 (cf 7 z).toArray.size by rw [esz]; exact T5.out)
   clear esz
   clear hi5
   go_wp2_with (first
    | ((with_reducible (show wpList _ _ _ (⟨_, Op.store 64 _ _, _, _, _, _⟩ :: _) _ _)); refine wpList_store_mid rfl 64 _ _ rfl wr.heap.size 0 (cf 7 z).toArray rfl rfl T6.out HS5.out (all_oneCell_toArray (cf_one 7 z)) ?_; generalize World.setCells _ _ _ _ = W5 at R5 B5 ⊢)
    | ((with_reducible (show wpList _ _ _ (⟨_, Op.load 64 _, _, _, _, _⟩ :: _) _ _)); refine wpList_load_mid rfl 64 _ rfl b (off + k * 7) rfl (cf 7 z) _ X0.out Tryz.underlying64 rfl HI5.out ?_)
    | ((with_reducible (show wpList _ _ _ (⟨_, Op.load 64 _, _, _, _, _⟩ :: _) _ _)); refine wpList_load_mid rfl 64 _ rfl wr.heap.size 0 rfl (cf 7 z) _ R5.out Tryz.underlying64 rfl HI5.out ?_))
   refine (CC.out W5 (btr HB.out B5.out)).mono ?_
   rintro r w1 ⟨rfl, hb⟩
   have B1 := hid (btr (btr HB.out B5.out) hb)
   clear T5 R5 B5 HI5 HS5 T6 X0
   clear hb
   cases hn : bad k z with
   | true =>
    have HV := hid (HT.out (w1.alloc (.cells #[.int .i64 k, .iface 35 (.int .i64 e)] 108)) w1.heap.size _ hn rfl (cells_new w1 #[.int .i64 k, .iface 35 (.int .i64 e)] _ 0) (cells_new w1 #[.int .i64 k, .iface 35 (.int .i64 e)] _ 1))
    go_wp2_with fail
    go_ret
    exact ⟨_, rfl, HV.out, bal B1.out _⟩
   | false =>
    have HN := hid (HS.out hn)
    go_wp2_with fail
    exact ⟨⟨k + 1, by omega, by go_num, HN, B1⟩, by simp [intOf]; omega⟩
  ·obtain rfl : k = zs.length := by omega
   have hge : ¬ ((zs.length : Int) < (zs.length : Int)) := by omega
   have HF := hid (show ∀ k (h : k < zs.length), bad k zs[k] = false from fun k h => HE.out k h h)
   go_wp2_with fail
   go_ret
   exact ⟨_, rfl, .inl ⟨HF.out, rfl⟩, HB.out⟩
set_option maxRecDepth 100000 in
set_option maxHeartbeats 4000000 in
theorem look_tasks (N : Nat) (first : Array Value) (bad : Nat → (Nat → Int) → Bool) (e : Int) (v : Value) (zs : List (Nat → Int)) (w : World) (hv : RowsIn 20 w v zs) (hl : zs.length ≤ 1000) (hN : ∀ args (W : World), (callFunc N args).run Tryz.prog W = .ok (.enter N args) W)
  (hC : ∀ (k : Nat) (hk : k < zs.length) (W : World), Below w.heap.size w W → Calls Tryz.prog N (first ++ #[.int .i64 k, .agg (cf 20 zs[k]).toArray]) W fun r w' => r = .returned (.bool (bad k zs[k])) ∧ Below W.heap.size W w') :
  Calls Tryz.prog 78 #[.nilIface, v, .func (.func N) first #[], .int .i64 e] w fun r w' => ∃ x, r = .returned x ∧ Told w' bad zs e x ∧ Below w.heap.size w w' := by
 obtain ⟨q, b, off, cap, rfl, hq, hz⟩ := hv
 have HQ := hid hq
 have HZ := hid hz
 have HC := hid hC
 clear hq hz hC
 have hl2 : (zs.length : Int) ≤ 1000 := by omega
 go_enter Tryz.func78, Tryz.ntmps78
 go_wp2_with fail
 go_loopw [16] (fun i wr => ∃ k : Nat, k ≤ zs.length ∧ i = .int .i64 k ∧ Hid (∀ j (hj : j < zs.length), j < k → bad j zs[j] = false) ∧ Hid (Below w.heap.size w wr)) (fun i _ => zs.length - (intOf i).toNat)
 case atStart => exact ⟨0, by omega, rfl, hid fun j _ h => by omega, hid (Below.refl _ _)⟩
 case round =>
  obtain ⟨k, hk, rfl, HE, HB⟩ := hrel
  by_cases hlt : k < zs.length
  ·have hlt2 : (k : Int) < (zs.length : Int) := by omega
   have hqe := HQ.out (by omega)
   subst hqe
   have X0 := hid (range_belowO (HZ.out k hlt) HB.out)
   have CC := hid (HC.out k hlt)
   have HT := hid (fun (W : World) (b : Nat) (x : Value) (h1 : bad k zs[k] = true) (h2 : x = .iface 104 (.pointer (some ⟨b, 0, none⟩))) (h3 : W.cell? ⟨b, 0, none⟩ = some (.int .i64 k)) (h4 : W.cell? ⟨b, 1, none⟩ = some (.iface 35 (.int .i64 e))) => show Told W bad zs e x from .inr ⟨k, b, hlt, h1, HE.out, h2, h3, h4⟩)
   have HS := hid (show bad k zs[k] = false → ∀ j (hj : j < zs.length), j < k + 1 → bad j zs[j] = false from fun hf j hj hjk => by
    by_cases e : j = k
    ·subst e; exact hf
    ·exact HE.out j hj (by omega))
   generalize zs[k] = z at X0 CC HT HS
   have T5 := hid (there_new wr #[.int .i64 0, .int .i64 0, .int .i64 0, .int .i64 0, .int .i64 0, .int .i64 0, .int .i64 0, .int .i64 0, .int .i64 0, .int .i64 0, .int .i64 0, .int .i64 0, .int .i64 0, .int .i64 0, .int .i64 0, .int .i64 0, .int .i64 0, .int .i64 0, .int .i64 0, .int .i64 0] 85 wr.heap.size 20 rfl (by decide))
   have R5 := hid (World.rangeAt_setCells_same _ wr.heap.size 0 (cf 20 z) (by rw [cf_len]; exact T5.out))
   have B5 := hid (below_setCells (bal (Below.refl wr.heap.size wr) (.cells #[.int .i64 0, .int .i64 0, .int .i64 0, .int .i64 0, .int .i64 0, .int .i64 0, .int .i64 0, .int .i64 0, .int .i64 0, .int .i64 0, .int .i64 0, .int .i64 0, .int .i64 0, .int .i64 0, .int .i64 0, .int .i64 0, .int .i64 0, .int .i64 0, .int .i64 0, .int .i64 0] 85)) (Nat.le_refl _) (cf 20 z) 0)
   have hi5 : (Tryz.prog.info? 85).map (·.size) = some (cf 20 z).length := by rw [cf_len]; exact info20
   have HI5 := hid hi5
   have HS5 := hid (show (Tryz.prog.info? 85).map (·.size) = some (cf 20 z).toArray.size by rw [List.size_toArray]; exact hi5)
   have esz : (cf 20 z).toArray.size = 20 := by simp [cf_len]
   have T6 := hid (show (wr.alloc (.cells #[.int .i64 0, .int .i64 0, .int .i64 0, .int .i64 0, .int .i64 0, .int .i64 0, .int .i64 0, .int .i64 0, .int .i64 0, .int .i64 0, .int .i64 0, .int .i64 0, .int .i64 0, .int .i64 0, .int .i64 0, .int .i64 0, .int .i64 0, .int .i64 0, .int .i64 0, .int .i64 0] 85)).there wr.heap.size 0 (cf 20 z).toArray.size by rw [esz]; exact T5.out)
   clear esz
   clear hi5
   go_wp2_with (first
    | ((with_reducible (show wpList _ _ _ (⟨_, Op.store 85 _ _, _, _, _, _⟩ :: _) _ _)); refine wpList_store_mid rfl 85 _ _ rfl wr.heap.size 0 (cf 20 z).toArray rfl rfl T6.out HS5.out (all_oneCell_toArray (cf_one 20 z)) ?_; generalize World.setCells _ _ _ _ = W5 at R5 B5 ⊢)
    | ((with_reducible (show wpList _ _ _ (⟨_, Op.load 85 _, _, _, _, _⟩ :: _) _ _)); refine wpList_load_mid rfl 85 _ rfl b (off + k * 20) rfl (cf 20 z) _ X0.out Tryz.underlying85 rfl HI5.out ?_)
    | ((with_reducible (show wpList _ _ _ (⟨_, Op.load 85 _, _, _, _, _⟩ :: _) _ _)); refine wpList_load_mid rfl 85 _ rfl wr.heap.size 0 rfl (cf 20 z) _ R5.out Tryz.underlying85 rfl HI5.out ?_))
   refine (CC.out W5 (btr HB.out B5.out)).mono ?_
   rintro r w1 ⟨rfl, hb⟩
   have B1 := hid (btr (btr HB.out B5.out) hb)
   clear T5 R5 B5 HI5 HS5 T6 X0
   clear hb
   cases hn : bad k z with
   | true =>
    have HV := hid (HT.out (w1.alloc (.cells #[.int .i64 k, .iface 35 (.int .i64 e)] 108)) w1.heap.size _ hn rfl (cells_new w1 #[.int .i64 k, .iface 35 (.int .i64 e)] _ 0) (cells_new w1 #[.int .i64 k, .iface 35 (.int .i64 e)] _ 1))
    go_wp2_with fail
    go_ret
    exact ⟨_, rfl, HV.out, bal B1.out _⟩
   | false =>
    have HN := hid (HS.out hn)
    go_wp2_with fail
    exact ⟨⟨k + 1, by omega, by go_num, HN, B1⟩, by simp [intOf]; omega⟩
  ·obtain rfl : k = zs.length := by omega
   have hge : ¬ ((zs.length : Int) < (zs.length : Int)) := by omega
   have HF := hid (show ∀ k (h : k < zs.length), bad k zs[k] = false from fun k h => HE.out k h h)
   go_wp2_with fail
   go_ret
   exact ⟨_, rfl, .inl ⟨HF.out, rfl⟩, HB.out⟩
theorem skip_int (b : Nat) (v fv : Value) (e : Int) (w : World) :
  Calls Tryz.prog 71 #[.iface 104 (.pointer (some ⟨b, 0, none⟩)), v, fv, .int .i64 e] w fun r w' => r = .returned (.iface 104 (.pointer (some ⟨b, 0, none⟩))) ∧ w = w' := by
 go_enter Tryz.func71, Tryz.ntmps71
 go_wp2_with fail
 go_ret
 exact ⟨rfl, rfl⟩
theorem skip_lists (b : Nat) (v fv : Value) (e : Int) (w : World) :
  Calls Tryz.prog 80 #[.iface 104 (.pointer (some ⟨b, 0, none⟩)), v, fv, .int .i64 e] w fun r w' => r = .returned (.iface 104 (.pointer (some ⟨b, 0, none⟩))) ∧ w = w' := by
 go_enter Tryz.func80, Tryz.ntmps80
 go_wp2_with fail
 go_ret
 exact ⟨rfl, rfl⟩
theorem skip_tlbs (b : Nat) (v fv : Value) (e : Int) (w : World) :
  Calls Tryz.prog 85 #[.iface 104 (.pointer (some ⟨b, 0, none⟩)), v, fv, .int .i64 e] w fun r w' => r = .returned (.iface 104 (.pointer (some ⟨b, 0, none⟩))) ∧ w = w' := by
 go_enter Tryz.func85, Tryz.ntmps85
 go_wp2_with fail
 go_ret
 exact ⟨rfl, rfl⟩
theorem skip_slots (b : Nat) (v fv : Value) (e : Int) (w : World) :
  Calls Tryz.prog 75 #[.iface 104 (.pointer (some ⟨b, 0, none⟩)), v, fv, .int .i64 e] w fun r w' => r = .returned (.iface 104 (.pointer (some ⟨b, 0, none⟩))) ∧ w = w' := by
 go_enter Tryz.func75, Tryz.ntmps75
 go_wp2_with fail
 go_ret
 exact ⟨rfl, rfl⟩
theorem skip_tasks (b : Nat) (v fv : Value) (e : Int) (w : World) :
  Calls Tryz.prog 78 #[.iface 104 (.pointer (some ⟨b, 0, none⟩)), v, fv, .int .i64 e] w fun r w' => r = .returned (.iface 104 (.pointer (some ⟨b, 0, none⟩))) ∧ w = w' := by
 go_enter Tryz.func78, Tryz.ntmps78
 go_wp2_with fail
 go_ret
 exact ⟨rfl, rfl⟩
/-- A world that is looked at. -/
structure ViewAt (w : World) (vb : Nat) (V : Nat → Value) (p : PW) : Prop where
 r : w.rangeAt vb 0 (arr11 V).toList
 v : WorldV w V p
 f : p.Fits
theorem ViewAt.below {w w' : World} {vb : Nat} {V : Nat → Value} {p : PW} (h : ViewAt w vb V p) (hb : Below w.heap.size w w') : ViewAt w' vb V p := ⟨range_below h.r hb, h.v.below hb, h.f⟩
/-- The kind of a frame; none: no frame. -/
def kindAt (p : PW) (f : Int) : Option Int := if 0 ≤ f then p.kinds[f.toNat]? else none
def isB (p : PW) (f k : Int) : Bool := kindAt p f == some k
theorem kindAt_some {p : PW} {j : Nat} (h : j < p.kinds.length) : kindAt p (j : Int) = some p.kinds[j] := by
 unfold kindAt
 rw [if_pos (by omega), Int.toNat_natCast, List.getElem?_eq_getElem h]
theorem kindAt_none {p : PW} {f : Int} (h : ¬ (0 ≤ f ∧ f ≤ (p.kinds.length : Int) - 1)) : kindAt p f = none := by
 unfold kindAt
 split
 ·rw [List.getElem?_eq_none (by omega)]
 ·rfl
/-- Is it the number of a frame? -/
def frB (p : PW) (n : Int) : Bool := decide (0 ≤ n ∧ n ≤ (p.kinds.length : Int) - 1)
theorem pisFrame_any (vb : Nat) (V : Nat → Value) (p : PW) (n : Int) (w : World) (hv : ViewAt w vb V p) :
  Calls Tryz.prog 159 #[.pointer (some ⟨vb, 0, none⟩), .int .i64 n] w fun r w' => r = .returned (.bool (frB p n)) ∧ w = w' := by
 have c1 : w.cell? ⟨vb, 1, none⟩ = some (V 1) := range_cell hv.r rfl
 obtain ⟨q, b, off, cap, e1, hq, hz⟩ := hv.v.kinds
 have hl : (p.kinds.length : Int) ≤ 1000 := by have := hv.f.kinds; omega
 have HB := hid (show frB p n = decide (0 ≤ n ∧ n ≤ (p.kinds.length : Int) - 1) from rfl)
 clear hq hz hv
 go_enter Tryz.func159, Tryz.ntmps159
 go_wp2_with fail
 refine (within_any n 0 _ w).mono ?_
 rintro r w1 ⟨rfl, rfl⟩
 generalize decide (0 ≤ n ∧ n ≤ (p.kinds.length : Int) - 1) = bb at HB ⊢
 go_wp2_with fail
 go_ret
 exact ⟨by rw [HB.out]; rfl, rfl⟩
theorem pis_any (vb : Nat) (V : Nat → Value) (p : PW) (f k : Int) (w : World) (hv : ViewAt w vb V p) :
  Calls Tryz.prog 141 #[.pointer (some ⟨vb, 0, none⟩), .int .i64 f, .int .i64 k] w fun r w' => r = .returned (.bool (isB p f k)) ∧ w = w' := by
 have c1 : w.cell? ⟨vb, 1, none⟩ = some (V 1) := range_cell hv.r rfl
 have HV := hid hv
 obtain ⟨q, b, off, cap, e1, hq, hz⟩ := hv.v.kinds
 have hl : (p.kinds.length : Int) ≤ 1000 := by have := hv.f.kinds; omega
 by_cases hin : 0 ≤ f ∧ f ≤ (p.kinds.length : Int) - 1
 ·obtain ⟨j, rfl⟩ : ∃ j : Nat, f = j := ⟨f.toNat, by omega⟩
  have hj : j < p.kinds.length := by omega
  have hj2 : (j : Int) < (p.kinds.length : Int) := by omega
  have HD := hid (show frB p j = true from decide_eq_true hin)
  obtain rfl := hq (by omega)
  have cj := hz j hj
  have HB := hid (show isB p (j : Int) k = (p.kinds[j] == k) by unfold isB; rw [kindAt_some hj]; rfl)
  generalize p.kinds[j] = z at cj HB
  clear hin hz hv
  go_enter Tryz.func141, Tryz.ntmps141
  go_wp2_with fail
  refine (pisFrame_any vb V p j w HV.out).mono ?_
  rintro e w1 ⟨rfl, rfl⟩
  rw [HD.out]
  go_wp2_with fail
  go_ret
  exact ⟨by rw [HB.out]; rfl, rfl⟩
 ·have HD := hid (show frB p f = false from decide_eq_false hin)
  have HB := hid (show isB p f k = false by unfold isB; rw [kindAt_none hin]; rfl)
  clear hin hz hq hv
  go_enter Tryz.func141, Tryz.ntmps141
  go_wp2_with fail
  refine (pisFrame_any vb V p f w HV.out).mono ?_
  rintro e w1 ⟨rfl, rfl⟩
  rw [HD.out]
  go_wp2_with fail
  go_ret
  exact ⟨by rw [HB.out]; rfl, rfl⟩
theorem is_any (vb : Nat) (V : Nat → Value) (p : PW) (f k : Int) (w : World) (hv : ViewAt w vb V p) :
  Calls Tryz.prog 127 #[.pointer (some ⟨vb, 0, none⟩), .int .i64 f, .int .i64 k] w fun r w' => r = .returned (.bool (isB p f k)) ∧ w = w' := by
 have HV := hid hv
 clear hv
 go_enter Tryz.func127, Tryz.ntmps127
 go_wp2_with fail
 refine (pis_any vb V p f k w HV.out).mono ?_
 rintro e w1 ⟨rfl, rfl⟩
 go_wp2_with fail
 go_ret
 exact ⟨rfl, rfl⟩
def isOrB (p : PW) (f k : Int) : Bool := f == -1 || isB p f k
theorem isOr_any (vb : Nat) (V : Nat → Value) (p : PW) (f k : Int) (w : World) (hv : ViewAt w vb V p) :
  Calls Tryz.prog 151 #[.pointer (some ⟨vb, 0, none⟩), .int .i64 f, .int .i64 k] w fun r w' => r = .returned (.bool (isOrB p f k)) ∧ w = w' := by
 have HV := hid hv
 clear hv
 by_cases hf : f = -1
 ·have h1 : (f == -1) = true := by simpa using hf
  have HB := hid (show isOrB p f k = true by unfold isOrB; rw [h1]; rfl)
  clear hf
  go_enter Tryz.func151, Tryz.ntmps151
  go_wp2_with fail
  go_ret
  exact ⟨by rw [HB.out]; rfl, rfl⟩
 ·have h1 : (f == -1) = false := by simpa using hf
  have HB := hid (show isOrB p f k = isB p f k by unfold isOrB; rw [h1]; rfl)
  clear hf
  go_enter Tryz.func151, Tryz.ntmps151
  go_wp2_with fail
  refine (is_any vb V p f k w HV.out).mono ?_
  rintro e w1 ⟨rfl, rfl⟩
  generalize isB p f k = bb at HB ⊢
  go_wp2_with fail
  go_ret
  exact ⟨by rw [HB.out]; rfl, rfl⟩
set_option maxRecDepth 100000 in
theorem kindOf_any (V : Nat → Value) (p : PW) (f : Int) (w : World) (hv : WorldV w V p) (hp : p.Fits) :
  Calls Tryz.prog 137 #[.agg (arr11 V), .int .i64 f] w fun r w' => r = .returned (.int .i64 ((kindAt p f).getD (-1))) ∧ Below w.heap.size w w' := by
 have C0 := cells_new w (arr11 V) 28
 have B0 := hid (bal (Below.refl w.heap.size w) (.cells (arr11 V) 28))
 obtain ⟨q, b, off, cap, e1, hq, hz⟩ := hv.kinds
 have hl : (p.kinds.length : Int) ≤ 1000 := by have := hp.kinds; omega
 by_cases hin : 0 ≤ f ∧ f ≤ (p.kinds.length : Int) - 1
 ·obtain ⟨j, rfl⟩ : ∃ j : Nat, f = j := ⟨f.toNat, by omega⟩
  have hj : j < p.kinds.length := by omega
  have hj2 : (j : Int) < (p.kinds.length : Int) := by omega
  obtain rfl := hq (by omega)
  have cj := (hz.below B0.out) j hj
  have HB := hid (show (kindAt p (j : Int)).getD (-1) = p.kinds[j] by rw [kindAt_some hj]; rfl)
  generalize p.kinds[j] = z at cj HB
  clear hin hz hv hp
  go_enter Tryz.func137, Tryz.ntmps137
  go_wp2_with fail
  go_ret
  exact ⟨by rw [HB.out]; rfl, B0.out⟩
 ·have HB := hid (show (kindAt p f).getD (-1) = -1 by rw [kindAt_none hin]; rfl)
  clear hz hq hv hp
  by_cases h0 : f < 0
  ·clear hin
   go_enter Tryz.func137, Tryz.ntmps137
   go_wp2_with fail
   go_ret
   exact ⟨by rw [HB.out]; rfl, B0.out⟩
  ·have h1 : (p.kinds.length : Int) ≤ f := by omega
   clear hin
   go_enter Tryz.func137, Tryz.ntmps137
   go_wp2_with fail
   go_ret
   exact ⟨by rw [HB.out]; rfl, B0.out⟩
def wB (v : Int) : Bool := decide (0 ≤ v ∧ v ≤ 65535)
theorem isWord_any (v : Int) (w : World) :
  Calls Tryz.prog 58 #[.int .i64 v] w fun e w' => e = .returned (.bool (wB v)) ∧ w = w' := by
 go_enter Tryz.func58, Tryz.ntmps58
 go_wp2_with fail
 refine (within_any v 0 65535 w).mono ?_
 rintro e w1 ⟨rfl, rfl⟩
 have HB := hid (show wB v = decide (0 ≤ v ∧ v ≤ 65535) from rfl)
 generalize decide (0 ≤ v ∧ v ≤ 65535) = bb at HB ⊢
 go_wp2_with fail
 go_ret
 exact ⟨by rw [HB.out]; rfl, rfl⟩
def nwB (v : Int) : Bool := !wB v
theorem noWord_any (n v : Int) (w : World) :
  Calls Tryz.prog 72 #[.int .i64 n, .int .i64 v] w fun e w' => e = .returned (.bool (nwB v)) ∧ w = w' := by
 go_enter Tryz.func72, Tryz.ntmps72
 go_wp2_with fail
 refine (isWord_any v w).mono ?_
 rintro e w1 ⟨rfl, rfl⟩
 have HB := hid (show nwB v = !wB v from rfl)
 generalize wB v = bb at HB ⊢
 go_wp2_with fail
 go_ret
 exact ⟨by rw [HB.out]; rfl, rfl⟩
theorem range_at {w : World} {b o k : Nat} {cs : List Value} {v : Value} (h : w.rangeAt b o cs) (hk : cs[k]? = some v) : w.cell? ⟨b, o + k, none⟩ = some v := h k v hk
theorem isB_in {p : PW} {f k : Int} (h : isB p f k = true) : ∃ j : Nat, f = j ∧ j < p.kinds.length := by
 unfold isB kindAt at h
 split at h
 ·refine ⟨f.toNat, by omega, ?_⟩
  by_cases hl : f.toNat < p.kinds.length
  ·exact hl
  ·rw [List.getElem?_eq_none (by omega)] at h
   exact absurd h (by simp)
 ·exact absurd h (by simp)
def nkB (k : Int) : Bool := !decide (0 ≤ k ∧ k ≤ 8) || k == 1
theorem noKind_any (n k : Int) (w : World) :
  Calls Tryz.prog 73 #[.int .i64 n, .int .i64 k] w fun e w' => e = .returned (.bool (nkB k)) ∧ w = w' := by
 by_cases hin : 0 ≤ k ∧ k ≤ 8
 ·have HD := hid (decide_eq_true hin)
  have HB := hid (show nkB k = (k == 1) by unfold nkB; rw [decide_eq_true hin]; rfl)
  clear hin
  go_enter Tryz.func73, Tryz.ntmps73
  go_wp2_with fail
  refine (within_any k 0 8 w).mono ?_
  rintro e w1 ⟨rfl, rfl⟩
  rw [HD.out]
  go_wp2_with fail
  go_ret
  exact ⟨by rw [HB.out]; rfl, rfl⟩
 ·have HD := hid (decide_eq_false hin)
  have HB := hid (show nkB k = true by unfold nkB; rw [decide_eq_false hin]; rfl)
  clear hin
  go_enter Tryz.func73, Tryz.ntmps73
  go_wp2_with fail
  refine (within_any k 0 8 w).mono ?_
  rintro e w1 ⟨rfl, rfl⟩
  rw [HD.out]
  go_wp2_with fail
  go_ret
  exact ⟨by rw [HB.out]; rfl, rfl⟩
/-- May a task run on this core? -/
def rdB (p : PW) (t core : Int) : Bool := isB p t 6 && (match p.tasks[t.toNat]? with | some f => f 9 == 1 && f 18 == core | none => false)
theorem isReady_any (vb : Nat) (V : Nat → Value) (p : PW) (t core : Int) (w : World) (hv : ViewAt w vb V p) (ht : p.tasks.length = p.kinds.length) :
  Calls Tryz.prog 129 #[.pointer (some ⟨vb, 0, none⟩), .int .i64 t, .int .i64 core] w fun r w' => r = .returned (.bool (rdB p t core)) ∧ w = w' := by
 have c3 : w.cell? ⟨vb, 3, none⟩ = some (V 3) := range_cell hv.r rfl
 obtain ⟨q, b, off, cap, e1, hq, hz⟩ := hv.v.tasks
 have hl : (p.tasks.length : Int) ≤ 1000 := by have := hv.f.tasks; omega
 have HV := hid hv
 clear hv
 by_cases hb : isB p t 6 = true
 ·obtain ⟨j, rfl, hj0⟩ := isB_in hb
  have hj : j < p.tasks.length := by omega
  have hj2 : (j : Int) < (p.tasks.length : Int) := by omega
  obtain rfl := hq (by omega)
  have c9 := range_at (hz j hj) (cf_at 20 _ 9 (by omega))
  have c18 := range_at (hz j hj) (cf_at 20 _ 18 (by omega))
  have HB := hid (show rdB p (j : Int) core = (p.tasks[j] 9 == 1 && p.tasks[j] 18 == core) by unfold rdB; rw [hb, Int.toNat_natCast, List.getElem?_eq_getElem hj]; rfl)
  have HI := hid hb
  generalize p.tasks[j] 9 = x9 at c9 HB
  generalize p.tasks[j] 18 = x18 at c18 HB
  clear hz ht hb hj0 hq
  by_cases h9 : x9 = 1
  ·subst h9
   by_cases h18 : x18 = core
   ·subst h18
    go_enter Tryz.func129, Tryz.ntmps129
    go_wp2_with fail
    refine (is_any vb V p j 6 w HV.out).mono ?_
    rintro e w1 ⟨rfl, rfl⟩
    rw [HI.out]
    go_wp2_with fail
    go_ret
    exact ⟨by rw [HB.out]; simp, rfl⟩
   ·have h1 : (x18 == core) = false := by simpa using h18
    have HC := hid h1
    clear h18
    go_enter Tryz.func129, Tryz.ntmps129
    go_wp2_with fail
    refine (is_any vb V p j 6 w HV.out).mono ?_
    rintro e w1 ⟨rfl, rfl⟩
    rw [HI.out]
    go_wp2_with fail
    go_ret
    exact ⟨by rw [HB.out, HC.out]; rfl, rfl⟩
  ·have h1 : (x9 == 1) = false := by simpa using h9
   have HC := hid h1
   clear h9
   go_enter Tryz.func129, Tryz.ntmps129
   go_wp2_with fail
   refine (is_any vb V p j 6 w HV.out).mono ?_
   rintro e w1 ⟨rfl, rfl⟩
   rw [HI.out]
   go_wp2_with fail
   go_ret
   exact ⟨by rw [HB.out, HC.out]; rfl, rfl⟩
 ·have hb2 : isB p t 6 = false := by simpa using hb
  have HB := hid (show rdB p t core = false by unfold rdB; rw [hb2]; rfl)
  have HI := hid hb2
  clear hz ht hb hb2 hq
  go_enter Tryz.func129, Tryz.ntmps129
  go_wp2_with fail
  refine (is_any vb V p t 6 w HV.out).mono ?_
  rintro e w1 ⟨rfl, rfl⟩
  rw [HI.out]
  go_wp2_with fail
  go_ret
  exact ⟨by rw [HB.out]; rfl, rfl⟩
def bcB (p : PW) (core t : Int) : Bool := !(t == -1) && !rdB p t core
theorem badCore_any (vb : Nat) (V : Nat → Value) (p : PW) (core t : Int) (w : World) (hv : ViewAt w vb V p) (ht : p.tasks.length = p.kinds.length) :
  Calls Tryz.prog 82 #[.pointer (some ⟨vb, 0, none⟩), .int .i64 core, .int .i64 t] w fun r w' => r = .returned (.bool (bcB p core t)) ∧ w = w' := by
 have HV := hid hv
 have HT := hid ht
 clear hv ht
 by_cases hf : t = -1
 ·subst hf
  have HB := hid (show bcB p core (-1) = false from rfl)
  go_enter Tryz.func82, Tryz.ntmps82
  go_wp2_with fail
  go_ret
  exact ⟨by rw [HB.out]; rfl, rfl⟩
 ·have HB := hid (show bcB p core t = !rdB p t core by unfold bcB; rw [show (t == -1) = false by simpa using hf]; rfl)
  have h2 : (t != -1) = true := by simpa using hf
  go_enter Tryz.func82, Tryz.ntmps82
  go_wp2_with fail
  refine (isReady_any vb V p t core w HV.out HT.out).mono ?_
  rintro e w1 ⟨rfl, rfl⟩
  generalize rdB p t core = bb at HB ⊢
  go_wp2_with fail
  go_ret
  exact ⟨by rw [HB.out]; rfl, rfl⟩
theorem infoW : (Tryz.prog.info? 28).map (·.size) = some 11 := by kernel_rfl
theorem wp_ldW {ops : Array Oper} {rest : List Oper} {op : Oper} {a : Act} {w : World} {Q : Exit → Act → World → Prop} (hgd : op.guard = none) (x : Operand) (ho : op.op = .load 28 x)
  (b : Nat) (hx : a.eval x = .pointer (some ⟨b, 0, none⟩)) (V : Nat → Value) (hc : w.rangeAt b 0 (arr11 V).toList)
  (h : wpList Tryz.prog ops Q rest (a.put op.dst (.agg (arr11 V))) w) : wpList Tryz.prog ops Q (op :: rest) a w :=
 wpList_load_mid hgd 28 x ho b 0 hx (arr11 V).toList _ hc Tryz.underlying28 rfl infoW h
theorem boxed (w : World) (V : Nat → Value) (t : TypeId) : (w.alloc (.cells (arr11 V) t)).rangeAt w.heap.size 0 (arr11 V).toList := fun k v hk => by
 rw [Nat.zero_add, cells_new w (arr11 V) t k]
 simpa using hk
/-- May a task run on this core, next in the list of this priority (below 0: of any)? -/
def rpB (p : PW) (t core prio : Int) : Bool := rdB p t core && (decide (prio < 0) || (match p.tasks[t.toNat]? with | some f => f 10 == prio | none => false))
theorem isB_kind {p : PW} {f k : Int} (hk : k ≠ -1) : isB p f k = ((kindAt p f).getD (-1) == k) := by
 unfold isB
 cases kindAt p f with
 | none => simp [Ne.symm hk]
 | some z => simp
set_option maxRecDepth 100000 in
theorem readyAt_any (V : Nat → Value) (p : PW) (t core prio : Int) (w : World) (hv : WorldV w V p) (hp : p.Fits) (ht : p.tasks.length = p.kinds.length) :
  Calls Tryz.prog 98 #[.agg (arr11 V), .int .i64 t, .int .i64 core, .int .i64 prio] w fun r w' => r = .returned (.bool (rpB p t core prio)) ∧ Below w.heap.size w w' := by
 have RG := hid (boxed w V 28)
 have B0 := hid (bal (Below.refl w.heap.size w) (.cells (arr11 V) 28))
 obtain ⟨q, b, off, cap, e1, hq, hz⟩ := hv.tasks
 have hl : (p.tasks.length : Int) ≤ 1000 := by have := hp.tasks; omega
 have HV := hid hv
 have HP := hid hp
 clear hv hp
 by_cases hb : isB p t 6 = true
 ·obtain ⟨j, rfl, hj0⟩ := isB_in hb
  have hj : j < p.tasks.length := by omega
  have hj2 : (j : Int) < (p.tasks.length : Int) := by omega
  obtain rfl := hq (by omega)
  have HZ := hid (hz j hj)
  have HB := hid (show rpB p (j : Int) core prio = (p.tasks[j] 9 == 1 && p.tasks[j] 18 == core && (decide (prio < 0) || p.tasks[j] 10 == prio)) by unfold rpB rdB; rw [hb, Int.toNat_natCast, List.getElem?_eq_getElem hj]; rfl)
  have HI := hid (show (kindAt p (j : Int)).getD (-1) = 6 by simpa [isB_kind (p := p) (f := (j : Int)) (k := 6) (by decide)] using hb)
  generalize p.tasks[j] = f at HZ HB
  clear hz ht hb hj0 hq
  go_enter Tryz.func98, Tryz.ntmps98
  go_wp2_with (first | ((with_reducible (show wpList _ _ _ (⟨_, Op.load 28 _, _, _, _, _⟩ :: _) _ _)); refine wp_ldW rfl _ rfl _ rfl V RG.out ?_))
  refine (kindOf_any V p j _ (HV.out.below B0.out) HP.out).mono ?_
  rintro e w1 ⟨rfl, hb1⟩
  rw [HI.out]
  have c3 : w1.cell? ⟨w.heap.size, 3, none⟩ = some (V 3) := range_cell (range_below RG.out hb1) rfl
  have BB := hid (B0.out.trans (hb1.mono (by simp)))
  have RZ := hid (range_belowO HZ.out BB.out)
  have c9 := range_at RZ.out (cf_at 20 _ 9 (by omega))
  have c10 := range_at RZ.out (cf_at 20 _ 10 (by omega))
  have c18 := range_at RZ.out (cf_at 20 _ 18 (by omega))
  generalize f 9 = x9 at c9 HB
  generalize f 10 = x10 at c10 HB
  generalize f 18 = x18 at c18 HB
  clear hb1
  by_cases h9 : x9 = 1
  ·subst h9
   by_cases h18 : x18 = core
   ·subst h18
    by_cases h0 : prio < 0
    ·go_wp2_with fail
     go_ret
     exact ⟨by rw [HB.out]; simp [h0], BB.out⟩
    ·go_wp2_with fail
     go_ret
     exact ⟨by rw [HB.out]; simp, BB.out⟩
   ·have h1 : (x18 == core) = false := by simpa using h18
    have HC := hid h1
    clear h18
    go_wp2_with fail
    go_ret
    exact ⟨by rw [HB.out, HC.out]; simp, BB.out⟩
  ·have h1 : (x9 == 1) = false := by simpa using h9
   have HC := hid h1
   clear h9
   go_wp2_with fail
   go_ret
   exact ⟨by rw [HB.out, HC.out]; simp, BB.out⟩
 ·have hb2 : isB p t 6 = false := by simpa using hb
  have HB := hid (show rpB p t core prio = false by unfold rpB rdB; rw [hb2]; rfl)
  have hi : ((kindAt p t).getD (-1) == 6) = false := by rw [← isB_kind (by decide)]; exact hb2
  have hn : ¬ (kindAt p t).getD (-1) = 6 := by simpa using hi
  clear hz ht hb hb2 hq
  go_enter Tryz.func98, Tryz.ntmps98
  go_wp2_with (first | ((with_reducible (show wpList _ _ _ (⟨_, Op.load 28 _, _, _, _, _⟩ :: _) _ _)); refine wp_ldW rfl _ rfl _ rfl V RG.out ?_))
  refine (kindOf_any V p t _ (HV.out.below B0.out) HP.out).mono ?_
  rintro e w1 ⟨rfl, hb1⟩
  have BB := hid (B0.out.trans (hb1.mono (by simp)))
  clear hb1
  generalize (kindAt p t).getD (-1) = z at hi hn ⊢
  go_wp2_with fail
  go_ret
  exact ⟨by rw [HB.out]; rfl, BB.out⟩
/-- Is someone in the n-th list of those who are next that is not theirs? -/
def brB (p : PW) (n : Nat) (zs : List Int) : Bool := zs.any fun t => !rpB p t ((n : Int) / 4) ((n : Int) % 4)
theorem any_no {α : Type} {P : α → Bool} {zs : List α} (h : ∀ j (hj : j < zs.length), P zs[j] = false) : zs.any P = false := by
 rw [List.any_eq_false]
 intro x hx
 obtain ⟨j, hj, rfl⟩ := List.mem_iff_getElem.1 hx
 simp [h j hj]
theorem any_yes {α : Type} {P : α → Bool} {zs : List α} (j : Nat) (hj : j < zs.length) (h : P zs[j] = true) : zs.any P = true := List.any_eq_true.2 ⟨_, List.getElem_mem hj, h⟩
theorem rdB_in {p : PW} {t core : Int} (h : rdB p t core = true) : ∃ j : Nat, t = j ∧ j < p.kinds.length := by
 unfold rdB at h
 rw [Bool.and_eq_true] at h
 exact isB_in h.1
set_option maxRecDepth 100000 in
theorem badReady_any (vb : Nat) (V : Nat → Value) (p : PW) (n : Nat) (x : Value) (zs : List Int) (w : World) (hv : ViewAt w vb V p) (ht : p.tasks.length = p.kinds.length) (hx : IntsIn w x zs) (hl : zs.length ≤ 1000) (hn : (n : Int) ≤ 1000) :
  Calls Tryz.prog 83 #[.pointer (some ⟨vb, 0, none⟩), .int .i64 n, x] w fun r w' => r = .returned (.bool (brB p n zs)) ∧ w = w' := by
 have c3 : w.cell? ⟨vb, 3, none⟩ = some (V 3) := range_cell hv.r rfl
 obtain ⟨q, b, off, cap, rfl, hq, hz⟩ := hx
 obtain ⟨q2, b2, off2, cap2, e1, hq2, hz2⟩ := hv.v.tasks
 have hl1 : (p.tasks.length : Int) ≤ 1000 := by have := hv.f.tasks; omega
 have hl2 : (zs.length : Int) ≤ 1000 := by omega
 have HV := hid hv
 have HT := hid ht
 have HQ := hid hq
 have HZ := hid hz
 have HQ2 := hid hq2
 have HZ2 := hid hz2
 clear hv ht hq hz hq2 hz2
 go_enter Tryz.func83, Tryz.ntmps83
 go_wp2_with fail
 go_loopw [17] (fun i wr => ∃ k : Nat, k ≤ zs.length ∧ i = .int .i64 k ∧ Hid (∀ j (hj : j < zs.length), j < k → (!rpB p zs[j] ((n : Int) / 4) ((n : Int) % 4)) = false) ∧ Hid (w = wr)) (fun i _ => zs.length - (intOf i).toNat)
 case atStart => exact ⟨0, by omega, rfl, hid fun j _ h => by omega, hid rfl⟩
 case round =>
  obtain ⟨k, hk, rfl, HE, HW⟩ := hrel
  obtain rfl := HW.out
  by_cases hlt : k < zs.length
  ·have hlt2 : (k : Int) < (zs.length : Int) := by omega
   have hqe := HQ.out (by omega)
   subst hqe
   have c0 := HZ.out k hlt
   have HY := hid (show (!rpB p zs[k] ((n : Int) / 4) ((n : Int) % 4)) = true → brB p n zs = true from fun h => any_yes k hlt h)
   have HS := hid (show (!rpB p zs[k] ((n : Int) / 4) ((n : Int) % 4)) = false → ∀ j (hj : j < zs.length), j < k + 1 → (!rpB p zs[j] ((n : Int) / 4) ((n : Int) % 4)) = false from fun hf j hj hjk => by
    by_cases e : j = k
    ·subst e; exact hf
    ·exact HE.out j hj (by omega))
   generalize zs[k] = z at c0 HY HS
   go_wp2_with fail
   refine (isReady_any vb V p z _ w HV.out HT.out).mono ?_
   rintro r w1 ⟨rfl, rfl⟩
   cases hr : rdB p z ((n : Int) / 4) with
   | true =>
    obtain ⟨j, rfl, hj0⟩ := rdB_in hr
    have hj : j < p.tasks.length := by rw [HT.out]; exact hj0
    have hj2 : (j : Int) < (p.tasks.length : Int) := by omega
    have hqe2 := HQ2.out (by omega)
    subst hqe2
    have c10 := range_at (HZ2.out j hj) (cf_at 20 _ 10 (by omega))
    have HR := hid (show rpB p (j : Int) ((n : Int) / 4) ((n : Int) % 4) = (p.tasks[j] 10 == ((n : Int) % 4)) by
     unfold rpB
     rw [hr, Int.toNat_natCast, List.getElem?_eq_getElem hj, decide_eq_false (by omega)]
     rfl)
    generalize p.tasks[j] 10 = y at c10 HR
    clear hr hj0
    by_cases hy : y = ((n : Int) % 4)
    ·have HN := hid (HS.out (by rw [HR.out, hy]; simp))
     subst hy
     go_wp2_with fail
     exact ⟨⟨k + 1, by omega, by go_num, HN, hid (by simp)⟩, by simp [intOf]; omega⟩
    ·have HN := hid (HY.out (by rw [HR.out]; simpa using hy))
     go_wp2_with fail
     go_ret
     exact ⟨by rw [HN.out]; rfl, rfl⟩
   | false =>
    have HN := hid (HY.out (by unfold rpB; rw [hr]; rfl))
    clear hr
    go_wp2_with fail
    go_ret
    exact ⟨by rw [HN.out]; rfl, rfl⟩
  ·obtain rfl : k = zs.length := by omega
   have hge : ¬ ((zs.length : Int) < (zs.length : Int)) := by omega
   have HF := hid (show brB p n zs = false from any_no fun k h => HE.out k h h)
   go_wp2_with fail
   go_ret
   exact ⟨by rw [HF.out]; rfl, rfl⟩
/-- Is a word of a frame of this kind none of its words? -/
def beB (p : PW) (k e : Int) : Bool := if k = 4 then !(e == 0) && !isB p (e - 32768) 3 else if k = 3 then !(e == 0) && !isB p (e - 32768) 2 && !isB p (e - 32768 - 16384) 2 else false
set_option maxRecDepth 100000 in
theorem badEntry_any (vb : Nat) (V : Nat → Value) (p : PW) (n m : Nat) (e : Int) (w : World) (hv : ViewAt w vb V p) (hn : (n : Int) ≤ 100000) (hm : (n : Int) / 16 = (m : Int)) (hk : m < p.kinds.length) (he : 0 ≤ e ∧ e ≤ 65535) :
  Calls Tryz.prog 84 #[.pointer (some ⟨vb, 0, none⟩), .int .i64 n, .int .i64 e] w fun r w' => r = .returned (.bool (beB p p.kinds[m] e)) ∧ w = w' := by
 have c1 : w.cell? ⟨vb, 1, none⟩ = some (V 1) := range_cell hv.r rfl
 obtain ⟨q, b, off, cap, e1, hq, hz⟩ := hv.v.kinds
 have hl : (p.kinds.length : Int) ≤ 1000 := by have := hv.f.kinds; omega
 have hk2 : (m : Int) < (p.kinds.length : Int) := by omega
 obtain rfl := hq (by omega)
 have cm := hz m hk
 have HV := hid hv
 have h1 : 0 ≤ e := he.1
 have h2 : e ≤ 65535 := he.2
 generalize p.kinds[m] = z at cm ⊢
 clear hz hv hq hk he
 by_cases h4 : z = 4
 ·subst h4
  by_cases h0 : e = 0
  ·subst h0
   have HB := hid (show beB p 4 0 = false from rfl)
   go_enter Tryz.func84, Tryz.ntmps84
   go_wp2_with fail
   go_ret
   exact ⟨by rw [HB.out]; rfl, rfl⟩
  ·have HB := hid (show beB p 4 e = !isB p (e - 32768) 3 by unfold beB; rw [if_pos rfl, show (e == 0) = false by simpa using h0]; rfl)
   have h00 : (e != 0) = true := by simpa using h0
   go_enter Tryz.func84, Tryz.ntmps84
   go_wp2_with fail
   refine (is_any vb V p (e - 32768) 3 w HV.out).mono ?_
   rintro r w1 ⟨rfl, rfl⟩
   generalize isB p (e - 32768) 3 = bb at HB ⊢
   go_wp2_with fail
   go_ret
   exact ⟨by rw [HB.out]; rfl, rfl⟩
 ·by_cases h3 : z = 3
  ·subst h3
   clear h4
   by_cases h0 : e = 0
   ·subst h0
    have HB := hid (show beB p 3 0 = false from rfl)
    go_enter Tryz.func84, Tryz.ntmps84
    go_wp2_with fail
    go_ret
    exact ⟨by rw [HB.out]; rfl, rfl⟩
   ·have h00 : (e != 0) = true := by simpa using h0
    by_cases hi : isB p (e - 32768) 2 = true
    ·have HB := hid (show beB p 3 e = false by unfold beB; rw [if_neg (by omega), if_pos rfl, hi]; simp)
     have HI := hid hi
     clear hi
     go_enter Tryz.func84, Tryz.ntmps84
     go_wp2_with fail
     refine (is_any vb V p (e - 32768) 2 w HV.out).mono ?_
     rintro r w1 ⟨rfl, rfl⟩
     rw [HI.out]
     go_wp2_with fail
     go_ret
     exact ⟨by rw [HB.out]; rfl, rfl⟩
    ·have HI := hid (show isB p (e - 32768) 2 = false by simpa using hi)
     have HB := hid (show beB p 3 e = !isB p (e - 32768 - 16384) 2 by unfold beB; rw [if_neg (by omega), if_pos rfl, HI.out, show (e == 0) = false by simpa using h0]; rfl)
     clear hi
     go_enter Tryz.func84, Tryz.ntmps84
     go_wp2_with fail
     refine (is_any vb V p (e - 32768) 2 w HV.out).mono ?_
     rintro r w1 ⟨rfl, rfl⟩
     rw [HI.out]
     go_wp2_with fail
     refine (is_any vb V p (e - 32768 - 16384) 2 w HV.out).mono ?_
     rintro r w1 ⟨rfl, rfl⟩
     generalize isB p (e - 32768 - 16384) 2 = bb at HB ⊢
     go_wp2_with fail
     go_ret
     exact ⟨by rw [HB.out]; rfl, rfl⟩
  ·have HB := hid (show beB p z e = false by unfold beB; rw [if_neg h4, if_neg h3])
   go_enter Tryz.func84, Tryz.ntmps84
   go_wp2_with fail
   go_ret
   exact ⟨by rw [HB.out]; rfl, rfl⟩
theorem wp_ldWg {ops : Array Oper} {rest : List Oper} {op : Oper} {a : Act} {w : World} {Q : Exit → Act → World → Prop} (hw : Region.wanted op (yielded ops a.tmps) = true) (x : Operand) (ho : op.op = .load 28 x)
  (b : Nat) (hx : a.eval x = .pointer (some ⟨b, 0, none⟩)) (V : Nat → Value) (hc : w.rangeAt b 0 (arr11 V).toList)
  (h : wpList Tryz.prog ops Q rest (a.put op.dst (.agg (arr11 V))) w) : wpList Tryz.prog ops Q (op :: rest) a w :=
 BigFrame.wpList_want hw fun _ hK => wp_load_mid 28 x ho b 0 hx (arr11 V).toList _ hc Tryz.underlying28 rfl infoW (hK _ _ h)
theorem isB_low {p : PW} {x k c : Int} (hl : p.kinds.length ≤ 1000) (hc : c % 1024 = 0) : isB p (x - c) k = (x - x % 1024 == c && isB p (x % 1024) k) := by
 by_cases h : x - x % 1024 = c
 ·rw [show (x - x % 1024 == c) = true by simpa using h, show x - c = x % 1024 by omega, Bool.true_and]
 ·rw [show (x - x % 1024 == c) = false by simpa using h, Bool.false_and]
  cases hb : isB p (x - c) k with
  | false => rfl
  | true =>
   obtain ⟨j, h1, h2⟩ := isB_in hb
   exact absurd (show x - x % 1024 = c by omega) h
theorem beB4 {p : PW} {x : Int} (hl : p.kinds.length ≤ 1000) (h0 : x ≠ 0) : (!beB p 4 x) = (x - x % 1024 == 32768 && isB p (x % 1024) 3) := by
 unfold beB
 rw [if_pos rfl, show (x == 0) = false by simpa using h0, isB_low (c := 32768) hl (by omega)]
 simp
theorem beB3 {p : PW} {x : Int} (hl : p.kinds.length ≤ 1000) (h0 : x ≠ 0) : (!beB p 3 x) = ((x - x % 1024 == 32768 || x - x % 1024 == 49152) && isB p (x % 1024) 2) := by
 unfold beB
 rw [if_neg (by decide), if_pos rfl, show (x == 0) = false by simpa using h0, show x - 32768 - 16384 = x - 49152 by omega, isB_low (c := 32768) hl (by omega), isB_low (c := 49152) hl (by omega)]
 generalize (x - x % 1024 == 32768) = a1
 generalize (x - x % 1024 == 49152) = a2
 generalize isB p (x % 1024) 2 = a3
 revert a1 a2 a3
 decide
set_option maxRecDepth 100000 in
theorem entry4 (V : Nat → Value) (p : PW) (n m : Nat) (z x : Int) (w : World) (b off cap b1 off1 cap1 : Nat) (HV : Hid (WorldV w V p)) (HP : Hid p.Fits) (RG : Hid ((w.alloc (.cells (arr11 V) 28)).rangeAt w.heap.size 0 (arr11 V).toList))
  (c0 : (w.alloc (.cells (arr11 V) 28)).cell? ⟨w.heap.size, 0, none⟩ = some (V 0)) (c1 : (w.alloc (.cells (arr11 V) 28)).cell? ⟨w.heap.size, 1, none⟩ = some (V 1)) (B0 : Hid (Below w.heap.size w (w.alloc (.cells (arr11 V) 28))))
  (e0 : V 0 = .slice (some ⟨b, off, none⟩) p.ram.length cap) (e1 : V 1 = .slice (some ⟨b1, off1, none⟩) p.kinds.length cap1) (hl1 : (p.kinds.length : Int) ≤ 1000) (hn2 : (n : Int) < (p.ram.length : Int)) (hk2 : (m : Int) < (p.kinds.length : Int)) (hm : (n : Int) / 16 = (m : Int))
  (cn : (w.alloc (.cells (arr11 V) 28)).cell? ⟨b, off + n, none⟩ = some (.int .i64 x)) (cm : (w.alloc (.cells (arr11 V) 28)).cell? ⟨b1, off1 + m, none⟩ = some (.int .i64 z)) (h1 : 0 ≤ x) (h2 : x ≤ 65535) (h0 : ¬ x = 0) (h4 : z = 4) :
  Calls Tryz.prog 99 #[.agg (arr11 V), .int .i64 n] w fun r w' => r = .returned (.bool (!beB p 4 x)) ∧ Below w.heap.size w w' := by
 subst h4
 have HB := hid (beB4 HP.out.kinds h0)
 by_cases hx : x - x % 1024 = 32768
 ·go_enter Tryz.func99, Tryz.ntmps99
  go_wp2_with (first | ((with_reducible (show wpList _ _ _ (⟨_, Op.load 28 _, _, _, _, _⟩ :: _) _ _)); refine wp_ldWg (by rfl) _ rfl _ rfl V RG.out ?_))
  refine (kindOf_any V p (x % 1024) _ (HV.out.below B0.out) HP.out).mono ?_
  rintro e w1 ⟨rfl, hb1⟩
  have BB := hid (btr B0.out hb1)
  clear hb1
  rw [isB_kind (by decide), show (x - x % 1024 == 32768) = true by simpa using hx] at HB
  generalize (kindAt p (x % 1024)).getD (-1) = y at HB ⊢
  go_wp2_with fail
  go_ret
  exact ⟨by rw [HB.out]; rfl, BB.out⟩
 ·rw [show (x - x % 1024 == 32768) = false by simpa using hx] at HB
  go_enter Tryz.func99, Tryz.ntmps99
  go_wp2_with fail
  go_ret
  exact ⟨by rw [HB.out]; rfl, B0.out⟩
set_option maxRecDepth 100000 in
theorem entry3 (V : Nat → Value) (p : PW) (n m : Nat) (z x : Int) (w : World) (b off cap b1 off1 cap1 : Nat) (HV : Hid (WorldV w V p)) (HP : Hid p.Fits) (RG : Hid ((w.alloc (.cells (arr11 V) 28)).rangeAt w.heap.size 0 (arr11 V).toList))
  (c0 : (w.alloc (.cells (arr11 V) 28)).cell? ⟨w.heap.size, 0, none⟩ = some (V 0)) (c1 : (w.alloc (.cells (arr11 V) 28)).cell? ⟨w.heap.size, 1, none⟩ = some (V 1)) (B0 : Hid (Below w.heap.size w (w.alloc (.cells (arr11 V) 28))))
  (e0 : V 0 = .slice (some ⟨b, off, none⟩) p.ram.length cap) (e1 : V 1 = .slice (some ⟨b1, off1, none⟩) p.kinds.length cap1) (hl1 : (p.kinds.length : Int) ≤ 1000) (hn2 : (n : Int) < (p.ram.length : Int)) (hk2 : (m : Int) < (p.kinds.length : Int)) (hm : (n : Int) / 16 = (m : Int))
  (cn : (w.alloc (.cells (arr11 V) 28)).cell? ⟨b, off + n, none⟩ = some (.int .i64 x)) (cm : (w.alloc (.cells (arr11 V) 28)).cell? ⟨b1, off1 + m, none⟩ = some (.int .i64 z)) (h1 : 0 ≤ x) (h2 : x ≤ 65535) (h0 : ¬ x = 0) (h3 : z = 3) :
  Calls Tryz.prog 99 #[.agg (arr11 V), .int .i64 n] w fun r w' => r = .returned (.bool (!beB p 3 x)) ∧ Below w.heap.size w w' := by
 subst h3
 have HB := hid (beB3 HP.out.kinds h0)
 by_cases hx : x - x % 1024 = 32768
 ·go_enter Tryz.func99, Tryz.ntmps99
  go_wp2_with (first | ((with_reducible (show wpList _ _ _ (⟨_, Op.load 28 _, _, _, _, _⟩ :: _) _ _)); refine wp_ldWg (by rfl) _ rfl _ rfl V RG.out ?_))
  refine (kindOf_any V p (x % 1024) _ (HV.out.below B0.out) HP.out).mono ?_
  rintro e w1 ⟨rfl, hb1⟩
  have BB := hid (btr B0.out hb1)
  clear hb1
  rw [isB_kind (by decide), show (x - x % 1024 == 32768) = true by simpa using hx] at HB
  generalize (kindAt p (x % 1024)).getD (-1) = y at HB ⊢
  go_wp2_with fail
  go_ret
  exact ⟨by rw [HB.out]; rfl, BB.out⟩
 ·by_cases hx2 : x - x % 1024 = 49152
  ·go_enter Tryz.func99, Tryz.ntmps99
   go_wp2_with (first | ((with_reducible (show wpList _ _ _ (⟨_, Op.load 28 _, _, _, _, _⟩ :: _) _ _)); refine wp_ldWg (by rfl) _ rfl _ rfl V RG.out ?_))
   refine (kindOf_any V p (x % 1024) _ (HV.out.below B0.out) HP.out).mono ?_
   rintro e w1 ⟨rfl, hb1⟩
   have BB := hid (btr B0.out hb1)
   clear hb1
   rw [isB_kind (by decide), show (x - x % 1024 == 32768) = false by simpa using hx, show (x - x % 1024 == 49152) = true by simpa using hx2] at HB
   generalize (kindAt p (x % 1024)).getD (-1) = y at HB ⊢
   go_wp2_with fail
   go_ret
   exact ⟨by rw [HB.out]; rfl, BB.out⟩
  ·rw [show (x - x % 1024 == 32768) = false by simpa using hx, show (x - x % 1024 == 49152) = false by simpa using hx2] at HB
   go_enter Tryz.func99, Tryz.ntmps99
   go_wp2_with fail
   go_ret
   exact ⟨by rw [HB.out]; rfl, B0.out⟩
set_option maxRecDepth 100000 in
theorem entryWell_any (V : Nat → Value) (p : PW) (n m : Nat) (w : World) (hv : WorldV w V p) (hp : p.Fits) (hn : n < p.ram.length) (hm : (n : Int) / 16 = (m : Int)) (hk : m < p.kinds.length) (he : 0 ≤ p.ram[n] ∧ p.ram[n] ≤ 65535) :
  Calls Tryz.prog 99 #[.agg (arr11 V), .int .i64 n] w fun r w' => r = .returned (.bool (!beB p p.kinds[m] p.ram[n])) ∧ Below w.heap.size w w' := by
 have RG := hid (boxed w V 28)
 have c0 : (w.alloc (.cells (arr11 V) 28)).cell? ⟨w.heap.size, 0, none⟩ = some (V 0) := range_cell RG.out rfl
 have c1 : (w.alloc (.cells (arr11 V) 28)).cell? ⟨w.heap.size, 1, none⟩ = some (V 1) := range_cell RG.out rfl
 have B0 := hid (bal (Below.refl w.heap.size w) (.cells (arr11 V) 28))
 obtain ⟨q, b, off, cap, e0, hq, hz⟩ := hv.ram
 obtain ⟨q1, b1, off1, cap1, e1, hq1, hz1⟩ := hv.kinds
 have hl : (p.ram.length : Int) ≤ 1000 := by have := hp.ram; omega
 have hl1 : (p.kinds.length : Int) ≤ 1000 := by have := hp.kinds; omega
 have hn2 : (n : Int) < (p.ram.length : Int) := by omega
 have hk2 : (m : Int) < (p.kinds.length : Int) := by omega
 obtain rfl := hq (by omega)
 obtain rfl := hq1 (by omega)
 have cn := (hz.below B0.out) n hn
 have cm := (hz1.below B0.out) m hk
 have HV := hid hv
 have HP := hid hp
 generalize p.kinds[m] = z at cm ⊢
 generalize p.ram[n] = x at cn he ⊢
 have h1 : 0 ≤ x := he.1
 have h2 : x ≤ 65535 := he.2
 by_cases hh : ¬ x = 0 ∧ z = 4
 ·obtain ⟨h0, rfl⟩ := hh
  exact entry4 V p n m 4 x w b off cap b1 off1 cap1 HV HP RG c0 c1 B0 e0 e1 hl1 hn2 hk2 hm cn cm h1 h2 h0 rfl
 by_cases hh3 : ¬ x = 0 ∧ z = 3
 ·obtain ⟨h0, rfl⟩ := hh3
  exact entry3 V p n m 3 x w b off cap b1 off1 cap1 HV HP RG c0 c1 B0 e0 e1 hl1 hn2 hk2 hm cn cm h1 h2 h0 rfl
 clear hz hz1 hv hp hq hq1 hk he
 by_cases h0 : x = 0
 ·subst h0
  have HB := hid (show (!beB p z 0) = true by unfold beB; split <;> (try split) <;> rfl)
  go_enter Tryz.func99, Tryz.ntmps99
  go_wp2_with fail
  go_ret
  exact ⟨by rw [HB.out]; rfl, B0.out⟩
 have h4 : ¬ z = 4 := fun h => hh ⟨h0, h⟩
 have h3 : ¬ z = 3 := fun h => hh3 ⟨h0, h⟩
 clear hh hh3
 have h5 : (z != 3) = true := by simpa using h3
 have h6 : (z != 4) = true := by simpa using h4
 have h34 : (z != 3 && z != 4) = true := by rw [h5, h6]; rfl
 have HB := hid (show (!beB p z x) = true by unfold beB; rw [if_neg h4, if_neg h3]; rfl)
 go_enter Tryz.func99, Tryz.ntmps99
 go_wp2_with fail
 go_ret
 exact ⟨by rw [HB.out]; rfl, B0.out⟩
end Go.Proofs.YtoebmjgkfkfhjaaGreatDoor.Wd
