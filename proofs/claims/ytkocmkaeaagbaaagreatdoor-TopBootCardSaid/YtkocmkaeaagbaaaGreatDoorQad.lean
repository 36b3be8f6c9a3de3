/- A world that is handed in and not huge; world.look over numbers, walked. · world.look over lists of numbers, lists of entries, slots and tasks, walked; and where something was wrong before. · What is asked of a world: kinds of frames, words; walked. · Who may run: world.isReady, world.badCore; walked. · Who may run, by the other text: keyholdref.readyAt; walked. · Who is next: world.badReady; walked. · Words of tables: world.badEntry; walked. · Words of tables, by the other text: keyholdref.entryWell; walked. -/
import Derived.Test.YtkocmkaeaagbaaaGreatDoorQab
import Derived.Test.YtkocmkaeaagbaaaGreatDoorQac
namespace Go.Proofs.YtkocmkaeaagbaaaGreatDoor.Wd
open Go.RowKit Go.Proofs.YtkocmkaeaagbaaaGreatDoor.Mem Go.Proofs.YtkocmkaeaagbaaaGreatDoor.Bw Go.Proofs.YtkocmkaeaagbaaaGreatDoor.Nums Go.Proofs.YtkocmkaeaagbaaaGreatDoor.Mmu
/-- What a search tells: nothing, or the first that is not well. -/
def Told {α : Type} (w : World) (bad : Nat → α → Bool) (l : List α) (e : Int) (x : Value) : Prop :=
 ((∀ k (h : k < l.length), bad k l[k] = false) ∧ x = .nilIface) ∨
 ∃ (k b : Nat) (h : k < l.length), bad k l[k] = true ∧ (∀ j (h : j < l.length), j < k → bad j l[j] = false) ∧ x = .iface 96 (.pointer (some ⟨b, 0, none⟩)) ∧ w.cell? ⟨b, 0, none⟩ = some (.int .i64 k) ∧ w.cell? ⟨b, 1, none⟩ = some (.iface 29 (.int .i64 e))
set_option maxRecDepth 100000 in
set_option maxHeartbeats 2000000 in
theorem look_int (N : Nat) (first : Array Value) (bad : Nat → Int → Bool) (e : Int) (v : Value) (zs : List Int) (w : World) (hv : IntsIn w v zs) (hl : zs.length ≤ 1000) (hN : ∀ args (W : World), (callFunc N args).run Tryz.prog W = .ok (.enter N args) W)
  (hC : ∀ (k : Nat) (hk : k < zs.length) (W : World), Below w.heap.size w W → Calls Tryz.prog N (first ++ #[.int .i64 k, .int .i64 zs[k]]) W fun r w' => r = .returned (.bool (bad k zs[k])) ∧ Below W.heap.size W w') :
  Calls Tryz.prog 44 #[.nilIface, v, .func (.func N) first #[], .int .i64 e] w fun r w' => ∃ x, r = .returned x ∧ Told w' bad zs e x ∧ Below w.heap.size w w' := by
 obtain ⟨q, b, off, cap, rfl, hq, hz⟩ := hv
 have HQ := hid hq
 have HZ := hid hz
 have HC := hid hC
 clear hq hz hC
 have hl2 : (zs.length : Int) ≤ 1000 := by omega
 go_enter Tryz.func44, Tryz.ntmps44
 go_wp2_with fail
 go_loopw [16] (fun i wr => ∃ k : Nat, k ≤ zs.length ∧ i = .int .i64 k ∧ Hid (∀ j (hj : j < zs.length), j < k → bad j zs[j] = false) ∧ Hid (Below w.heap.size w wr)) (fun i _ => zs.length - (intOf i).toNat)
 case atStart => exact ⟨0, by omega, rfl, hid fun j _ h => by omega, hid (Below.refl _ _)⟩
 case round =>
  obtain ⟨k, hk, rfl, HE, HB⟩ := hrel
  by_cases hlt : k < zs.length
  ·have hlt2 : (k : Int) < (zs.length : Int) := by omega
   have hqe := HQ.out (by omega)
   subst hqe
   have c0 := (HZ.out.below HB.out) k hlt
   have CC := hid (HC.out k hlt wr HB.out)
   have HT := hid (fun (W : World) (b : Nat) (x : Value) (h1 : bad k zs[k] = true) (h2 : x = .iface 96 (.pointer (some ⟨b, 0, none⟩))) (h3 : W.cell? ⟨b, 0, none⟩ = some (.int .i64 k)) (h4 : W.cell? ⟨b, 1, none⟩ = some (.iface 29 (.int .i64 e))) => show Told W bad zs e x from .inr ⟨k, b, hlt, h1, HE.out, h2, h3, h4⟩)
   have HS := hid (show bad k zs[k] = false → ∀ j (hj : j < zs.length), j < k + 1 → bad j zs[j] = false from fun hf j hj hjk => by
    by_cases e : j = k
    ·subst e; exact hf
    ·exact HE.out j hj (by omega))
   generalize zs[k] = z at c0 CC HT HS
   go_wp2_with fail
   refine CC.out.mono ?_
   rintro r w1 ⟨rfl, hb⟩
   have B1 := hid (btr HB.out hb)
   clear hb
   cases hn : bad k z with
   | true =>
    have HV := hid (HT.out (w1.alloc (.cells #[.int .i64 k, .iface 29 (.int .i64 e)] 98)) w1.heap.size _ hn rfl (cells_new w1 #[.int .i64 k, .iface 29 (.int .i64 e)] _ 0) (cells_new w1 #[.int .i64 k, .iface 29 (.int .i64 e)] _ 1))
    go_wp2_with fail
    go_ret
    exact ⟨_, rfl, HV.out, bal B1.out _⟩
   | false =>
    have HN := hid (HS.out hn)
    go_wp2_with fail
    exact ⟨⟨k + 1, by omega, by go_num, HN, B1⟩, by simp [intOf]; omega⟩
  ·obtain rfl : k = zs.length := by omega
   have hge : ¬ ((zs.length : Int) < (zs.length : Int)) := by omega
   have HF := hid (show ∀ k (h : k < zs.length), bad k zs[k] = false from fun k h => HE.out k h h)
   go_wp2_with fail
   go_ret
   exact ⟨_, rfl, .inl ⟨HF.out, rfl⟩, HB.out⟩
set_option maxRecDepth 100000 in
set_option maxHeartbeats 2000000 in
theorem look_lists (N : Nat) (first : Array Value) (bad : Nat → List Int → Bool) (e : Int) (v : Value) (zs : List (List Int)) (w : World) (hv : ListsIn w v zs) (hl : zs.length ≤ 1000) (hN : ∀ args (W : World), (callFunc N args).run Tryz.prog W = .ok (.enter N args) W)
  (hC : ∀ (k : Nat) (hk : k < zs.length) (W : World) (x : Value), Below w.heap.size w W → IntsIn W x zs[k] → Calls Tryz.prog N (first ++ #[.int .i64 k, x]) W fun r w' => r = .returned (.bool (bad k zs[k])) ∧ Below W.heap.size W w') :
  Calls Tryz.prog 53 #[.nilIface, v, .func (.func N) first #[], .int .i64 e] w fun r w' => ∃ x, r = .returned x ∧ Told w' bad zs e x ∧ Below w.heap.size w w' := by
 obtain ⟨q, b, off, cap, rfl, hq, hz⟩ := hv
 have HQ := hid hq
 have HZ := hid hz
 have HC := hid hC
 clear hq hz hC
 have hl2 : (zs.length : Int) ≤ 1000 := by omega
 go_enter Tryz.func53, Tryz.ntmps53
 go_wp2_with fail
 go_loopw [16] (fun i wr => ∃ k : Nat, k ≤ zs.length ∧ i = .int .i64 k ∧ Hid (∀ j (hj : j < zs.length), j < k → bad j zs[j] = false) ∧ Hid (Below w.heap.size w wr)) (fun i _ => zs.length - (intOf i).toNat)
 case atStart => exact ⟨0, by omega, rfl, hid fun j _ h => by omega, hid (Below.refl _ _)⟩
 case round =>
  obtain ⟨k, hk, rfl, HE, HB⟩ := hrel
  by_cases hlt : k < zs.length
  ·have hlt2 : (k : Int) < (zs.length : Int) := by omega
   have hqe := HQ.out (by omega)
   subst hqe
   obtain ⟨y, hy, hyi⟩ := HZ.out k hlt
   have c0 := (HB.out.cell (World.block_lt_of_cell? _ _ hy)).trans hy
   have CC := hid (HC.out k hlt wr y HB.out (hyi.below HB.out))
   clear hy hyi
   have HT := hid (fun (W : World) (b : Nat) (x : Value) (h1 : bad k zs[k] = true) (h2 : x = .iface 96 (.pointer (some ⟨b, 0, none⟩))) (h3 : W.cell? ⟨b, 0, none⟩ = some (.int .i64 k)) (h4 : W.cell? ⟨b, 1, none⟩ = some (.iface 29 (.int .i64 e))) => show Told W bad zs e x from .inr ⟨k, b, hlt, h1, HE.out, h2, h3, h4⟩)
   have HS := hid (show bad k zs[k] = false → ∀ j (hj : j < zs.length), j < k + 1 → bad j zs[j] = false from fun hf j hj hjk => by
    by_cases e : j = k
    ·subst e; exact hf
    ·exact HE.out j hj (by omega))
   generalize zs[k] = z at CC HT HS
   go_wp2_with fail
   refine CC.out.mono ?_
   rintro r w1 ⟨rfl, hb⟩
   have B1 := hid (btr HB.out hb)
   clear hb
   cases hn : bad k z with
   | true =>
    have HV := hid (HT.out (w1.alloc (.cells #[.int .i64 k, .iface 29 (.int .i64 e)] 98)) w1.heap.size _ hn rfl (cells_new w1 #[.int .i64 k, .iface 29 (.int .i64 e)] _ 0) (cells_new w1 #[.int .i64 k, .iface 29 (.int .i64 e)] _ 1))
    go_wp2_with fail
    go_ret
    exact ⟨_, rfl, HV.out, bal B1.out _⟩
   | false =>
    have HN := hid (HS.out hn)
    go_wp2_with fail
    exact ⟨⟨k + 1, by omega, by go_num, HN, B1⟩, by simp [intOf]; omega⟩
  ·obtain rfl : k = zs.length := by omega
   have hge : ¬ ((zs.length : Int) < (zs.length : Int)) := by omega
   have HF := hid (show ∀ k (h : k < zs.length), bad k zs[k] = false from fun k h => HE.out k h h)
   go_wp2_with fail
   go_ret
   exact ⟨_, rfl, .inl ⟨HF.out, rfl⟩, HB.out⟩
set_option maxRecDepth 100000 in
set_option maxHeartbeats 2000000 in
theorem look_tlbs (N : Nat) (first : Array Value) (bad : Nat → List Ent → Bool) (e : Int) (v : Value) (zs : List (List Ent)) (w : World) (hv : TlbsIn w v zs) (hl : zs.length ≤ 1000) (hN : ∀ args (W : World), (callFunc N args).run Tryz.prog W = .ok (.enter N args) W)
  (hC : ∀ (k : Nat) (hk : k < zs.length) (W : World) (x : Value), Below w.heap.size w W → TlbIn W x zs[k] → RoomV x → Calls Tryz.prog N (first ++ #[.int .i64 k, x]) W fun r w' => r = .returned (.bool (bad k zs[k])) ∧ Below W.heap.size W w') :
  Calls Tryz.prog 58 #[.nilIface, v, .func (.func N) first #[], .int .i64 e] w fun r w' => ∃ x, r = .returned x ∧ Told w' bad zs e x ∧ Below w.heap.size w w' := by
 obtain ⟨q, b, off, cap, rfl, hq, hz⟩ := hv
 have HQ := hid hq
 have HZ := hid hz
 have HC := hid hC
 clear hq hz hC
 have hl2 : (zs.length : Int) ≤ 1000 := by omega
 go_enter Tryz.func58, Tryz.ntmps58
 go_wp2_with fail
 go_loopw [16] (fun i wr => ∃ k : Nat, k ≤ zs.length ∧ i = .int .i64 k ∧ Hid (∀ j (hj : j < zs.length), j < k → bad j zs[j] = false) ∧ Hid (Below w.heap.size w wr)) (fun i _ => zs.length - (intOf i).toNat)
 case atStart => exact ⟨0, by omega, rfl, hid fun j _ h => by omega, hid (Below.refl _ _)⟩
 case round =>
  obtain ⟨k, hk, rfl, HE, HB⟩ := hrel
  by_cases hlt : k < zs.length
  ·have hlt2 : (k : Int) < (zs.length : Int) := by omega
   have hqe := HQ.out (by omega)
   subst hqe
   obtain ⟨y, hy, hyi⟩ := HZ.out k hlt
   have c0 := (HB.out.cell (World.block_lt_of_cell? _ _ hy)).trans hy
   have CC := hid (HC.out k hlt wr y HB.out (hyi.1.below HB.out) hyi.2)
   clear hy hyi
   have HT := hid (fun (W : World) (b : Nat) (x : Value) (h1 : bad k zs[k] = true) (h2 : x = .iface 96 (.pointer (some ⟨b, 0, none⟩))) (h3 : W.cell? ⟨b, 0, none⟩ = some (.int .i64 k)) (h4 : W.cell? ⟨b, 1, none⟩ = some (.iface 29 (.int .i64 e))) => show Told W bad zs e x from .inr ⟨k, b, hlt, h1, HE.out, h2, h3, h4⟩)
   have HS := hid (show bad k zs[k] = false → ∀ j (hj : j < zs.length), j < k + 1 → bad j zs[j] = false from fun hf j hj hjk => by
    by_cases e : j = k
    ·subst e; exact hf
    ·exact HE.out j hj (by omega))
   generalize zs[k] = z at CC HT HS
   go_wp2_with fail
   refine CC.out.mono ?_
   rintro r w1 ⟨rfl, hb⟩
   have B1 := hid (btr HB.out hb)
   clear hb
   cases hn : bad k z with
   | true =>
    have HV := hid (HT.out (w1.alloc (.cells #[.int .i64 k, .iface 29 (.int .i64 e)] 98)) w1.heap.size _ hn rfl (cells_new w1 #[.int .i64 k, .iface 29 (.int .i64 e)] _ 0) (cells_new w1 #[.int .i64 k, .iface 29 (.int .i64 e)] _ 1))
    go_wp2_with fail
    go_ret
    exact ⟨_, rfl, HV.out, bal B1.out _⟩
   | false =>
    have HN := hid (HS.out hn)
    go_wp2_with fail
    exact ⟨⟨k + 1, by omega, by go_num, HN, B1⟩, by simp [intOf]; omega⟩
  ·obtain rfl : k = zs.length := by omega
   have hge : ¬ ((zs.length : Int) < (zs.length : Int)) := by omega
   have HF := hid (show ∀ k (h : k < zs.length), bad k zs[k] = false from fun k h => HE.out k h h)
   go_wp2_with fail
   go_ret
   exact ⟨_, rfl, .inl ⟨HF.out, rfl⟩, HB.out⟩
set_option maxRecDepth 100000 in
set_option maxHeartbeats 4000000 in
theorem look_slots (N : Nat) (first : Array Value) (bad : Nat → (Nat → Int) → Bool) (e : Int) (v : Value) (zs : List (Nat → Int)) (w : World) (hv : RowsIn 7 w v zs) (hl : zs.length ≤ 1000) (hN : ∀ args (W : World), (callFunc N args).run Tryz.prog W = .ok (.enter N args) W)
  (hC : ∀ (k : Nat) (hk : k < zs.length) (W : World), Below w.heap.size w W → Calls Tryz.prog N (first ++ #[.int .i64 k, .agg (cf 7 zs[k]).toArray]) W fun r w' => r = .returned (.bool (bad k zs[k])) ∧ Below W.heap.size W w') :
  Calls Tryz.prog 48 #[.nilIface, v, .func (.func N) first #[], .int .i64 e] w fun r w' => ∃ x, r = .returned x ∧ Told w' bad zs e x ∧ Below w.heap.size w w' := by
 obtain ⟨q, b, off, cap, rfl, hq, hz⟩ := hv
 have HQ := hid hq
 have HZ := hid hz
 have HC := hid hC
 clear hq hz hC
 have hl2 : (zs.length : Int) ≤ 1000 := by omega
 go_enter Tryz.func48, Tryz.ntmps48
 go_wp2_with fail
 go_loopw [16] (fun i wr => ∃ k : Nat, k ≤ zs.length ∧ i = .int .i64 k ∧ Hid (∀ j (hj : j < zs.length), j < k → bad j zs[j] = false) ∧ Hid (Below w.heap.size w wr)) (fun i _ => zs.length - (intOf i).toNat)
 case atStart => exact ⟨0, by omega, rfl, hid fun j _ h => by omega, hid (Below.refl _ _)⟩
 case round =>
  obtain ⟨k, hk, rfl, HE, HB⟩ := hrel
  by_cases hlt : k < zs.length
  ·have hlt2 : (k : Int) < (zs.length : Int) := by omega
   have hqe := HQ.out (by omega)
   subst hqe
   have X0 := hid (range_belowO (HZ.out k hlt) HB.out)
   have CC := hid (HC.out k hlt)
   have HT := hid (fun (W : World) (b : Nat) (x : Value) (h1 : bad k zs[k] = true) (h2 : x = .iface 96 (.pointer (some ⟨b, 0, none⟩))) (h3 : W.cell? ⟨b, 0, none⟩ = some (.int .i64 k)) (h4 : W.cell? ⟨b, 1, none⟩ = some (.iface 29 (.int .i64 e))) => show Told W bad zs e x from .inr ⟨k, b, hlt, h1, HE.out, h2, h3, h4⟩)
   have HS := hid (show bad k zs[k] = false → ∀ j (hj : j < zs.length), j < k + 1 → bad j zs[j] = false from fun hf j hj hjk => by
    by_cases e : j = k
    ·subst e; exact hf
    ·exact HE.out j hj (by omega))
   generalize zs[k] = z at X0 CC HT HS
   have T5 := hid (there_new wr #[.int .i64 0, .int .i64 0, .int .i64 0, .int .i64 0, .int .i64 0, .int .i64 0, .int .i64 0] 45 wr.heap.size 7 rfl (by decide))
   have R5 := hid (World.rangeAt_setCells_same _ wr.heap.size 0 (cf 7 z) (by rw [cf_len]; exact T5.out))
   have B5 := hid (below_setCells (bal (Below.refl wr.heap.size wr) (.cells #[.int .i64 0, .int .i64 0, .int .i64 0, .int .i64 0, .int .i64 0, .int .i64 0, .int .i64 0] 45)) (Nat.le_refl _) (cf 7 z) 0)
   have hi5 : (Tryz.prog.info? 45).map (·.size) = some (cf 7 z).length := by rw [cf_len]; exact info7
   have HI5 := hid hi5
   have HS5 := hid (show (Tryz.prog.info? 45).map (·.size) = some (cf 7 z).toArray.size by rw [List.size_toArray]; exact hi5)
   have esz : (cf 7 z).toArray.size = 7 := by simp [cf_len]
   have T6 := hid (show (wr.alloc (.cells #[.int .i64 0, .int .i64 0, .int .i64 0, .int .i64 0, .int .i64 0, .int .i64 0, .int .i64 0] 45)).there wr.heap.size 0 (cf 7 z).toArray.size by rw [esz]; exact T5.out)
   clear esz
   clear hi5
   go_wp2_with (first
    | ((with_reducible (show wpList _ _ _ (⟨_, Op.store 45 _ _, _, _, _, _⟩ :: _) _ _)); refine wpList_store_mid rfl 45 _ _ rfl wr.heap.size 0 (cf 7 z).toArray rfl rfl T6.out HS5.out (all_oneCell_toArray (cf_one 7 z)) ?_; generalize World.setCells _ _ _ _ = W5 at R5 B5 ⊢)
    | ((with_reducible (show wpList _ _ _ (⟨_, Op.load 45 _, _, _, _, _⟩ :: _) _ _)); refine wpList_load_mid rfl 45 _ rfl b (off + k * 7) rfl (cf 7 z) _ X0.out Tryz.underlying45 rfl HI5.out ?_)
    | ((with_reducible (show wpList _ _ _ (⟨_, Op.load 45 _, _, _, _, _⟩ :: _) _ _)); refine wpList_load_mid rfl 45 _ rfl wr.heap.size 0 rfl (cf 7 z) _ R5.out Tryz.underlying45 rfl HI5.out ?_))
   refine (CC.out W5 (btr HB.out B5.out)).mono ?_
   rintro r w1 ⟨rfl, hb⟩
   have B1 := hid (btr (btr HB.out B5.out) hb)
   clear T5 R5 B5 HI5 HS5 T6 X0
   clear hb
   cases hn : bad k z with
   | true =>
    have HV := hid (HT.out (w1.alloc (.cells #[.int .i64 k, .iface 29 (.int .i64 e)] 98)) w1.heap.size _ hn rfl (cells_new w1 #[.int .i64 k, .iface 29 (.int .i64 e)] _ 0) (cells_new w1 #[.int .i64 k, .iface 29 (.int .i64 e)] _ 1))
    go_wp2_with fail
    go_ret
    exact ⟨_, rfl, HV.out, bal B1.out _⟩
   | false =>
    have HN := hid (HS.out hn)
    go_wp2_with fail
    exact ⟨⟨k + 1, by omega, by go_num, HN, B1⟩, by simp [intOf]; omega⟩
  ·obtain rfl : k = zs.length := by omega
   have hge : ¬ ((zs.length : Int) < (zs.length : Int)) := by omega
   have HF := hid (show ∀ k (h : k < zs.length), bad k zs[k] = false from fun k h => HE.out k h h)
   go_wp2_with fail
   go_ret
   exact ⟨_, rfl, .inl ⟨HF.out, rfl⟩, HB.out⟩
set_option maxRecDepth 100000 in
set_option maxHeartbeats 4000000 in
theorem look_tasks (N : Nat) (first : Array Value) (bad : Nat → (Nat → Int) → Bool) (e : Int) (v : Value) (zs : List (Nat → Int)) (w : World) (hv : RowsIn 20 w v zs) (hl : zs.length ≤ 1000) (hN : ∀ args (W : World), (callFunc N args).run Tryz.prog W = .ok (.enter N args) W)
  (hC : ∀ (k : Nat) (hk : k < zs.length) (W : World), Below w.heap.size w W → Calls Tryz.prog N (first ++ #[.int .i64 k, .agg (cf 20 zs[k]).toArray]) W fun r w' => r = .returned (.bool (bad k zs[k])) ∧ Below W.heap.size W w') :
  Calls Tryz.prog 51 #[.nilIface, v, .func (.func N) first #[], .int .i64 e] w fun r w' => ∃ x, r = .returned x ∧ Told w' bad zs e x ∧ Below w.heap.size w w' := by
 obtain ⟨q, b, off, cap, rfl, hq, hz⟩ := hv
 have HQ := hid hq
 have HZ := hid hz
 have HC := hid hC
 clear hq hz hC
 have hl2 : (zs.length : Int) ≤ 1000 := by omega
 go_enter Tryz.func51, Tryz.ntmps51
 go_wp2_with fail
 go_loopw [16] (fun i wr => ∃ k : Nat, k ≤ zs.length ∧ i = .int .i64 k ∧ Hid (∀ j (hj : j < zs.length), j < k → bad j zs[j] = false) ∧ Hid (Below w.heap.size w wr)) (fun i _ => zs.length - (intOf i).toNat)
 case atStart => exact ⟨0, by omega, rfl, hid fun j _ h => by omega, hid (Below.refl _ _)⟩
 case round =>
  obtain ⟨k, hk, rfl, HE, HB⟩ := hrel
  by_cases hlt : k < zs.length
  ·have hlt2 : (k : Int) < (zs.length : Int) := by omega
   have hqe := HQ.out (by omega)
   subst hqe
   have X0 := hid (range_belowO (HZ.out k hlt) HB.out)
   have CC := hid (HC.out k hlt)
   have HT := hid (fun (W : World) (b : Nat) (x : Value) (h1 : bad k zs[k] = true) (h2 : x = .iface 96 (.pointer (some ⟨b, 0, none⟩))) (h3 : W.cell? ⟨b, 0, none⟩ = some (.int .i64 k)) (h4 : W.cell? ⟨b, 1, none⟩ = some (.iface 29 (.int .i64 e))) => show Told W bad zs e x from .inr ⟨k, b, hlt, h1, HE.out, h2, h3, h4⟩)
   have HS := hid (show bad k zs[k] = false → ∀ j (hj : j < zs.length), j < k + 1 → bad j zs[j] = false from fun hf j hj hjk => by
    by_cases e : j = k
    ·subst e; exact hf
    ·exact HE.out j hj (by omega))
   generalize zs[k] = z at X0 CC HT HS
   have T5 := hid (there_new wr #[.int .i64 0, .int .i64 0, .int .i64 0, .int .i64 0, .int .i64 0, .int .i64 0, .int .i64 0, .int .i64 0, .int .i64 0, .int .i64 0, .int .i64 0, .int .i64 0, .int .i64 0, .int .i64 0, .int .i64 0, .int .i64 0, .int .i64 0, .int .i64 0, .int .i64 0, .int .i64 0] 68 wr.heap.size 20 rfl (by decide))
   have R5 := hid (World.rangeAt_setCells_same _ wr.heap.size 0 (cf 20 z) (by rw [cf_len]; exact T5.out))
   have B5 := hid (below_setCells (bal (Below.refl wr.heap.size wr) (.cells #[.int .i64 0, .int .i64 0, .int .i64 0, .int .i64 0, .int .i64 0, .int .i64 0, .int .i64 0, .int .i64 0, .int .i64 0, .int .i64 0, .int .i64 0, .int .i64 0, .int .i64 0, .int .i64 0, .int .i64 0, .int .i64 0, .int .i64 0, .int .i64 0, .int .i64 0, .int .i64 0] 68)) (Nat.le_refl _) (cf 20 z) 0)
   have hi5 : (Tryz.prog.info? 68).map (·.size) = some (cf 20 z).length := by rw [cf_len]; exact info20
   have HI5 := hid hi5
   have HS5 := hid (show (Tryz.prog.info? 68).map (·.size) = some (cf 20 z).toArray.size by rw [List.size_toArray]; exact hi5)
   have esz : (cf 20 z).toArray.size = 20 := by simp [cf_len]
   have T6 := hid (show (wr.alloc (.cells #[.int .i64 0, .int .i64 0, .int .i64 0, .int .i64 0, .int .i64 0, .int .i64 0, .int .i64 0, .int .i64 0, .int .i64 0, .int .i64 0, .int .i64 0, .int .i64 0, .int .i64 0, .int .i64 0, .int .i64 0, .int .i64 0, .int .i64 0, .int .i64 0, .int .i64 0, .int .i64 0] 68)).there wr.heap.size 0 (cf 20 z).toArray.size by rw [esz]; exact T5.out)
   clear esz
   clear hi5
   go_wp2_with (first
    | ((with_reducible (show wpList _ _ _ (⟨_, Op.store 68 _ _, _, _, _, _⟩ :: _) _ _)); refine wpList_store_mid rfl 68 _ _ rfl wr.heap.size 0 (cf 20 z).toArray rfl rfl T6.out HS5.out (all_oneCell_toArray (cf_one 20 z)) ?_; generalize World.setCells _ _ _ _ = W5 at R5 B5 ⊢)
    | ((with_reducible (show wpList _ _ _ (⟨_, Op.load 68 _, _, _, _, _⟩ :: _) _ _)); refine wpList_load_mid rfl 68 _ rfl b (off + k * 20) rfl (cf 20 z) _ X0.out Tryz.underlying68 rfl HI5.out ?_)
    | ((with_reducible (show wpList _ _ _ (⟨_, Op.load 68 _, _, _, _, _⟩ :: _) _ _)); refine wpList_load_mid rfl 68 _ rfl wr.heap.size 0 rfl (cf 20 z) _ R5.out Tryz.underlying68 rfl HI5.out ?_))
   refine (CC.out W5 (btr HB.out B5.out)).mono ?_
   rintro r w1 ⟨rfl, hb⟩
   have B1 := hid (btr (btr HB.out B5.out) hb)
   clear T5 R5 B5 HI5 HS5 T6 X0
   clear hb
   cases hn : bad k z with
   | true =>
    have HV := hid (HT.out (w1.alloc (.cells #[.int .i64 k, .iface 29 (.int .i64 e)] 98)) w1.heap.size _ hn rfl (cells_new w1 #[.int .i64 k, .iface 29 (.int .i64 e)] _ 0) (cells_new w1 #[.int .i64 k, .iface 29 (.int .i64 e)] _ 1))
    go_wp2_with fail
    go_ret
    exact ⟨_, rfl, HV.out, bal B1.out _⟩
   | false =>
    have HN := hid (HS.out hn)
    go_wp2_with fail
    exact ⟨⟨k + 1, by omega, by go_num, HN, B1⟩, by simp [intOf]; omega⟩
  ·obtain rfl : k = zs.length := by omega
   have hge : ¬ ((zs.length : Int) < (zs.length : Int)) := by omega
   have HF := hid (show ∀ k (h : k < zs.length), bad k zs[k] = false from fun k h => HE.out k h h)
   go_wp2_with fail
   go_ret
   exact ⟨_, rfl, .inl ⟨HF.out, rfl⟩, HB.out⟩
theorem skip_int (b : Nat) (v fv : Value) (e : Int) (w : World) :
  Calls Tryz.prog 44 #[.iface 96 (.pointer (some ⟨b, 0, none⟩)), v, fv, .int .i64 e] w fun r w' => r = .returned (.iface 96 (.pointer (some ⟨b, 0, none⟩))) ∧ w = w' := by
 go_enter Tryz.func44, Tryz.ntmps44
 go_wp2_with fail
 go_ret
 exact ⟨rfl, rfl⟩
theorem skip_lists (b : Nat) (v fv : Value) (e : Int) (w : World) :
  Calls Tryz.prog 53 #[.iface 96 (.pointer (some ⟨b, 0, none⟩)), v, fv, .int .i64 e] w fun r w' => r = .returned (.iface 96 (.pointer (some ⟨b, 0, none⟩))) ∧ w = w' := by
 go_enter Tryz.func53, Tryz.ntmps53
 go_wp2_with fail
 go_ret
 exact ⟨rfl, rfl⟩
theorem skip_tlbs (b : Nat) (v fv : Value) (e : Int) (w : World) :
  Calls Tryz.prog 58 #[.iface 96 (.pointer (some ⟨b, 0, none⟩)), v, fv, .int .i64 e] w fun r w' => r = .returned (.iface 96 (.pointer (some ⟨b, 0, none⟩))) ∧ w = w' := by
 go_enter Tryz.func58, Tryz.ntmps58
 go_wp2_with fail
 go_ret
 exact ⟨rfl, rfl⟩
theorem skip_slots (b : Nat) (v fv : Value) (e : Int) (w : World) :
  Calls Tryz.prog 48 #[.iface 96 (.pointer (some ⟨b, 0, none⟩)), v, fv, .int .i64 e] w fun r w' => r = .returned (.iface 96 (.pointer (some ⟨b, 0, none⟩))) ∧ w = w' := by
 go_enter Tryz.func48, Tryz.ntmps48
 go_wp2_with fail
 go_ret
 exact ⟨rfl, rfl⟩
theorem skip_tasks (b : Nat) (v fv : Value) (e : Int) (w : World) :
  Calls Tryz.prog 51 #[.iface 96 (.pointer (some ⟨b, 0, none⟩)), v, fv, .int .i64 e] w fun r w' => r = .returned (.iface 96 (.pointer (some ⟨b, 0, none⟩))) ∧ w = w' := by
 go_enter Tryz.func51, Tryz.ntmps51
 go_wp2_with fail
 go_ret
 exact ⟨rfl, rfl⟩
/-- A world that is looked at. -/
structure ViewAt (w : World) (vb : Nat) (V : Nat → Value) (p : PW) : Prop where
 r : w.rangeAt vb 0 (arr11 V).toList
 v : WorldV w V p
 f : p.Fits
theorem ViewAt.below {w w' : World} {vb : Nat} {V : Nat → Value} {p : PW} (h : ViewAt w vb V p) (hb : Below w.heap.size w w') : ViewAt w' vb V p := ⟨range_below h.r hb, h.v.below hb, h.f⟩
/-- The kind of a frame; none: no frame. -/
def kindAt (p : PW) (f : Int) : Option Int := if 0 ≤ f then p.kinds[f.toNat]? else none
def isB (p : PW) (f k : Int) : Bool := kindAt p f == some k
theorem kindAt_some {p : PW} {j : Nat} (h : j < p.kinds.length) : kindAt p (j : Int) = some p.kinds[j] := by
 unfold kindAt
 rw [if_pos (by omega), Int.toNat_natCast, List.getElem?_eq_getElem h]
theorem kindAt_none {p : PW} {f : Int} (h : ¬ (0 ≤ f ∧ f ≤ (p.kinds.length : Int) - 1)) : kindAt p f = none := by
 unfold kindAt
 split
 ·rw [List.getElem?_eq_none (by omega)]
 ·rfl
/-- Is it the number of a frame? -/
def frB (p : PW) (n : Int) : Bool := decide (0 ≤ n ∧ n ≤ (p.kinds.length : Int) - 1)
theorem pisFrame_any (vb : Nat) (V : Nat → Value) (p : PW) (n : Int) (w : World) (hv : ViewAt w vb V p) :
  Calls Tryz.prog 128 #[.pointer (some ⟨vb, 0, none⟩), .int .i64 n] w fun r w' => r = .returned (.bool (frB p n)) ∧ w = w' := by
 have c1 : w.cell? ⟨vb, 1, none⟩ = some (V 1) := range_cell hv.r rfl
 obtain ⟨q, b, off, cap, e1, hq, hz⟩ := hv.v.kinds
 have hl : (p.kinds.length : Int) ≤ 1000 := by have := hv.f.kinds; omega
 have HB := hid (show frB p n = decide (0 ≤ n ∧ n ≤ (p.kinds.length : Int) - 1) from rfl)
 clear hq hz hv
 go_enter Tryz.func128, Tryz.ntmps128
 go_wp2_with fail
 refine (within_any n 0 _ w).mono ?_
 rintro r w1 ⟨rfl, rfl⟩
 generalize decide (0 ≤ n ∧ n ≤ (p.kinds.length : Int) - 1) = bb at HB ⊢
 go_wp2_with fail
 go_ret
 exact ⟨by rw [HB.out]; rfl, rfl⟩
theorem pis_any (vb : Nat) (V : Nat → Value) (p : PW) (f k : Int) (w : World) (hv : ViewAt w vb V p) :
  Calls Tryz.prog 117 #[.pointer (some ⟨vb, 0, none⟩), .int .i64 f, .int .i64 k] w fun r w' => r = .returned (.bool (isB p f k)) ∧ w = w' := by
 have c1 : w.cell? ⟨vb, 1, none⟩ = some (V 1) := range_cell hv.r rfl
 have HV := hid hv
 obtain ⟨q, b, off, cap, e1, hq, hz⟩ := hv.v.kinds
 have hl : (p.kinds.length : Int) ≤ 1000 := by have := hv.f.kinds; omega
 by_cases hin : 0 ≤ f ∧ f ≤ (p.kinds.length : Int) - 1
 ·obtain ⟨j, rfl⟩ : ∃ j : Nat, f = j := ⟨f.toNat, by omega⟩
  have hj : j < p.kinds.length := by omega
  have hj2 : (j : Int) < (p.kinds.length : Int) := by omega
  have HD := hid (show frB p j = true from decide_eq_true hin)
  obtain rfl := hq (by omega)
  have cj := hz j hj
  have HB := hid (show isB p (j : Int) k = (p.kinds[j] == k) by unfold isB; rw [kindAt_some hj]; rfl)
  generalize p.kinds[j] = z at cj HB
  clear hin hz hv
  go_enter Tryz.func117, Tryz.ntmps117
  go_wp2_with fail
  refine (pisFrame_any vb V p j w HV.out).mono ?_
  rintro e w1 ⟨rfl, rfl⟩
  rw [HD.out]
  go_wp2_with fail
  go_ret
  exact ⟨by rw [HB.out]; rfl, rfl⟩
 ·have HD := hid (show frB p f = false from decide_eq_false hin)
  have HB := hid (show isB p f k = false by unfold isB; rw [kindAt_none hin]; rfl)
  clear hin hz hq hv
  go_enter Tryz.func117, Tryz.ntmps117
  go_wp2_with fail
  refine (pisFrame_any vb V p f w HV.out).mono ?_
  rintro e w1 ⟨rfl, rfl⟩
  rw [HD.out]
  go_wp2_with fail
  go_ret
  exact ⟨by rw [HB.out]; rfl, rfl⟩
theorem is_any (vb : Nat) (V : Nat → Value) (p : PW) (f k : Int) (w : World) (hv : ViewAt w vb V p) :
  Calls Tryz.prog 101 #[.pointer (some ⟨vb, 0, none⟩), .int .i64 f, .int .i64 k] w fun r w' => r = .returned (.bool (isB p f k)) ∧ w = w' := by
 have HV := hid hv
 clear hv
 go_enter Tryz.func101, Tryz.ntmps101
 go_wp2_with fail
 refine (pis_any vb V p f k w HV.out).mono ?_
 rintro e w1 ⟨rfl, rfl⟩
 go_wp2_with fail
 go_ret
 exact ⟨rfl, rfl⟩
def isOrB (p : PW) (f k : Int) : Bool := f == -1 || isB p f k
theorem isOr_any (vb : Nat) (V : Nat → Value) (p : PW) (f k : Int) (w : World) (hv : ViewAt w vb V p) :
  Calls Tryz.prog 139 #[.pointer (some ⟨vb, 0, none⟩), .int .i64 f, .int .i64 k] w fun r w' => r = .returned (.bool (isOrB p f k)) ∧ w = w' := by
 have HV := hid hv
 clear hv
 by_cases hf : f = -1
 ·have h1 : (f == -1) = true := by simpa using hf
  have HB := hid (show isOrB p f k = true by unfold isOrB; rw [h1]; rfl)
  clear hf
  go_enter Tryz.func139, Tryz.ntmps139
  go_wp2_with fail
  go_ret
  exact ⟨by rw [HB.out]; rfl, rfl⟩
 ·have h1 : (f == -1) = false := by simpa using hf
  have HB := hid (show isOrB p f k = isB p f k by unfold isOrB; rw [h1]; rfl)
  clear hf
  go_enter Tryz.func139, Tryz.ntmps139
  go_wp2_with fail
  refine (is_any vb V p f k w HV.out).mono ?_
  rintro e w1 ⟨rfl, rfl⟩
  generalize isB p f k = bb at HB ⊢
  go_wp2_with fail
  go_ret
  exact ⟨by rw [HB.out]; rfl, rfl⟩
def wB (v : Int) : Bool := decide (0 ≤ v ∧ v ≤ 65535)
theorem isWord_any (v : Int) (w : World) :
  Calls Tryz.prog 91 #[.int .i64 v] w fun e w' => e = .returned (.bool (wB v)) ∧ w = w' := by
 go_enter Tryz.func91, Tryz.ntmps91
 go_wp2_with fail
 refine (within_any v 0 65535 w).mono ?_
 rintro e w1 ⟨rfl, rfl⟩
 have HB := hid (show wB v = decide (0 ≤ v ∧ v ≤ 65535) from rfl)
 generalize decide (0 ≤ v ∧ v ≤ 65535) = bb at HB ⊢
 go_wp2_with fail
 go_ret
 exact ⟨by rw [HB.out]; rfl, rfl⟩
def nwB (v : Int) : Bool := !wB v
theorem noWord_any (n v : Int) (w : World) :
  Calls Tryz.prog 45 #[.int .i64 n, .int .i64 v] w fun e w' => e = .returned (.bool (nwB v)) ∧ w = w' := by
 go_enter Tryz.func45, Tryz.ntmps45
 go_wp2_with fail
 refine (isWord_any v w).mono ?_
 rintro e w1 ⟨rfl, rfl⟩
 have HB := hid (show nwB v = !wB v from rfl)
 generalize wB v = bb at HB ⊢
 go_wp2_with fail
 go_ret
 exact ⟨by rw [HB.out]; rfl, rfl⟩
theorem range_at {w : World} {b o k : Nat} {cs : List Value} {v : Value} (h : w.rangeAt b o cs) (hk : cs[k]? = some v) : w.cell? ⟨b, o + k, none⟩ = some v := h k v hk
theorem isB_in {p : PW} {f k : Int} (h : isB p f k = true) : ∃ j : Nat, f = j ∧ j < p.kinds.length := by
 unfold isB kindAt at h
 split at h
 ·refine ⟨f.toNat, by omega, ?_⟩
  by_cases hl : f.toNat < p.kinds.length
  ·exact hl
  ·rw [List.getElem?_eq_none (by omega)] at h
   exact absurd h (by simp)
 ·exact absurd h (by simp)
def nkB (k : Int) : Bool := !decide (0 ≤ k ∧ k ≤ 8) || k == 1
theorem noKind_any (n k : Int) (w : World) :
  Calls Tryz.prog 46 #[.int .i64 n, .int .i64 k] w fun e w' => e = .returned (.bool (nkB k)) ∧ w = w' := by
 by_cases hin : 0 ≤ k ∧ k ≤ 8
 ·have HD := hid (decide_eq_true hin)
  have HB := hid (show nkB k = (k == 1) by unfold nkB; rw [decide_eq_true hin]; rfl)
  clear hin
  go_enter Tryz.func46, Tryz.ntmps46
  go_wp2_with fail
  refine (within_any k 0 8 w).mono ?_
  rintro e w1 ⟨rfl, rfl⟩
  rw [HD.out]
  go_wp2_with fail
  go_ret
  exact ⟨by rw [HB.out]; rfl, rfl⟩
 ·have HD := hid (decide_eq_false hin)
  have HB := hid (show nkB k = true by unfold nkB; rw [decide_eq_false hin]; rfl)
  clear hin
  go_enter Tryz.func46, Tryz.ntmps46
  go_wp2_with fail
  refine (within_any k 0 8 w).mono ?_
  rintro e w1 ⟨rfl, rfl⟩
  rw [HD.out]
  go_wp2_with fail
  go_ret
  exact ⟨by rw [HB.out]; rfl, rfl⟩
/-- May a task run on this core? -/
def rdB (p : PW) (t core : Int) : Bool := isB p t 6 && (match p.tasks[t.toNat]? with | some f => f 9 == 1 && f 18 == core | none => false)
theorem isReady_any (vb : Nat) (V : Nat → Value) (p : PW) (t core : Int) (w : World) (hv : ViewAt w vb V p) (ht : p.tasks.length = p.kinds.length) :
  Calls Tryz.prog 103 #[.pointer (some ⟨vb, 0, none⟩), .int .i64 t, .int .i64 core] w fun r w' => r = .returned (.bool (rdB p t core)) ∧ w = w' := by
 have c3 : w.cell? ⟨vb, 3, none⟩ = some (V 3) := range_cell hv.r rfl
 obtain ⟨q, b, off, cap, e1, hq, hz⟩ := hv.v.tasks
 have hl : (p.tasks.length : Int) ≤ 1000 := by have := hv.f.tasks; omega
 have HV := hid hv
 clear hv
 by_cases hb : isB p t 6 = true
 ·obtain ⟨j, rfl, hj0⟩ := isB_in hb
  have hj : j < p.tasks.length := by omega
  have hj2 : (j : Int) < (p.tasks.length : Int) := by omega
  obtain rfl := hq (by omega)
  have c9 := range_at (hz j hj) (cf_at 20 _ 9 (by omega))
  have c18 := range_at (hz j hj) (cf_at 20 _ 18 (by omega))
  have HB := hid (show rdB p (j : Int) core = (p.tasks[j] 9 == 1 && p.tasks[j] 18 == core) by unfold rdB; rw [hb, Int.toNat_natCast, List.getElem?_eq_getElem hj]; rfl)
  have HI := hid hb
  generalize p.tasks[j] 9 = x9 at c9 HB
  generalize p.tasks[j] 18 = x18 at c18 HB
  clear hz ht hb hj0 hq
  by_cases h9 : x9 = 1
  ·subst h9
   by_cases h18 : x18 = core
   ·subst h18
    go_enter Tryz.func103, Tryz.ntmps103
    go_wp2_with fail
    refine (is_any vb V p j 6 w HV.out).mono ?_
    rintro e w1 ⟨rfl, rfl⟩
    rw [HI.out]
    go_wp2_with fail
    go_ret
    exact ⟨by rw [HB.out]; simp, rfl⟩
   ·have h1 : (x18 == core) = false := by simpa using h18
    have HC := hid h1
    clear h18
    go_enter Tryz.func103, Tryz.ntmps103
    go_wp2_with fail
    refine (is_any vb V p j 6 w HV.out).mono ?_
    rintro e w1 ⟨rfl, rfl⟩
    rw [HI.out]
    go_wp2_with fail
    go_ret
    exact ⟨by rw [HB.out, HC.out]; rfl, rfl⟩
  ·have h1 : (x9 == 1) = false := by simpa using h9
   have HC := hid h1
   clear h9
   go_enter Tryz.func103, Tryz.ntmps103
   go_wp2_with fail
   refine (is_any vb V p j 6 w HV.out).mono ?_
   rintro e w1 ⟨rfl, rfl⟩
   rw [HI.out]
   go_wp2_with fail
   go_ret
   exact ⟨by rw [HB.out, HC.out]; rfl, rfl⟩
 ·have hb2 : isB p t 6 = false := by simpa using hb
  have HB := hid (show rdB p t core = false by unfold rdB; rw [hb2]; rfl)
  have HI := hid hb2
  clear hz ht hb hb2 hq
  go_enter Tryz.func103, Tryz.ntmps103
  go_wp2_with fail
  refine (is_any vb V p t 6 w HV.out).mono ?_
  rintro e w1 ⟨rfl, rfl⟩
  rw [HI.out]
  go_wp2_with fail
  go_ret
  exact ⟨by rw [HB.out]; rfl, rfl⟩
def bcB (p : PW) (core t : Int) : Bool := !(t == -1) && !rdB p t core
theorem badCore_any (vb : Nat) (V : Nat → Value) (p : PW) (core t : Int) (w : World) (hv : ViewAt w vb V p) (ht : p.tasks.length = p.kinds.length) :
  Calls Tryz.prog 55 #[.pointer (some ⟨vb, 0, none⟩), .int .i64 core, .int .i64 t] w fun r w' => r = .returned (.bool (bcB p core t)) ∧ w = w' := by
 have HV := hid hv
 have HT := hid ht
 clear hv ht
 by_cases hf : t = -1
 ·subst hf
  have HB := hid (show bcB p core (-1) = false from rfl)
  go_enter Tryz.func55, Tryz.ntmps55
  go_wp2_with fail
  go_ret
  exact ⟨by rw [HB.out]; rfl, rfl⟩
 ·have HB := hid (show bcB p core t = !rdB p t core by unfold bcB; rw [show (t == -1) = false by simpa using hf]; rfl)
  have h2 : (t != -1) = true := by simpa using hf
  go_enter Tryz.func55, Tryz.ntmps55
  go_wp2_with fail
  refine (isReady_any vb V p t core w HV.out HT.out).mono ?_
  rintro e w1 ⟨rfl, rfl⟩
  generalize rdB p t core = bb at HB ⊢
  go_wp2_with fail
  go_ret
  exact ⟨by rw [HB.out]; rfl, rfl⟩
theorem infoW : (Tryz.prog.info? 28).map (·.size) = some 11 := by kernel_rfl
theorem wp_ldW {ops : Array Oper} {rest : List Oper} {op : Oper} {a : Act} {w : World} {Q : Exit → Act → World → Prop} (hgd : op.guard = none) (x : Operand) (ho : op.op = .load 28 x)
  (b : Nat) (hx : a.eval x = .pointer (some ⟨b, 0, none⟩)) (V : Nat → Value) (hc : w.rangeAt b 0 (arr11 V).toList)
  (h : wpList Tryz.prog ops Q rest (a.put op.dst (.agg (arr11 V))) w) : wpList Tryz.prog ops Q (op :: rest) a w :=
 wpList_load_mid hgd 28 x ho b 0 hx (arr11 V).toList _ hc Tryz.underlying28 rfl infoW h
theorem boxed (w : World) (V : Nat → Value) (t : TypeId) : (w.alloc (.cells (arr11 V) t)).rangeAt w.heap.size 0 (arr11 V).toList := fun k v hk => by
 rw [Nat.zero_add, cells_new w (arr11 V) t k]
 simpa using hk
/-- May a task run on this core, next in the list of this priority (below 0: of any)? -/
def rpB (p : PW) (t core prio : Int) : Bool := rdB p t core && (decide (prio < 0) || (match p.tasks[t.toNat]? with | some f => f 10 == prio | none => false))
/-- Is someone in the n-th list of those who are next that is not theirs? -/
def brB (p : PW) (n : Nat) (zs : List Int) : Bool := zs.any fun t => !rpB p t ((n : Int) / 4) ((n : Int) % 4)
theorem any_no {α : Type} {P : α → Bool} {zs : List α} (h : ∀ j (hj : j < zs.length), P zs[j] = false) : zs.any P = false := by
 rw [List.any_eq_false]
 intro x hx
 obtain ⟨j, hj, rfl⟩ := List.mem_iff_getElem.1 hx
 simp [h j hj]
theorem any_yes {α : Type} {P : α → Bool} {zs : List α} (j : Nat) (hj : j < zs.length) (h : P zs[j] = true) : zs.any P = true := List.any_eq_true.2 ⟨_, List.getElem_mem hj, h⟩
theorem rdB_in {p : PW} {t core : Int} (h : rdB p t core = true) : ∃ j : Nat, t = j ∧ j < p.kinds.length := by
 unfold rdB at h
 rw [Bool.and_eq_true] at h
 exact isB_in h.1
set_option maxRecDepth 100000 in
theorem badReady_any (vb : Nat) (V : Nat → Value) (p : PW) (n : Nat) (x : Value) (zs : List Int) (w : World) (hv : ViewAt w vb V p) (ht : p.tasks.length = p.kinds.length) (hx : IntsIn w x zs) (hl : zs.length ≤ 1000) (hn : (n : Int) ≤ 1000) :
  Calls Tryz.prog 56 #[.pointer (some ⟨vb, 0, none⟩), .int .i64 n, x] w fun r w' => r = .returned (.bool (brB p n zs)) ∧ w = w' := by
 have c3 : w.cell? ⟨vb, 3, none⟩ = some (V 3) := range_cell hv.r rfl
 obtain ⟨q, b, off, cap, rfl, hq, hz⟩ := hx
 obtain ⟨q2, b2, off2, cap2, e1, hq2, hz2⟩ := hv.v.tasks
 have hl1 : (p.tasks.length : Int) ≤ 1000 := by have := hv.f.tasks; omega
 have hl2 : (zs.length : Int) ≤ 1000 := by omega
 have HV := hid hv
 have HT := hid ht
 have HQ := hid hq
 have HZ := hid hz
 have HQ2 := hid hq2
 have HZ2 := hid hz2
 clear hv ht hq hz hq2 hz2
 go_enter Tryz.func56, Tryz.ntmps56
 go_wp2_with fail
 go_loopw [17] (fun i wr => ∃ k : Nat, k ≤ zs.length ∧ i = .int .i64 k ∧ Hid (∀ j (hj : j < zs.length), j < k → (!rpB p zs[j] ((n : Int) / 4) ((n : Int) % 4)) = false) ∧ Hid (w = wr)) (fun i _ => zs.length - (intOf i).toNat)
 case atStart => exact ⟨0, by omega, rfl, hid fun j _ h => by omega, hid rfl⟩
 case round =>
  obtain ⟨k, hk, rfl, HE, HW⟩ := hrel
  obtain rfl := HW.out
  by_cases hlt : k < zs.length
  ·have hlt2 : (k : Int) < (zs.length : Int) := by omega
   have hqe := HQ.out (by omega)
   subst hqe
   have c0 := HZ.out k hlt
   have HY := hid (show (!rpB p zs[k] ((n : Int) / 4) ((n : Int) % 4)) = true → brB p n zs = true from fun h => any_yes k hlt h)
   have HS := hid (show (!rpB p zs[k] ((n : Int) / 4) ((n : Int) % 4)) = false → ∀ j (hj : j < zs.length), j < k + 1 → (!rpB p zs[j] ((n : Int) / 4) ((n : Int) % 4)) = false from fun hf j hj hjk => by
    by_cases e : j = k
    ·subst e; exact hf
    ·exact HE.out j hj (by omega))
   generalize zs[k] = z at c0 HY HS
   go_wp2_with fail
   refine (isReady_any vb V p z _ w HV.out HT.out).mono ?_
   rintro r w1 ⟨rfl, rfl⟩
   cases hr : rdB p z ((n : Int) / 4) with
   | true =>
    obtain ⟨j, rfl, hj0⟩ := rdB_in hr
    have hj : j < p.tasks.length := by rw [HT.out]; exact hj0
    have hj2 : (j : Int) < (p.tasks.length : Int) := by omega
    have hqe2 := HQ2.out (by omega)
    subst hqe2
    have c10 := range_at (HZ2.out j hj) (cf_at 20 _ 10 (by omega))
    have HR := hid (show rpB p (j : Int) ((n : Int) / 4) ((n : Int) % 4) = (p.tasks[j] 10 == ((n : Int) % 4)) by
     unfold rpB
     rw [hr, Int.toNat_natCast, List.getElem?_eq_getElem hj, decide_eq_false (by omega)]
     rfl)
    generalize p.tasks[j] 10 = y at c10 HR
    clear hr hj0
    by_cases hy : y = ((n : Int) % 4)
    ·have HN := hid (HS.out (by rw [HR.out, hy]; simp))
     subst hy
     go_wp2_with fail
     exact ⟨⟨k + 1, by omega, by go_num, HN, hid (by simp)⟩, by simp [intOf]; omega⟩
    ·have HN := hid (HY.out (by rw [HR.out]; simpa using hy))
     go_wp2_with fail
     go_ret
     exact ⟨by rw [HN.out]; rfl, rfl⟩
   | false =>
    have HN := hid (HY.out (by unfold rpB; rw [hr]; rfl))
    clear hr
    go_wp2_with fail
    go_ret
    exact ⟨by rw [HN.out]; rfl, rfl⟩
  ·obtain rfl : k = zs.length := by omega
   have hge : ¬ ((zs.length : Int) < (zs.length : Int)) := by omega
   have HF := hid (show brB p n zs = false from any_no fun k h => HE.out k h h)
   go_wp2_with fail
   go_ret
   exact ⟨by rw [HF.out]; rfl, rfl⟩
/-- Is a word of a frame of this kind none of its words? -/
def beB (p : PW) (k e : Int) : Bool := if k = 4 then !(e == 0) && !isB p (e - 32768) 3 else if k = 3 then !(e == 0) && !isB p (e - 32768) 2 && !isB p (e - 32768 - 16384) 2 else false
set_option maxRecDepth 100000 in
theorem badEntry_any (vb : Nat) (V : Nat → Value) (p : PW) (n m : Nat) (e : Int) (w : World) (hv : ViewAt w vb V p) (hn : (n : Int) ≤ 100000) (hm : (n : Int) / 16 = (m : Int)) (hk : m < p.kinds.length) (he : 0 ≤ e ∧ e ≤ 65535) :
  Calls Tryz.prog 57 #[.pointer (some ⟨vb, 0, none⟩), .int .i64 n, .int .i64 e] w fun r w' => r = .returned (.bool (beB p p.kinds[m] e)) ∧ w = w' := by
 have c1 : w.cell? ⟨vb, 1, none⟩ = some (V 1) := range_cell hv.r rfl
 obtain ⟨q, b, off, cap, e1, hq, hz⟩ := hv.v.kinds
 have hl : (p.kinds.length : Int) ≤ 1000 := by have := hv.f.kinds; omega
 have hk2 : (m : Int) < (p.kinds.length : Int) := by omega
 obtain rfl := hq (by omega)
 have cm := hz m hk
 have HV := hid hv
 have h1 : 0 ≤ e := he.1
 have h2 : e ≤ 65535 := he.2
 generalize p.kinds[m] = z at cm ⊢
 clear hz hv hq hk he
 by_cases h4 : z = 4
 ·subst h4
  by_cases h0 : e = 0
  ·subst h0
   have HB := hid (show beB p 4 0 = false from rfl)
   go_enter Tryz.func57, Tryz.ntmps57
   go_wp2_with fail
   go_ret
   exact ⟨by rw [HB.out]; rfl, rfl⟩
  ·have HB := hid (show beB p 4 e = !isB p (e - 32768) 3 by unfold beB; rw [if_pos rfl, show (e == 0) = false by simpa using h0]; rfl)
   have h00 : (e != 0) = true := by simpa using h0
   go_enter Tryz.func57, Tryz.ntmps57
   go_wp2_with fail
   refine (is_any vb V p (e - 32768) 3 w HV.out).mono ?_
   rintro r w1 ⟨rfl, rfl⟩
   generalize isB p (e - 32768) 3 = bb at HB ⊢
   go_wp2_with fail
   go_ret
   exact ⟨by rw [HB.out]; rfl, rfl⟩
 ·by_cases h3 : z = 3
  ·subst h3
   clear h4
   by_cases h0 : e = 0
   ·subst h0
    have HB := hid (show beB p 3 0 = false from rfl)
    go_enter Tryz.func57, Tryz.ntmps57
    go_wp2_with fail
    go_ret
    exact ⟨by rw [HB.out]; rfl, rfl⟩
   ·have h00 : (e != 0) = true := by simpa using h0
    by_cases hi : isB p (e - 32768) 2 = true
    ·have HB := hid (show beB p 3 e = false by unfold beB; rw [if_neg (by omega), if_pos rfl, hi]; simp)
     have HI := hid hi
     clear hi
     go_enter Tryz.func57, Tryz.ntmps57
     go_wp2_with fail
     refine (is_any vb V p (e - 32768) 2 w HV.out).mono ?_
     rintro r w1 ⟨rfl, rfl⟩
     rw [HI.out]
     go_wp2_with fail
     go_ret
     exact ⟨by rw [HB.out]; rfl, rfl⟩
    ·have HI := hid (show isB p (e - 32768) 2 = false by simpa using hi)
     have HB := hid (show beB p 3 e = !isB p (e - 32768 - 16384) 2 by unfold beB; rw [if_neg (by omega), if_pos rfl, HI.out, show (e == 0) = false by simpa using h0]; rfl)
     clear hi
     go_enter Tryz.func57, Tryz.ntmps57
     go_wp2_with fail
     refine (is_any vb V p (e - 32768) 2 w HV.out).mono ?_
     rintro r w1 ⟨rfl, rfl⟩
     rw [HI.out]
     go_wp2_with fail
     refine (is_any vb V p (e - 32768 - 16384) 2 w HV.out).mono ?_
     rintro r w1 ⟨rfl, rfl⟩
     generalize isB p (e - 32768 - 16384) 2 = bb at HB ⊢
     go_wp2_with fail
     go_ret
     exact ⟨by rw [HB.out]; rfl, rfl⟩
  ·have HB := hid (show beB p z e = false by unfold beB; rw [if_neg h4, if_neg h3])
   go_enter Tryz.func57, Tryz.ntmps57
   go_wp2_with fail
   go_ret
   exact ⟨by rw [HB.out]; rfl, rfl⟩
theorem wp_ldWg {ops : Array Oper} {rest : List Oper} {op : Oper} {a : Act} {w : World} {Q : Exit → Act → World → Prop} (hw : Region.wanted op (yielded ops a.tmps) = true) (x : Operand) (ho : op.op = .load 28 x)
  (b : Nat) (hx : a.eval x = .pointer (some ⟨b, 0, none⟩)) (V : Nat → Value) (hc : w.rangeAt b 0 (arr11 V).toList)
  (h : wpList Tryz.prog ops Q rest (a.put op.dst (.agg (arr11 V))) w) : wpList Tryz.prog ops Q (op :: rest) a w :=
 BigFrame.wpList_want hw fun _ hK => wp_load_mid 28 x ho b 0 hx (arr11 V).toList _ hc Tryz.underlying28 rfl infoW (hK _ _ h)
end Go.Proofs.YtkocmkaeaagbaaaGreatDoor.Wd
