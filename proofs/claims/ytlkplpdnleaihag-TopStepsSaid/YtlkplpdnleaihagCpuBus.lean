/- The two buses of keyholdtop (none, just), walked; cpu.load, cpu.store over them. -/
import Derived.Test.YtlkplpdnleaihagCpuDo0
import Derived.Deep.RegionWith
import Derived.Deep.QuietTactic
import Derived.BigQuiet
namespace Go.Proofs.Ytlkplpdnleaihag.Cpu
open Go.RowKit Go.Proofs.Ytlkplpdnleaihag.Mem Go.Proofs.Ytlkplpdnleaihag.Bw Go.Proofs.Ytlkplpdnleaihag.Nums

theorem noneLoad (at_ : Int) (w : World) : Calls Try.prog 56 #[.agg #[], .int .i64 at_] w fun e w' => e = .returned (.tuple #[.int .i64 0, .bool false]) ∧ Below w.heap.size w w' := by
  go_enter Try.func56, Try.ntmps56
  go_wp2_with fail
  go_ret2
  exact ⟨rfl, bal (Below.refl _ _) _⟩
theorem noneStore (at_ v : Int) (w : World) : Calls Try.prog 57 #[.agg #[], .int .i64 at_, .int .i64 v] w fun e w' => e = .returned (.bool false) ∧ Below w.heap.size w w' := by
  go_enter Try.func57, Try.ntmps57
  go_wp2_with fail
  go_ret
  exact ⟨rfl, bal (Below.refl _ _) _⟩
/-- What just tells. -/
def jLd (a c d : Int) (at_ : Int) : Int := if at_ = a then c else d
def jOk (a : Int) (at_ : Int) : Bool := if at_ = a then true else at_ == (a + 1) % 65536
theorem justLoad (a c d at_ : Int) (w : World) (a0 : 0 ≤ a) (a1 : a < 65536) : Calls Try.prog 58 #[.agg #[.int .i64 a, .int .i64 c, .int .i64 d], .int .i64 at_] w fun e w' => e = .returned (.tuple #[.int .i64 (jLd a c d at_), .bool (jOk a at_)]) ∧ Below w.heap.size w w' := by
  by_cases h : at_ = a
  · have e1 : jLd a c d at_ = c := by unfold jLd; rw [if_pos h]
    have e2 : jOk a at_ = true := by unfold jOk; rw [if_pos h]
    rw [e1, e2]
    clear e1 e2
    have h2 : (at_ == a) = true := beq_iff_eq.2 h
    clear h
    go_enter Try.func58, Try.ntmps58
    go_wp2_with fail
    go_ret2
    exact ⟨rfl, bal (Below.refl _ _) _⟩
  · have e1 : jLd a c d at_ = d := by unfold jLd; rw [if_neg h]
    have e2 : jOk a at_ = (at_ == (a + 1) % 65536) := by unfold jOk; rw [if_neg h]
    rw [e1, e2]
    clear e1 e2
    have h2 : (at_ == a) = false := beq_eq_false_iff_ne.2 h
    clear h
    go_enter Try.func58, Try.ntmps58
    go_wp2_with fail
    go_quiet (fail)
    go_wp2_with fail
    go_ret2
    exact ⟨rfl, below_drewN (bal (Below.refl _ _) _) nq⟩
theorem justStore (a c d at_ v : Int) (w : World) : Calls Try.prog 59 #[.agg #[.int .i64 a, .int .i64 c, .int .i64 d], .int .i64 at_, .int .i64 v] w fun e w' => e = .returned (.bool false) ∧ Below w.heap.size w w' := by
  go_enter Try.func59, Try.ntmps59
  go_wp2_with fail
  go_ret
  exact ⟨rfl, bal (Below.refl _ _) _⟩
set_option maxHeartbeats 1000000 in
theorem load_none (at_ z : Int) (ok : Bool) (w : World) (z0 : 0 ≤ z) (z1 : z < 65536) (hzz : Hid ((0 : Int) = z)) (hok : Hid (false = ok)) : Calls Try.prog 16 #[.iface 43 (.agg #[]), .int .i64 at_] w fun e w' => e = .returned (.tuple #[.int .i64 z, .bool ok]) ∧ Below w.heap.size w w' := by
  have hmf : ∀ (fn : Fn) (first cap : Array Value) (w : World), (Instr.makeFunc fn first cap).run Try.prog w = .ok (.func fn first cap) w := fun _ _ _ _ => rfl
  have hz : z % 65536 = z := by omega
  have B0 := hid (bal (bal (Below.refl w.heap.size w) (.cells #[.int .i64 0] 3)) (.cells #[.bool false] 4))
  have c0 : ((w.alloc (.cells #[.int .i64 0] 3)).alloc (.cells #[.bool false] 4)).cell? ⟨w.heap.size, 0, none⟩ = some (.int .i64 0) := cells_alloc (cells_new w #[.int .i64 0] 3) (by simp) (.cells #[.bool false] 4) 0
  have c1 : ((w.alloc (.cells #[.int .i64 0] 3)).alloc (.cells #[.bool false] 4)).cell? ⟨w.heap.size + 1, 0, none⟩ = some (.bool false) := cells_at (w.alloc (.cells #[.int .i64 0] 3)) #[.bool false] 4 (w.heap.size + 1) (by simp) 0
  have f0 := (World.there_alloc (there_new w #[.int .i64 0] 3 w.heap.size 1 rfl (by decide)) (.cells #[.bool false] 4) 0 (by decide)).2
  have f1 := (there_new (w.alloc (.cells #[.int .i64 0] 3)) #[.bool false] 4 (w.heap.size + 1) 1 (by simp) (by decide) 0 (by decide)).2
  have s0 : ((w.alloc (.cells #[.int .i64 0] 3)).alloc (.cells #[.bool false] 4)).heap.size = w.heap.size + 1 + 1 := by simp
  go_enter_defers Try.func16, Try.ntmps16
  go_wp2_with fail
  generalize World.alloc _ _ = W at B0 c0 c1 f0 f1 s0 ⊢
  refine (noneLoad _ _).mono ?_
  rintro e w1 ⟨rfl, hb⟩
  rw [hzz.out, hok.out]
  have B1 := hid (btr B0.out hb)
  have d0 := (hb.cell (p := ⟨w.heap.size, 0, none⟩) (by simp; omega)).trans c0
  have d1 := (hb.cell (p := ⟨w.heap.size + 1, 0, none⟩) (by simp; omega)).trans c1
  have g0 := (hb.frozen (p := ⟨w.heap.size, 0, none⟩) (by simp; omega)).trans f0
  have g1 := (hb.frozen (p := ⟨w.heap.size + 1, 0, none⟩) (by simp; omega)).trans f1
  clear hb c0 c1 f0 f1 B0 s0 W
  go_wp2_with fail
  have B2 := hid (bset (bset B1.out (Nat.le_refl _) (.int .i64 z) (o := 0)) (Nat.le_succ _) (.bool ok) (o := 0))
  have e0 : ((w1.setCell ⟨w.heap.size, 0, none⟩ (.int .i64 z)).setCell ⟨w.heap.size + 1, 0, none⟩ (.bool ok)).cell? ⟨w.heap.size, 0, none⟩ = some (.int .i64 z) := by
    rw [World.cell?_setCell_other _ _ _ _ (by intro e; have := congrArg Addr.block e; simp at this), World.cell?_setCell_same _ _ _ d0]
  have e1 : ((w1.setCell ⟨w.heap.size, 0, none⟩ (.int .i64 z)).setCell ⟨w.heap.size + 1, 0, none⟩ (.bool ok)).cell? ⟨w.heap.size + 1, 0, none⟩ = some (.bool ok) := World.cell?_setCell_same _ _ _ ((World.cell?_setCell_other _ _ _ _ (by intro e; have := congrArg Addr.block e; simp at this)).trans d1)
  have h0 : ((w1.setCell ⟨w.heap.size, 0, none⟩ (.int .i64 z)).setCell ⟨w.heap.size + 1, 0, none⟩ (.bool ok)).frozen? ⟨w.heap.size, 0, none⟩ = false := by rw [World.frozen?_setCell, World.frozen?_setCell]; exact g0
  have h1 : ((w1.setCell ⟨w.heap.size, 0, none⟩ (.int .i64 z)).setCell ⟨w.heap.size + 1, 0, none⟩ (.bool ok)).frozen? ⟨w.heap.size + 1, 0, none⟩ = false := by rw [World.frozen?_setCell, World.frozen?_setCell]; exact g1
  clear d0 d1 g0 g1 B1
  generalize World.setCell _ _ _ = W2 at B2 e0 e1 h0 h1 ⊢
  go_region_with (first | (go_at_call 15; refine (wrap_any _ _).mono ?_; rintro e w2 ⟨rfl, rfl⟩))
  all_goals
    go_wp2_with fail
    refine leaves_cons (f := 33) (args := #[.pointer (some ⟨w.heap.size, 0, none⟩), .pointer (some ⟨w.heap.size + 1, 0, none⟩)]) (by simp) (by simp [go_sem]) ?_
    refine (load_idle _ _ _).mono ?_
    rintro e u' w'' ⟨rfl, rfl, rfl⟩
    have i0 := World.cell?_setCell_same W2 _ (.int .i64 z) e0
    have i1 := World.cell?_setCell_same (W2.setCell ⟨w.heap.size, 0, none⟩ (.int .i64 z)) ⟨w.heap.size + 1, 0, none⟩ (.bool ok) ((World.cell?_setCell_other W2 _ _ _ (by intro e; have := congrArg Addr.block e; simp at this)).trans e1)
    have i2 : ((W2.setCell ⟨w.heap.size, 0, none⟩ (.int .i64 z)).setCell ⟨w.heap.size + 1, 0, none⟩ (.bool ok)).cell? ⟨w.heap.size, 0, none⟩ = some (.int .i64 z) := (World.cell?_setCell_other _ _ _ _ (by intro e; have := congrArg Addr.block e; simp at this)).trans i0
    simp [Leaves, settle, results, Try.results16, go_sem, i1, i2]
    exact below_drewN (bset (bset B2.out (Nat.le_refl _) _) (Nat.le_succ _) _) 1
set_option maxHeartbeats 1000000 in
theorem load_just (a c d : Int) (at_ z : Int) (ok : Bool) (w : World) (z0 : 0 ≤ z) (z1 : z < 65536) (a0 : 0 ≤ a) (a1 : a < 65536) (hzz : Hid (jLd a c d at_ = z)) (hok : Hid (jOk a at_ = ok)) : Calls Try.prog 16 #[.iface 51 (.agg #[.int .i64 a, .int .i64 c, .int .i64 d]), .int .i64 at_] w fun e w' => e = .returned (.tuple #[.int .i64 z, .bool ok]) ∧ Below w.heap.size w w' := by
  have hmf : ∀ (fn : Fn) (first cap : Array Value) (w : World), (Instr.makeFunc fn first cap).run Try.prog w = .ok (.func fn first cap) w := fun _ _ _ _ => rfl
  have hz : z % 65536 = z := by omega
  have B0 := hid (bal (bal (Below.refl w.heap.size w) (.cells #[.int .i64 0] 3)) (.cells #[.bool false] 4))
  have c0 : ((w.alloc (.cells #[.int .i64 0] 3)).alloc (.cells #[.bool false] 4)).cell? ⟨w.heap.size, 0, none⟩ = some (.int .i64 0) := cells_alloc (cells_new w #[.int .i64 0] 3) (by simp) (.cells #[.bool false] 4) 0
  have c1 : ((w.alloc (.cells #[.int .i64 0] 3)).alloc (.cells #[.bool false] 4)).cell? ⟨w.heap.size + 1, 0, none⟩ = some (.bool false) := cells_at (w.alloc (.cells #[.int .i64 0] 3)) #[.bool false] 4 (w.heap.size + 1) (by simp) 0
  have f0 := (World.there_alloc (there_new w #[.int .i64 0] 3 w.heap.size 1 rfl (by decide)) (.cells #[.bool false] 4) 0 (by decide)).2
  have f1 := (there_new (w.alloc (.cells #[.int .i64 0] 3)) #[.bool false] 4 (w.heap.size + 1) 1 (by simp) (by decide) 0 (by decide)).2
  have s0 : ((w.alloc (.cells #[.int .i64 0] 3)).alloc (.cells #[.bool false] 4)).heap.size = w.heap.size + 1 + 1 := by simp
  go_enter_defers Try.func16, Try.ntmps16
  go_wp2_with fail
  generalize World.alloc _ _ = W at B0 c0 c1 f0 f1 s0 ⊢
  refine (justLoad _ _ _ _ _ a0 a1).mono ?_
  rintro e w1 ⟨rfl, hb⟩
  rw [hzz.out, hok.out]
  have B1 := hid (btr B0.out hb)
  have d0 := (hb.cell (p := ⟨w.heap.size, 0, none⟩) (by simp; omega)).trans c0
  have d1 := (hb.cell (p := ⟨w.heap.size + 1, 0, none⟩) (by simp; omega)).trans c1
  have g0 := (hb.frozen (p := ⟨w.heap.size, 0, none⟩) (by simp; omega)).trans f0
  have g1 := (hb.frozen (p := ⟨w.heap.size + 1, 0, none⟩) (by simp; omega)).trans f1
  clear hb c0 c1 f0 f1 B0 s0 W
  go_wp2_with fail
  have B2 := hid (bset (bset B1.out (Nat.le_refl _) (.int .i64 z) (o := 0)) (Nat.le_succ _) (.bool ok) (o := 0))
  have e0 : ((w1.setCell ⟨w.heap.size, 0, none⟩ (.int .i64 z)).setCell ⟨w.heap.size + 1, 0, none⟩ (.bool ok)).cell? ⟨w.heap.size, 0, none⟩ = some (.int .i64 z) := by
    rw [World.cell?_setCell_other _ _ _ _ (by intro e; have := congrArg Addr.block e; simp at this), World.cell?_setCell_same _ _ _ d0]
  have e1 : ((w1.setCell ⟨w.heap.size, 0, none⟩ (.int .i64 z)).setCell ⟨w.heap.size + 1, 0, none⟩ (.bool ok)).cell? ⟨w.heap.size + 1, 0, none⟩ = some (.bool ok) := World.cell?_setCell_same _ _ _ ((World.cell?_setCell_other _ _ _ _ (by intro e; have := congrArg Addr.block e; simp at this)).trans d1)
  have h0 : ((w1.setCell ⟨w.heap.size, 0, none⟩ (.int .i64 z)).setCell ⟨w.heap.size + 1, 0, none⟩ (.bool ok)).frozen? ⟨w.heap.size, 0, none⟩ = false := by rw [World.frozen?_setCell, World.frozen?_setCell]; exact g0
  have h1 : ((w1.setCell ⟨w.heap.size, 0, none⟩ (.int .i64 z)).setCell ⟨w.heap.size + 1, 0, none⟩ (.bool ok)).frozen? ⟨w.heap.size + 1, 0, none⟩ = false := by rw [World.frozen?_setCell, World.frozen?_setCell]; exact g1
  clear d0 d1 g0 g1 B1
  generalize World.setCell _ _ _ = W2 at B2 e0 e1 h0 h1 ⊢
  go_region_with (first | (go_at_call 15; refine (wrap_any _ _).mono ?_; rintro e w2 ⟨rfl, rfl⟩))
  all_goals
    go_wp2_with fail
    refine leaves_cons (f := 33) (args := #[.pointer (some ⟨w.heap.size, 0, none⟩), .pointer (some ⟨w.heap.size + 1, 0, none⟩)]) (by simp) (by simp [go_sem]) ?_
    refine (load_idle _ _ _).mono ?_
    rintro e u' w'' ⟨rfl, rfl, rfl⟩
    have i0 := World.cell?_setCell_same W2 _ (.int .i64 z) e0
    have i1 := World.cell?_setCell_same (W2.setCell ⟨w.heap.size, 0, none⟩ (.int .i64 z)) ⟨w.heap.size + 1, 0, none⟩ (.bool ok) ((World.cell?_setCell_other W2 _ _ _ (by intro e; have := congrArg Addr.block e; simp at this)).trans e1)
    have i2 : ((W2.setCell ⟨w.heap.size, 0, none⟩ (.int .i64 z)).setCell ⟨w.heap.size + 1, 0, none⟩ (.bool ok)).cell? ⟨w.heap.size, 0, none⟩ = some (.int .i64 z) := (World.cell?_setCell_other _ _ _ _ (by intro e; have := congrArg Addr.block e; simp at this)).trans i0
    simp [Leaves, settle, results, Try.results16, go_sem, i1, i2]
    exact below_drewN (bset (bset B2.out (Nat.le_refl _) _) (Nat.le_succ _) _) 1
set_option maxHeartbeats 1000000 in
theorem store_none (at_ v : Int) (w : World) : Calls Try.prog 35 #[.iface 43 (.agg #[]), .int .i64 at_, .int .i64 v] w fun e w' => e = .returned (.bool false) ∧ Below w.heap.size w w' := by
  have hmf : ∀ (fn : Fn) (first cap : Array Value) (w : World), (Instr.makeFunc fn first cap).run Try.prog w = .ok (.func fn first cap) w := fun _ _ _ _ => rfl
  have B0 := hid (bal (Below.refl w.heap.size w) (.cells #[.bool false] 4))
  have c1 : (w.alloc (.cells #[.bool false] 4)).cell? ⟨w.heap.size, 0, none⟩ = some (.bool false) := cells_new w #[.bool false] 4 0
  have f1 := (there_new w #[.bool false] 4 w.heap.size 1 rfl (by decide) 0 (by decide)).2
  have s0 : (w.alloc (.cells #[.bool false] 4)).heap.size = w.heap.size + 1 := by simp
  go_enter_defers Try.func35, Try.ntmps35
  go_wp2_with fail
  generalize World.alloc _ _ = W at B0 c1 f1 s0 ⊢
  refine (noneStore _ _ _).mono ?_
  rintro e w1 ⟨rfl, hb⟩
  have B1 := hid (btr B0.out hb)
  have d1 := (hb.cell (p := ⟨w.heap.size, 0, none⟩) (by simp; omega)).trans c1
  have g1 := (hb.frozen (p := ⟨w.heap.size, 0, none⟩) (by simp; omega)).trans f1
  clear hb c1 f1 B0 s0 W
  go_wp2_with fail
  refine leaves_cons (f := 38) (args := #[.pointer (some ⟨w.heap.size, 0, none⟩)]) (by simp) (by simp [go_sem]) ?_
  refine (store_idle _ _).mono ?_
  rintro e u' w'' ⟨rfl, rfl, rfl⟩
  have i1 := World.cell?_setCell_same w1 ⟨w.heap.size, 0, none⟩ (.bool false) d1
  simp [Leaves, settle, results, Try.results35, go_sem, i1]
  exact bset B1.out (Nat.le_refl _) _
set_option maxHeartbeats 1000000 in
theorem store_just (a c d : Int) (at_ v : Int) (w : World) : Calls Try.prog 35 #[.iface 51 (.agg #[.int .i64 a, .int .i64 c, .int .i64 d]), .int .i64 at_, .int .i64 v] w fun e w' => e = .returned (.bool false) ∧ Below w.heap.size w w' := by
  have hmf : ∀ (fn : Fn) (first cap : Array Value) (w : World), (Instr.makeFunc fn first cap).run Try.prog w = .ok (.func fn first cap) w := fun _ _ _ _ => rfl
  have B0 := hid (bal (Below.refl w.heap.size w) (.cells #[.bool false] 4))
  have c1 : (w.alloc (.cells #[.bool false] 4)).cell? ⟨w.heap.size, 0, none⟩ = some (.bool false) := cells_new w #[.bool false] 4 0
  have f1 := (there_new w #[.bool false] 4 w.heap.size 1 rfl (by decide) 0 (by decide)).2
  have s0 : (w.alloc (.cells #[.bool false] 4)).heap.size = w.heap.size + 1 := by simp
  go_enter_defers Try.func35, Try.ntmps35
  go_wp2_with fail
  generalize World.alloc _ _ = W at B0 c1 f1 s0 ⊢
  refine (justStore _ _ _ _ _ _).mono ?_
  rintro e w1 ⟨rfl, hb⟩
  have B1 := hid (btr B0.out hb)
  have d1 := (hb.cell (p := ⟨w.heap.size, 0, none⟩) (by simp; omega)).trans c1
  have g1 := (hb.frozen (p := ⟨w.heap.size, 0, none⟩) (by simp; omega)).trans f1
  clear hb c1 f1 B0 s0 W
  go_wp2_with fail
  refine leaves_cons (f := 38) (args := #[.pointer (some ⟨w.heap.size, 0, none⟩)]) (by simp) (by simp [go_sem]) ?_
  refine (store_idle _ _).mono ?_
  rintro e u' w'' ⟨rfl, rfl, rfl⟩
  have i1 := World.cell?_setCell_same w1 ⟨w.heap.size, 0, none⟩ (.bool false) d1
  simp [Leaves, settle, results, Try.results35, go_sem, i1]
  exact bset B1.out (Nat.le_refl _) _
/-- A bus without words. -/
def noneBus : BusOf (.iface 43 (.agg #[])) Unit where
  Inv := fun _ _ => True
  T := fun _ => False
  F := fun _ => False
  ld := fun _ _ => 0
  ok := fun _ _ => false
  st := fun m _ _ => m
  oks := fun _ _ => false
  word := fun _ _ => ⟨by decide, by decide⟩
  flt := fun _ h => h.elim
  tf := fun _ h => h
  stab := fun _ _ _ => trivial
  load := fun at_ _ _ _ => load_none at_ 0 false _ (by decide) (by decide) rfl rfl
  store := fun at_ v _ _ _ _ _ => (store_none at_ v _).mono fun _ _ h => ⟨h.1, .of_below h.2, trivial⟩
/-- Two words from an address on. -/
def justBus (a c d : Int) (h : (0 ≤ a ∧ a < 65536) ∧ (0 ≤ c ∧ c < 65536) ∧ 0 ≤ d ∧ d < 65536) : BusOf (.iface 51 (.agg #[.int .i64 a, .int .i64 c, .int .i64 d])) Unit where
  Inv := fun _ _ => True
  T := fun _ => False
  F := fun _ => False
  ld := fun _ at_ => jLd a c d at_
  ok := fun _ at_ => jOk a at_
  st := fun m _ _ => m
  oks := fun _ _ => false
  word := fun at_ _ => by unfold jLd; split; exact h.2.1; exact h.2.2
  flt := fun _ h => h.elim
  tf := fun _ h => h
  stab := fun _ _ _ => trivial
  load := fun at_ _ _ _ => load_just a c d at_ _ _ _ (by unfold jLd; split; exact h.2.1.1; exact h.2.2.1) (by unfold jLd; split; exact h.2.1.2; exact h.2.2.2) h.1.1 h.1.2 rfl rfl
  store := fun at_ v _ _ _ _ _ => (store_just a c d at_ v _).mono fun _ _ h => ⟨h.1, .of_below h.2, trivial⟩
end Go.Proofs.Ytlkplpdnleaihag.Cpu
