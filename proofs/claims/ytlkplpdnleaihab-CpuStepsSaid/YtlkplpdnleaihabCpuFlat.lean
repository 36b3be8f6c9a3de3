/- A memory without tables (keyholdlaw.flat): its two methods, and cpu.load, cpu.store over it, walked. -/
import Derived.Test.YtlkplpdnleaihabCpuWalk
import Derived.Test.YtlkplpdnleaihabInts
import Derived.Test.YtlkplpdnleaihabKept
import Derived.Deep.RegionWith
import Derived.Deep.QuietTactic
import Derived.BigQuiet
namespace Go.Proofs.Ytlkplpdnleaihab.Cpu
open Go.RowKit Go.Proofs.Ytlkplpdnleaihab.Mem Go.Proofs.Ytlkplpdnleaihab.Bw Go.Proofs.Ytlkplpdnleaihab.Nums

/-- A memory without tables. -/
structure FlatAt (w : World) (p : Nat) (q : Option Addr) (b cap : Nat) (zs : List Int) (low : Int) : Prop where
  c0 : w.cell? ⟨p, 0, none⟩ = some (.slice q zs.length cap)
  c1 : w.cell? ⟨p, 1, none⟩ = some (.int .i64 low)
  hq : 0 < zs.length → q = some ⟨b, 0, none⟩
  ints : IntsAt w b 0 zs
  froz : ∀ j, j < zs.length → w.frozen? ⟨b, j, none⟩ = false
  ne : 0 < zs.length → p ≠ b
  len : zs.length ≤ 1000
  words : ∀ z ∈ zs, 0 ≤ z ∧ z < 65536
def okL (zs : List Int) (at_ : Int) : Bool := decide (at_ < zs.length)
def ldL (zs : List Int) (at_ : Int) : Int := zs.getD at_.toNat 0
theorem FlatAt.below {w w' : World} {p b cap : Nat} {q : Option Addr} {zs : List Int} {low : Int} (h : FlatAt w p q b cap zs low) (hb : Below w.heap.size w w') : FlatAt w' p q b cap zs low where
  c0 := (hb.cell (World.block_lt_of_cell? _ _ h.c0)).trans h.c0
  c1 := (hb.cell (World.block_lt_of_cell? _ _ h.c1)).trans h.c1
  hq := h.hq
  ints := h.ints.below hb
  froz := fun j hj => (hb.frozen (World.block_lt_of_cell? _ ⟨b, j, none⟩ (by have := h.ints j hj; rw [Nat.zero_add] at this; exact this))).trans (h.froz j hj)
  ne := h.ne
  len := h.len
  words := h.words
theorem FlatAt.far {w : World} {p b cap B o : Nat} {q : Option Addr} {zs : List Int} {low : Int} (h : FlatAt w p q b cap zs low) (hp : B ≠ p) (hb : 0 < zs.length → B ≠ b) (v : Value) : FlatAt (w.setCell ⟨B, o, none⟩ v) p q b cap zs low where
  c0 := (World.cell?_setCell_other w _ _ _ (by intro e; cases e; exact hp rfl)).trans h.c0
  c1 := (World.cell?_setCell_other w _ _ _ (by intro e; cases e; exact hp rfl)).trans h.c1
  hq := h.hq
  ints := fun j hj => h.ints.far (hb (by omega)) v j hj
  froz := fun j hj => by rw [World.frozen?_setCell]; exact h.froz j hj
  ne := h.ne
  len := h.len
  words := h.words
theorem flatLoad_any (p b cap : Nat) (q : Option Addr) (zs : List Int) (low at_ : Int) (w : World) (h : FlatAt w p q b cap zs low) (h0 : 0 ≤ at_) (h1 : at_ < 65536) :
    Calls Try.prog 9 #[.pointer (some ⟨p, 0, none⟩), .int .i64 at_] w fun e w' => e = .returned (.tuple #[.int .i64 (ldL zs at_), .bool (okL zs at_)]) ∧ w = w' := by
  have c0 := h.c0
  have hl := h.len
  have hneg : ¬ at_ < 0 := by omega
  obtain ⟨k, rfl⟩ := Int.eq_ofNat_of_zero_le h0
  by_cases hk : k < zs.length
  · have hk2 : ¬ ((zs.length : Int) ≤ (k : Int)) := by omega
    have hk3 : (k : Int) < (zs.length : Int) := by omega
    have c2 := h.ints k hk
    rw [Nat.zero_add] at c2
    have hq := h.hq (by omega)
    subst hq
    have e1 : ldL zs k = zs[k] := by unfold ldL; simp [hk]
    have e2 : okL zs k = true := by unfold okL; simpa using hk
    rw [e1, e2]
    generalize zs[k] = z at *
    clear e1 e2
    go_enter Try.func9, Try.ntmps9
    go_wp2_with fail
    go_ret2
    exact ⟨rfl, rfl⟩
  · have hk2 : ((zs.length : Int) ≤ (k : Int)) := by omega
    have e1 : ldL zs k = 0 := by unfold ldL; rw [List.getD_eq_getElem?_getD, List.getElem?_eq_none (by simp; omega)]; rfl
    have e2 : okL zs k = false := by unfold okL; simpa using hk
    rw [e1, e2]
    clear e1 e2
    go_enter Try.func9, Try.ntmps9
    go_wp2_with fail
    go_ret2
    exact ⟨rfl, rfl⟩
def okS (zs : List Int) (low at_ : Int) : Bool := decide (low ≤ at_ ∧ at_ < zs.length)
/-- What the memory is behind a store. -/
def stL (zs : List Int) (low at_ v : Int) : List Int := if low ≤ at_ ∧ at_ < zs.length then zs.set at_.toNat v else zs
theorem flatStore_no (p b cap : Nat) (q : Option Addr) (zs : List Int) (low at_ v : Int) (w : World) (h : FlatAt w p q b cap zs low) (h0 : 0 ≤ at_) (h1 : at_ < 65536) (hn : okS zs low at_ = false) :
    Calls Try.prog 10 #[.pointer (some ⟨p, 0, none⟩), .int .i64 at_, .int .i64 v] w fun e w' => e = .returned (.bool false) ∧ w = w' := by
  have c0 := h.c0
  have c1 := h.c1
  have hl := h.len
  obtain ⟨k, rfl⟩ := Int.eq_ofNat_of_zero_le h0
  unfold okS at hn
  rw [decide_eq_false_iff_not] at hn
  by_cases hlo : (k : Int) < low
  · clear hn
    go_enter Try.func10, Try.ntmps10
    go_wp2_with fail
    go_ret
    exact ⟨rfl, rfl⟩
  · have hk2 : ((zs.length : Int) ≤ (k : Int)) := by omega
    clear hn
    go_enter Try.func10, Try.ntmps10
    go_wp2_with fail
    go_ret
    exact ⟨rfl, rfl⟩
theorem flatStore_yes (p b cap : Nat) (q : Option Addr) (zs : List Int) (low at_ v : Int) (w : World) (h : FlatAt w p q b cap zs low) (h0 : 0 ≤ at_) (h1 : at_ < 65536) (hn : okS zs low at_ = true) :
    Calls Try.prog 10 #[.pointer (some ⟨p, 0, none⟩), .int .i64 at_, .int .i64 v] w fun e w' => e = .returned (.bool true) ∧ w' = w.setCell ⟨b, at_.toNat, none⟩ (.int .i64 v) := by
  have c0 := h.c0
  have c1 := h.c1
  have hl := h.len
  obtain ⟨k, rfl⟩ := Int.eq_ofNat_of_zero_le h0
  unfold okS at hn
  rw [decide_eq_true_iff] at hn
  have hlo : ¬ ((k : Int) < low) := by omega
  have hk : k < zs.length := by omega
  have hk2 : ¬ ((zs.length : Int) ≤ (k : Int)) := by omega
  have hk3 : (k : Int) < (zs.length : Int) := by omega
  have c2 := h.ints k hk
  have f2 := h.froz k hk
  rw [Nat.zero_add] at c2
  have hq := h.hq (by omega)
  subst hq
  generalize zs[k] = z at *
  clear hn
  go_enter Try.func10, Try.ntmps10
  go_wp2_with fail
  go_ret
  exact ⟨rfl, rfl⟩
theorem FlatAt.store {w : World} {p b cap : Nat} {q : Option Addr} {zs : List Int} {low at_ v : Int} (h : FlatAt w p q b cap zs low) (h0 : 0 ≤ at_) (hn : okS zs low at_ = true) (v0 : 0 ≤ v) (v1 : v < 65536) : FlatAt (w.setCell ⟨b, at_.toNat, none⟩ (.int .i64 v)) p q b cap (stL zs low at_ v) low := by
  unfold okS at hn
  rw [decide_eq_true_iff] at hn
  have hk : at_.toNat < zs.length := by omega
  have e : stL zs low at_ v = zs.set at_.toNat v := by unfold stL; rw [if_pos hn]
  have hne := h.ne (by omega)
  rw [e]
  have hfar : ∀ o, (w.setCell ⟨b, at_.toNat, none⟩ (.int .i64 v)).cell? ⟨p, o, none⟩ = w.cell? ⟨p, o, none⟩ := fun o => World.cell?_setCell_other w _ _ _ (by intro e; cases e; exact hne rfl)
  exact ⟨by rw [hfar, List.length_set]; exact h.c0, by rw [hfar]; exact h.c1, fun hl => h.hq (by rw [List.length_set] at hl; exact hl), h.ints.set hk v, fun j hj => by rw [List.length_set] at hj; rw [World.frozen?_setCell]; exact h.froz j hj, fun _ => hne, by rw [List.length_set]; exact h.len,
    fun z hz => by
      rcases List.mem_or_eq_of_mem_set hz with hz | rfl
      · exact h.words z hz
      · exact ⟨v0, v1⟩⟩
theorem ldL_word {zs : List Int} (h : ∀ z ∈ zs, 0 ≤ z ∧ z < 65536) (at_ : Int) : 0 ≤ ldL zs at_ ∧ ldL zs at_ < 65536 := by
  unfold ldL
  rw [List.getD_eq_getElem?_getD]
  by_cases hk : at_.toNat < zs.length
  · rw [List.getElem?_eq_getElem hk]
    exact h _ (List.getElem_mem hk)
  · rw [List.getElem?_eq_none (by omega)]
    exact ⟨by decide, by decide⟩
theorem load_flat' (p b cap : Nat) (q : Option Addr) (zs : List Int) (low at_ z : Int) (ok : Bool) (w : World) (h : FlatAt w p q b cap zs low) (h0 : 0 ≤ at_) (h1 : at_ < 65536) (ez : Hid (ldL zs at_ = z)) (eo : Hid (okL zs at_ = ok)) (z0 : 0 ≤ z) (z1 : z < 65536) :
    Calls Try.prog 13 #[.iface 28 (.pointer (some ⟨p, 0, none⟩)), .int .i64 at_] w fun e w' => e = .returned (.tuple #[.int .i64 z, .bool ok]) ∧ Below w.heap.size w w' := by
  have hmf : ∀ (fn : Fn) (first cap : Array Value) (w : World), (Instr.makeFunc fn first cap).run Try.prog w = .ok (.func fn first cap) w := fun _ _ _ _ => rfl
  have hz : z % 65536 = z := by omega
  have H := hid h
  clear h
  go_enter_defers Try.func13, Try.ntmps13
  go_wp2_with fail
  refine (flatLoad_any p b cap q zs low at_ _ (H.out.below (bal (bal (Below.refl _ _) _) _)) h0 h1).mono ?_
  rintro e w1 ⟨rfl, rfl⟩
  rw [ez.out, eo.out]
  clear H ez eo
  go_wp2_with fail
  go_region_with (first | (go_at_call 12; refine (wrap_any _ _).mono ?_; rintro e w2 ⟨rfl, rfl⟩))
  all_goals
    go_wp2_with fail
    refine leaves_cons (f := 18) (args := #[.pointer (some ⟨w.heap.size, 0, none⟩), .pointer (some ⟨w.heap.size + 1, 0, none⟩)]) (by simp) (by simp [go_sem]) ?_
    refine (load_idle _ _ _).mono ?_
    rintro e u' w'' ⟨rfl, rfl, rfl⟩
    simp [Leaves, settle, results, Try.results13, go_sem]
    exact below_drewN (bal (bal (Below.refl _ _) _) _) 1
theorem load_flat (p b cap : Nat) (q : Option Addr) (zs : List Int) (low at_ : Int) (w : World) (h : FlatAt w p q b cap zs low) (h0 : 0 ≤ at_) (h1 : at_ < 65536) :
    Calls Try.prog 13 #[.iface 28 (.pointer (some ⟨p, 0, none⟩)), .int .i64 at_] w fun e w' => e = .returned (.tuple #[.int .i64 (ldL zs at_), .bool (okL zs at_)]) ∧ Below w.heap.size w w' :=
  load_flat' p b cap q zs low at_ _ _ w h h0 h1 rfl rfl (ldL_word h.words at_).1 (ldL_word h.words at_).2
theorem store_no (p b cap : Nat) (q : Option Addr) (zs : List Int) (low at_ v : Int) (w : World) (h : FlatAt w p q b cap zs low) (h0 : 0 ≤ at_) (h1 : at_ < 65536) (hn : okS zs low at_ = false) :
    Calls Try.prog 20 #[.iface 28 (.pointer (some ⟨p, 0, none⟩)), .int .i64 at_, .int .i64 v] w fun e w' => e = .returned (.bool false) ∧ Below w.heap.size w w' := by
  have hmf : ∀ (fn : Fn) (first cap : Array Value) (w : World), (Instr.makeFunc fn first cap).run Try.prog w = .ok (.func fn first cap) w := fun _ _ _ _ => rfl
  have H := hid h
  have HN := hid hn
  clear h hn
  go_enter_defers Try.func20, Try.ntmps20
  go_wp2_with fail
  refine (flatStore_no p b cap q zs low at_ v _ (H.out.below (bal (Below.refl _ _) _)) h0 h1 HN.out).mono ?_
  rintro e w1 ⟨rfl, rfl⟩
  go_wp2_with fail
  refine leaves_cons (f := 25) (args := #[.pointer (some ⟨w.heap.size, 0, none⟩)]) (by simp) (by simp [go_sem]) ?_
  refine (store_idle _ _).mono ?_
  rintro e u' w'' ⟨rfl, rfl, rfl⟩
  simp [Leaves, settle, results, Try.results20, go_sem]
  exact bal (Below.refl _ _) _
theorem store_yes (p b cap : Nat) (q : Option Addr) (zs : List Int) (low at_ v : Int) (w : World) (h : FlatAt w p q b cap zs low) (h0 : 0 ≤ at_) (h1 : at_ < 65536) (v0 : 0 ≤ v) (v1 : v < 65536) (hn : okS zs low at_ = true) :
    Calls Try.prog 20 #[.iface 28 (.pointer (some ⟨p, 0, none⟩)), .int .i64 at_, .int .i64 v] w fun e w' => e = .returned (.bool true) ∧ Kp (· = b) w w' ∧ FlatAt w' p q b cap (stL zs low at_ v) low := by
  have hmf : ∀ (fn : Fn) (first cap : Array Value) (w : World), (Instr.makeFunc fn first cap).run Try.prog w = .ok (.func fn first cap) w := fun _ _ _ _ => rfl
  have hb : b < w.heap.size := by
    unfold okS at hn
    rw [decide_eq_true_iff] at hn
    exact World.block_lt_of_cell? _ _ (h.ints at_.toNat (by omega))
  have hb2 : b ≠ w.heap.size := by omega
  have H := hid h
  have HN := hid hn
  clear h hn
  go_enter_defers Try.func20, Try.ntmps20
  go_wp2_with fail
  refine (flatStore_yes p b cap q zs low at_ v _ (H.out.below (bal (Below.refl _ _) _)) h0 h1 HN.out).mono ?_
  rintro e w1 ⟨rfl, rfl⟩
  have FF := hid (((H.out.below (bal (Below.refl _ _) (.cells #[.bool false] 4))).store (v := v) h0 HN.out v0 v1))
  have KK := hid (((Kp.refl (· = b) w).alloc (.cells #[.bool false] 4)).setCell (b := b) (o := at_.toNat) (.inl rfl) (.int .i64 v))
  have hne : (⟨b, at_.toNat, none⟩ : Addr) ≠ ⟨w.heap.size, 0, none⟩ := fun e => hb2 (congrArg Addr.block e)
  have cc : ((w.alloc (.cells #[.bool false] 4)).setCell ⟨b, at_.toNat, none⟩ (.int .i64 v)).cell? ⟨w.heap.size, 0, none⟩ = some (.bool false) := by
    rw [World.cell?_setCell_other _ _ _ _ hne]; simp
  have cf : ((w.alloc (.cells #[.bool false] 4)).setCell ⟨b, at_.toNat, none⟩ (.int .i64 v)).frozen? ⟨w.heap.size, 0, none⟩ = false := by
    rw [World.frozen?_setCell]; simp
  have hsz : ((w.alloc (.cells #[.bool false] 4)).setCell ⟨b, at_.toNat, none⟩ (.int .i64 v)).heap.size = w.heap.size + 1 := by simp [World.setCell]
  generalize (w.alloc (.cells #[.bool false] 4)).setCell ⟨b, at_.toNat, none⟩ (.int .i64 v) = w1 at *
  go_wp2_with fail
  refine leaves_cons (f := 25) (args := #[.pointer (some ⟨w.heap.size, 0, none⟩)]) (by simp) (by simp [go_sem]) ?_
  refine (store_idle _ _).mono ?_
  rintro e u' w'' ⟨rfl, rfl, rfl⟩
  have cs := World.cell?_setCell_same w1 ⟨w.heap.size, 0, none⟩ (.bool true) cc
  simp [Leaves, settle, results, Try.results20, go_sem, cs]
  exact ⟨KK.out.setCell (.inr (Nat.le_refl _)) _, FF.out.far (by have := World.block_lt_of_cell? _ _ H.out.c0; simp at this; omega) (fun _ => by omega) _⟩
end Go.Proofs.Ytlkplpdnleaihab.Cpu
