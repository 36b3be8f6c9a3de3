/- api.Tell and keyholdref.Is, walked. -/
import Derived.Test.YtfpkbfhaipgibaaDoorAsWalk
namespace Go.Proofs.YtfpkbfhaipgibaaDoor
open Go.RowKit Go.Extern.Stop Go.Stop Go.Extern

/-- The library's variable errors.errorType holds the handle of the type error. -/
def ETok (w : World) : Prop := w.cell? ⟨2, 0, none⟩ = some (.iface 195 (.agg #[.pointer (some ⟨9, 29, none⟩)]))
theorem ETok.lt {w : World} (h : ETok w) : 2 < w.heap.size := World.block_lt_of_cell? _ _ h
theorem ETok.below {w w' : World} (h : ETok w) (hb : Below w.heap.size w w') : ETok w' := (hb.cell (p := ⟨2, 0, none⟩) h.lt).trans h
theorem ETok.alloc {w : World} (h : ETok w) (o : Obj) : ETok (w.alloc o) := (World.cell?_alloc_lt _ _ ⟨2, 0, none⟩ h.lt).trans h
/-- What an error tells in a world: its number, and its place. -/
def Tells (w : World) (v : Value) (n at_ : Int) : Prop :=
  (v = .nilIface ∧ n = 0 ∧ at_ = -1) ∨ (v = .iface 23 (.int .i64 n) ∧ at_ = -1) ∨
  ∃ b o, v = .iface 95 (.pointer (some ⟨b, o, none⟩)) ∧ w.cell? ⟨b, o, none⟩ = some (.int .i64 at_) ∧ w.cell? ⟨b, o + 1, none⟩ = some (.iface 23 (.int .i64 n))
theorem Tells.below {w w' : World} {v : Value} {n at_ : Int} (h : Tells w v n at_) (hb : Below w.heap.size w w') : Tells w' v n at_ := by
  rcases h with h | h | ⟨b, o, h1, h2, h3⟩
  · exact .inl h
  · exact .inr (.inl h)
  · exact .inr (.inr ⟨b, o, h1, (hb.cell (p := ⟨b, o, none⟩) (World.block_lt_of_cell? _ _ h2)).trans h2, (hb.cell (p := ⟨b, o + 1, none⟩) (World.block_lt_of_cell? _ _ h3)).trans h3⟩)
theorem bal {w w' : World} (h : Below w.heap.size w w') (o : Obj) : Below w.heap.size w (w'.alloc o) := h.alloc h.size o
theorem btr {w w1 w2 : World} (h : Below w.heap.size w w1) (h2 : Below w1.heap.size w1 w2) : Below w.heap.size w w2 := h.trans (h2.mono h.size)
theorem Hid.mk' {p : Prop} (h : p) : Hid p := h
theorem cell_al {w : World} {a : Addr} {v : Value} (h : w.cell? a = some v) (o : Obj) : (w.alloc o).cell? a = some v := (World.cell?_alloc_lt _ _ a (World.block_lt_of_cell? _ _ h)).trans h
theorem tell_nil (w : World) : Calls Tryd.prog 45 #[.nilIface] w fun e w' => e = .returned (.tuple #[.int .i64 0, .int .i64 (-1)]) ∧ Below w.heap.size w w' := by
  go_enter Tryd.func45, Tryd.ntmps45
  go_wp2
  go_ret2
  exact ⟨rfl, Below.refl _ _⟩
theorem cell_size {w : World} {a : Addr} {v : Value} (h : w.cell? a = some v) : a.block < w.heap.size := World.block_lt_of_cell? _ _ h
set_option maxHeartbeats 1000000 in
theorem tell_errno (n : Int) (w : World) (hg : ETok w) : Calls Tryd.prog 45 #[.iface 23 (.int .i64 n)] w fun e w' => e = .returned (.tuple #[.int .i64 n, .int .i64 (-1)]) ∧ Below w.heap.size w w' := by
  have HG : Hid (ETok w) := hg
  clear hg
  go_enter Tryd.func45, Tryd.ntmps45
  go_wp2_with fail
  refine (as_F_errno n _ _ (HG.out.alloc _)).mono ?_
  rintro e w1 ⟨rfl, hb1⟩
  go_wp2_with fail
  have hg2 : ETok w1 := (HG.out.alloc _).below hb1
  refine (as_E_errno n _ (.int .i64 0) _ (hg2.alloc _) (by simp) (by simp)).mono ?_
  rintro e w2 ⟨rfl, rfl⟩
  go_wp2_with fail
  go_ret2
  exact ⟨rfl, bal (bal (bal (bal (bal (btr (bal (Below.refl _ _) _) hb1) _) _) _) _) _⟩
set_option maxHeartbeats 1000000 in
theorem tell_fault (n at_ : Int) (b o : Nat) (w : World) (hg : ETok w) (h1 : w.cell? ⟨b, o, none⟩ = some (.int .i64 at_)) (h2 : w.cell? ⟨b, o + 1, none⟩ = some (.iface 23 (.int .i64 n))) :
    Calls Tryd.prog 45 #[.iface 95 (.pointer (some ⟨b, o, none⟩))] w fun e w' => e = .returned (.tuple #[.int .i64 n, .int .i64 at_]) ∧ Below w.heap.size w w' := by
  have HG : Hid (ETok w) := hg
  have hbl : b < w.heap.size := cell_size h1
  have hbs : ∀ k, b < w.heap.size + k := fun k => by omega
  clear hg
  go_enter Tryd.func45, Tryd.ntmps45
  go_wp2_with fail
  refine (as_F_fault _ _ (.pointer none) _ (HG.out.alloc _) (by simp) (by simp)).mono ?_
  rintro e w1 ⟨rfl, rfl⟩
  have hg1 := ((((HG.out.alloc (.cells #[.pointer (some ⟨b, o, none⟩)] 95)).alloc (.cells #[.pointer (some ⟨w.heap.size, 0, none⟩)] 152)).alloc (.cells #[.pointer (some ⟨9, 152, none⟩), .pointer (some ⟨w.heap.size + 1, 0, none⟩), .int .u64 150] 176)).alloc (.cells #[.pointer (some ⟨9, 152, none⟩), .pointer (some ⟨w.heap.size + 1, 0, none⟩), .int .u64 150] 176)).alloc (.cells #[.pointer (some ⟨b, o, none⟩)] 95)
  have HG1 := Hid.mk' hg1
  clear hg1
  go_wp2_with fail
  refine (as_E_fault n b o _ (.int .i64 0) _ (HG1.out.alloc _) (cell_al (cell_al (cell_al (cell_al (cell_al (cell_al h2 _) _) _) _) _) _) (World.cell?_alloc_at _ _ _ _ (by simp)) (World.frozen?_alloc_at _ _ _ _ (by simp))).mono ?_
  rintro e w2 ⟨rfl, rfl⟩
  go_wp2_with fail
  go_ret2
  exact ⟨rfl, bal (bal (bal (bal (bal (bal (bal (bal (bal (bal (Below.refl _ _) _) _) _) _) _) _) _) _) _) _⟩
theorem tell_any (v : Value) (n at_ : Int) (w : World) (hg : ETok w) (h : Tells w v n at_) :
    Calls Tryd.prog 45 #[v] w fun e w' => e = .returned (.tuple #[.int .i64 n, .int .i64 at_]) ∧ Below w.heap.size w w' := by
  rcases h with ⟨rfl, rfl, rfl⟩ | ⟨rfl, rfl⟩ | ⟨b, o, rfl, h2, h3⟩
  · exact tell_nil w
  · exact tell_errno n w hg
  · exact tell_fault n at_ b o w hg h2 h3
set_option maxHeartbeats 400000 in
/-- keyholdref.Is, where the error tells just that. -/
theorem is_yes (v : Value) (n at_ : Int) (w : World) (hg : ETok w) (h : Tells w v n at_) :
    Calls Tryd.prog 10 #[v, .agg #[.int .i64 n, .int .i64 at_]] w fun e w' => e = .returned (.bool true) ∧ Below w.heap.size w w' := by
  have HG : Hid (ETok w) := hg
  have HT : Hid (Tells w v n at_) := h
  clear hg h
  go_enter Tryd.func10, Tryd.ntmps10
  go_wp2_with fail
  refine (tell_any v n at_ _ (HG.out.alloc _) (HT.out.below (bal (Below.refl _ _) _))).mono ?_
  rintro e w1 ⟨rfl, hb1⟩
  obtain ⟨hc1, hz1⟩ : (∀ b o, b < w.heap.size + 1 → w1.cell? ⟨b, o, none⟩ = (w.alloc (.cells #[.int .i64 n, .int .i64 at_] 25)).cell? ⟨b, o, none⟩) ∧ True := ⟨fun b o hb => hb1.cell (p := ⟨b, o, none⟩) (by simpa using hb), trivial⟩
  go_wp2_with fail
  go_ret
  exact ⟨rfl, btr (bal (Below.refl _ _) _) hb1⟩
end Go.Proofs.YtfpkbfhaipgibaaDoor
