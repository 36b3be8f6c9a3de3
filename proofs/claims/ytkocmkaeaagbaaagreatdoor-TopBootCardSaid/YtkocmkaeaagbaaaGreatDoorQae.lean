/- mmu.Walk and keyholdref.Walked: one answer; mmu.Entry, walked. · A memory anywhere in a block: mmu.Walk and keyholdref.Walked; written by mk_walk.py. · What a core remembers: plain.Told; walked. · Small questions: world.waits, world.isSlot, world.count; walked. · How often a number is in lists: world.count, world.countAll, keyholdref.howOften, keyholdref.In; walked. · The lengths of a world's lists: world.listsFit; walked. · What keys there are to a frame: world.badFrame; walked. -/
import Derived.BigQuiet
import Derived.Test.YtkocmkaeaagbaaaGreatDoorQaa
import Derived.Test.YtkocmkaeaagbaaaGreatDoorQac
import Derived.Test.YtkocmkaeaagbaaaGreatDoorQad
namespace Go.Proofs.YtkocmkaeaagbaaaGreatDoor.Mmu
open Go.RowKit Go.Proofs.YtkocmkaeaagbaaaGreatDoor.Mem Go.Proofs.YtkocmkaeaagbaaaGreatDoor.Bw Go.Proofs.YtkocmkaeaagbaaaGreatDoor.Nums
def n16 (zs : List Int) : Int := (zs.length : Int) / 16
def e1 (zs : List Int) (s a : Int) : Int := zs.getD (s * 16 + a / 256).toNat 0
def e2 (zs : List Int) (t a : Int) : Int := zs.getD (t * 16 + a / 16 % 16).toNat 0
/-- D1: where an address leads, whether that may be written, and the error. -/
def walkR (zs : List Int) (s a : Int) : Int × Bool × Int :=
 if ¬ inb zs.length s a then (0, false, 2)
 else if ¬ isE (e1 zs s a) (n16 zs) then (0, false, 9)
 else if ¬ isE (e2 zs (e1 zs s a % 1024) a) (n16 zs) then (0, false, 9)
 else (e2 zs (e1 zs s a % 1024) a % 1024, decide (e2 zs (e1 zs s a % 1024) a / 16384 % 2 = 1), 0)
def errV (k : Int) : Value := if k = 0 then .nilIface else .iface 29 (.int .i64 k)
theorem getD_some {zs : List Int} {j : Nat} (h : j < zs.length) : zs[j]? = some (zs.getD j 0) := by
 rw [List.getElem?_eq_getElem h, List.getD_eq_getElem?_getD, List.getElem?_eq_getElem h]
 rfl
theorem walkR_range {zs : List Int} {s a : Int} (h : ¬ inb zs.length s a) : walkR zs s a = (0, false, 2) := by unfold walkR; rw [if_pos h]
theorem walkR_no1 {zs : List Int} {s a : Int} (h : inb zs.length s a) (h1 : ¬ isE (e1 zs s a) (n16 zs)) : walkR zs s a = (0, false, 9) := by unfold walkR; rw [if_neg (fun k => k h), if_pos h1]
theorem walkR_no2 {zs : List Int} {s a : Int} (h : inb zs.length s a) (h1 : isE (e1 zs s a) (n16 zs)) (h2 : ¬ isE (e2 zs (e1 zs s a % 1024) a) (n16 zs)) : walkR zs s a = (0, false, 9) := by
 unfold walkR; rw [if_neg (fun k => k h), if_neg (fun k => k h1), if_pos h2]
theorem walkR_yes {zs : List Int} {s a : Int} (h : inb zs.length s a) (h1 : isE (e1 zs s a) (n16 zs)) (h2 : isE (e2 zs (e1 zs s a % 1024) a) (n16 zs)) : walkR zs s a = (e2 zs (e1 zs s a % 1024) a % 1024, decide (e2 zs (e1 zs s a % 1024) a / 16384 % 2 = 1), 0) := by
 unfold walkR; rw [if_neg (fun k => k h), if_neg (fun k => k h1), if_neg (fun k => k h2)]
/-- The numbers that the walks reckon. -/
theorem idx1 {zs : List Int} {s a : Int} (h : inb zs.length s a) : 0 ≤ s ∧ 0 ≤ a / 256 ∧ s * 16 + a / 256 < zs.length := by
 unfold inb at h
 omega
theorem idx2 {zs : List Int} {s a : Int} (h : inb zs.length s a) (h1 : isE (e1 zs s a) (n16 zs)) : 0 ≤ e1 zs s a % 1024 ∧ 0 ≤ a / 16 % 16 ∧ e1 zs s a % 1024 * 16 + a / 16 % 16 < zs.length := by
 unfold inb at h
 unfold isE n16 at h1
 omega
end Go.Proofs.YtkocmkaeaagbaaaGreatDoor.Mmu
namespace Go.Proofs.YtkocmkaeaagbaaaGreatDoor.Wd
open Go.RowKit Go.Proofs.YtkocmkaeaagbaaaGreatDoor.Mem Go.Proofs.YtkocmkaeaagbaaaGreatDoor.Bw Go.Proofs.YtkocmkaeaagbaaaGreatDoor.Nums Go.Proofs.YtkocmkaeaagbaaaGreatDoor.Mmu
/-- A memory of words. -/
structure RamIn (w : World) (v : Value) (zs : List Int) : Prop where
 row : ∃ q b off cap, v = .slice q zs.length cap ∧ (0 < zs.length → q = some ⟨b, off, none⟩) ∧ IntsAt w b off zs
 word : ∀ z ∈ zs, 0 ≤ z ∧ z < 65536
 len : zs.length ≤ 600
theorem RamIn.below {w w' : World} {v : Value} {zs : List Int} (h : RamIn w v zs) (hb : Below w.heap.size w w') : RamIn w' v zs :=
 ⟨by obtain ⟨q, b, off, cap, h1, h2, h3⟩ := h.row; exact ⟨q, b, off, cap, h1, h2, h3.below hb⟩, h.word, h.len⟩
theorem inBounds_any_o (v : Value) (zs : List Int) (s a : Int) (w : World) (hv : RamIn w v zs) :
  Calls Tryz.prog 185 #[v, .int .i64 s, .int .i64 a] w fun e w' => e = .returned (.bool (decide (inb zs.length s a))) ∧ w = w' := by
 obtain ⟨⟨q, b, off, cap, rfl, hq, hz⟩, _, hl⟩ := hv
 have hl2 : (zs.length : Int) ≤ 600 := by omega
 clear hq hz
 by_cases h1 : (zs.length : Int) % 16 = 0
 ·have g1 : ((zs.length : Int) % 16 != 0) = false := by rw [bne_eq_false_iff_eq]; exact h1
  by_cases h2 : 24 < (zs.length : Int) / 16
  ·have e : decide (inb zs.length s a) = false := decide_eq_false (by unfold inb; omega)
   rw [e]
   clear e h1
   go_enter Tryz.func185, Tryz.ntmps185
   go_wp2_with fail
   go_ret
   exact ⟨rfl, rfl⟩
  ·by_cases h3 : 0 ≤ s
   ·by_cases h4 : s < (zs.length : Int) / 16
    ·by_cases h5 : 0 ≤ a
     ·by_cases h6 : a < 4096
      ·have e : decide (inb zs.length s a) = true := decide_eq_true (by unfold inb; omega)
       rw [e]
       clear e h1
       go_enter Tryz.func185, Tryz.ntmps185
       go_wp2_with fail
       go_ret
       exact ⟨rfl, rfl⟩
      ·have e : decide (inb zs.length s a) = false := decide_eq_false (by unfold inb; omega)
       rw [e]
       clear e h1
       go_enter Tryz.func185, Tryz.ntmps185
       go_wp2_with fail
       go_ret
       exact ⟨rfl, rfl⟩
     ·have e : decide (inb zs.length s a) = false := decide_eq_false (by unfold inb; omega)
      rw [e]
      clear e h1
      go_enter Tryz.func185, Tryz.ntmps185
      go_wp2_with fail
      go_ret
      exact ⟨rfl, rfl⟩
    ·have e : decide (inb zs.length s a) = false := decide_eq_false (by unfold inb; omega)
     rw [e]
     clear e h1
     go_enter Tryz.func185, Tryz.ntmps185
     go_wp2_with fail
     go_ret
     exact ⟨rfl, rfl⟩
   ·have e : decide (inb zs.length s a) = false := decide_eq_false (by unfold inb; omega)
    rw [e]
    clear e h1
    go_enter Tryz.func185, Tryz.ntmps185
    go_wp2_with fail
    go_ret
    exact ⟨rfl, rfl⟩
 ·have g1 : ((zs.length : Int) % 16 != 0) = true := by rw [bne_iff_ne]; exact h1
  have e : decide (inb zs.length s a) = false := decide_eq_false (by unfold inb; omega)
  rw [e]
  clear e h1
  go_enter Tryz.func185, Tryz.ntmps185
  go_wp2_with fail
  go_ret
  exact ⟨rfl, rfl⟩
set_option maxRecDepth 100000 in
theorem follow_yes_o (v : Value) (zs : List Int) (f k : Int) (w : World) (hv : RamIn w v zs) (f0 : 0 ≤ f) (k0 : 0 ≤ k) (hk : f * 16 + k < zs.length) (x : Int) (hx : zs[(f * 16 + k).toNat]? = some x) (h : isE x ((zs.length : Int) / 16)) :
  Calls Tryz.prog 186 #[v, .int .i64 f, .int .i64 k] w fun e w' => e = .returned (.tuple #[.int .i64 (x % 1024), .bool (decide (x / 16384 % 2 = 1)), .bool true]) ∧ w = w' := by
 obtain ⟨⟨q, b, off, cap, rfl, hq, hz⟩, hw, hl⟩ := hv
 have hj : (f * 16 + k).toNat < zs.length := by omega
 have hqe := hq (by omega)
 subst hqe
 have hc := hz _ hj
 rw [List.getElem?_eq_getElem hj] at hx
 have hxx := Option.some.inj hx
 rw [hxx] at hc
 have hwx := hw _ (List.getElem_mem hj)
 rw [hxx] at hwx
 obtain ⟨x0, x1⟩ := hwx
 have i0 : 0 ≤ f * 16 + k := by omega
 have e10 := mask10 x
 have b15 := and15 x x0 x1
 have b14 := and14 x x0 x1
 have fb : f < 100 := by omega
 have kb : k < 1000 := by omega
 unfold isE at h
 have HV := hid (show (bits .and .i64 x 16384 != 0) = decide (x / 16384 % 2 = 1) by rw [b14, Bool.eq_iff_iff, bne_iff_ne, decide_eq_true_iff]; omega)
 have g1 : (bits .and .i64 x 32768 == 0) = false := by rw [b15]; exact beq_eq_false_iff_ne.2 (by omega)
 have g2 : ¬ ((zs.length : Int) / 16 ≤ x % 1024) := by omega
 clear hq hz hw hx hxx h b14 b15
 go_enter Tryz.func186, Tryz.ntmps186
 go_wp2_with fail
 refine (leads_yes x _ g1).mono ?_
 rintro r w1 ⟨rfl, rfl⟩
 go_wp2_with fail
 go_ret3
 exact ⟨by rw [← HV.out]; rfl, rfl⟩
set_option maxRecDepth 100000 in
theorem follow_no_o (v : Value) (zs : List Int) (f k : Int) (w : World) (hv : RamIn w v zs) (f0 : 0 ≤ f) (k0 : 0 ≤ k) (hk : f * 16 + k < zs.length) (x : Int) (hx : zs[(f * 16 + k).toNat]? = some x) (h : ¬ isE x ((zs.length : Int) / 16)) :
  Calls Tryz.prog 186 #[v, .int .i64 f, .int .i64 k] w fun e w' => e = .returned (.tuple #[.int .i64 0, .bool false, .bool false]) ∧ w = w' := by
 obtain ⟨⟨q, b, off, cap, rfl, hq, hz⟩, hw, hl⟩ := hv
 have hj : (f * 16 + k).toNat < zs.length := by omega
 have hqe := hq (by omega)
 subst hqe
 have hc := hz _ hj
 rw [List.getElem?_eq_getElem hj] at hx
 have hxx := Option.some.inj hx
 rw [hxx] at hc
 have hwx := hw _ (List.getElem_mem hj)
 rw [hxx] at hwx
 obtain ⟨x0, x1⟩ := hwx
 have i0 : 0 ≤ f * 16 + k := by omega
 have e10 := mask10 x
 have b15 := and15 x x0 x1
 have b14 := and14 x x0 x1
 have fb : f < 100 := by omega
 have kb : k < 1000 := by omega
 unfold isE at h
 clear b14
 by_cases g : x / 32768 % 2 = 0
 ·have g1 : (bits .and .i64 x 32768 == 0) = true := by rw [b15, g]; rfl
  clear hq hz hw hx hxx h b15 g
  go_enter Tryz.func186, Tryz.ntmps186
  go_wp2_with fail
  refine (leads_no x _ g1).mono ?_
  rintro r w1 ⟨rfl, rfl⟩
  go_wp2_with fail
  go_ret3
  exact ⟨rfl, rfl⟩
 ·have g1 : (bits .and .i64 x 32768 == 0) = false := by rw [b15]; exact beq_eq_false_iff_ne.2 (by omega)
  have g2 : (zs.length : Int) / 16 ≤ x % 1024 := by omega
  clear hq hz hw hx hxx h b15 g
  go_enter Tryz.func186, Tryz.ntmps186
  go_wp2_with fail
  refine (leads_yes x _ g1).mono ?_
  rintro r w1 ⟨rfl, rfl⟩
  go_wp2_with fail
  go_ret3
  exact ⟨rfl, rfl⟩
set_option maxHeartbeats 1000000 in
theorem walk_any_o (v : Value) (zs : List Int) (s a : Int) (w : World) (hv : RamIn w v zs) :
  Calls Tryz.prog 145 #[v, .int .i64 s, .int .i64 a] w fun e w' => e = .returned (.tuple #[.int .i64 (walkR zs s a).1, .bool (walkR zs s a).2.1, errV (walkR zs s a).2.2]) ∧ w = w' := by
 have HV := hid hv
 clear hv
 have HB := hid (inBounds_any_o v zs s a w HV.out)
 by_cases h : inb zs.length s a
 ·obtain ⟨s0, d0, d1⟩ := idx1 h
  have HI := hid (show decide (inb zs.length s a) = true from decide_eq_true h)
  have a0 : 0 ≤ a := by unfold inb at h; omega
  have a1 : a < 4096 := by unfold inb at h; omega
  have hj1 := getD_some (zs := zs) (j := (s * 16 + a / 256).toNat) (by omega)
  by_cases h1 : isE (e1 zs s a) (n16 zs)
  ·obtain ⟨t0, d2, d3⟩ := idx2 h h1
   have hj2 := getD_some (zs := zs) (j := (e1 zs s a % 1024 * 16 + a / 16 % 16).toNat) (by omega)
   have F1 := hid (follow_yes_o v zs s (a / 256) w HV.out s0 d0 d1 _ hj1 h1)
   by_cases h2 : isE (e2 zs (e1 zs s a % 1024) a) (n16 zs)
   ·have F2 := hid (follow_yes_o v zs (e1 zs s a % 1024) (a / 16 % 16) w HV.out t0 d2 d3 _ hj2 h2)
    rw [walkR_yes h h1 h2]
    clear h h1 h2 hj1 hj2 d0 d1 d2 d3 s0 t0
    go_enter Tryz.func145, Tryz.ntmps145
    go_wp2_with fail
    refine HB.out.mono ?_
    rintro e w' ⟨rfl, rfl⟩
    rw [HI.out]
    go_wp2_with fail
    refine F1.out.mono ?_
    rintro e w' ⟨rfl, rfl⟩
    go_wp2_with fail
    refine F2.out.mono ?_
    rintro e w' ⟨rfl, rfl⟩
    go_wp2_with fail
    go_ret3
    exact ⟨rfl, rfl⟩
   ·have F2 := hid (follow_no_o v zs (e1 zs s a % 1024) (a / 16 % 16) w HV.out t0 d2 d3 _ hj2 h2)
    rw [walkR_no2 h h1 h2]
    clear h h1 h2 hj1 hj2 d0 d1 d2 d3 s0 t0
    go_enter Tryz.func145, Tryz.ntmps145
    go_wp2_with fail
    refine HB.out.mono ?_
    rintro e w' ⟨rfl, rfl⟩
    rw [HI.out]
    go_wp2_with fail
    refine F1.out.mono ?_
    rintro e w' ⟨rfl, rfl⟩
    go_wp2_with fail
    refine F2.out.mono ?_
    rintro e w' ⟨rfl, rfl⟩
    go_wp2_with fail
    go_ret3
    exact ⟨rfl, rfl⟩
  ·have F1 := hid (follow_no_o v zs s (a / 256) w HV.out s0 d0 d1 _ hj1 h1)
   rw [walkR_no1 h h1]
   clear h h1 hj1 d0 d1 s0
   go_enter Tryz.func145, Tryz.ntmps145
   go_wp2_with fail
   refine HB.out.mono ?_
   rintro e w' ⟨rfl, rfl⟩
   rw [HI.out]
   go_wp2_with fail
   refine F1.out.mono ?_
   rintro e w' ⟨rfl, rfl⟩
   go_wp2_with fail
   go_ret3
   exact ⟨rfl, rfl⟩
 ·have HI := hid (show decide (inb zs.length s a) = false from decide_eq_false h)
  rw [walkR_range h]
  clear h
  go_enter Tryz.func145, Tryz.ntmps145
  go_wp2_with fail
  refine HB.out.mono ?_
  rintro e w' ⟨rfl, rfl⟩
  rw [HI.out]
  go_wp2_with fail
  go_ret3
  exact ⟨rfl, rfl⟩
/-- Do the tables tell it? -/
def toldB (p : PW) (e : Ent) : Bool := isB p e.1 4 && decide (0 ≤ e.2.1 ∧ e.2.1 ≤ 255) && ((walkR p.ram e.1 (e.2.1 * 16)).2.2 == 0 && (walkR p.ram e.1 (e.2.1 * 16)).1 == e.2.2.1 && (walkR p.ram e.1 (e.2.1 * 16)).2.1 == e.2.2.2)
set_option maxRecDepth 100000 in
theorem told_any (vb : Nat) (V : Nat → Value) (p : PW) (s g f : Int) (wr : Bool) (w : World) (hv : ViewAt w vb V p) (hr : RamIn w (V 0) p.ram) :
  Calls Tryz.prog 105 #[.pointer (some ⟨vb, 0, none⟩), .agg #[.int .i64 s, .int .i64 g, .int .i64 f, .bool wr]] w fun r w' => r = .returned (.bool (toldB p (s, g, f, wr))) ∧ Below w.heap.size w w' := by
 have C0 := cells_new w #[.int .i64 s, .int .i64 g, .int .i64 f, .bool wr] 103
 have B0 := hid (bal (Below.refl w.heap.size w) (.cells #[.int .i64 s, .int .i64 g, .int .i64 f, .bool wr] 103))
 have HV := hid (hv.below B0.out)
 have HR := hid (hr.below B0.out)
 have c0 : (w.alloc (.cells #[.int .i64 s, .int .i64 g, .int .i64 f, .bool wr] 103)).cell? ⟨vb, 0, none⟩ = some (V 0) := range_cell HV.out.r rfl
 clear hv hr
 by_cases hb : isB p s 4 = true
 ·by_cases hg : 0 ≤ g ∧ g ≤ 255
  ·have HB := hid (show toldB p (s, g, f, wr) = ((walkR p.ram s (g * 16)).2.2 == 0 && (walkR p.ram s (g * 16)).1 == f && (walkR p.ram s (g * 16)).2.1 == wr) by unfold toldB; rw [hb, decide_eq_true hg]; rfl)
   have HI := hid hb
   have HG := hid (decide_eq_true hg)
   have g0 : 0 ≤ g := hg.1
   have g1 : g ≤ 255 := hg.2
   clear hb hg
   go_enter Tryz.func105, Tryz.ntmps105
   go_wp2_with fail
   refine (pis_any vb V p s 4 _ HV.out).mono ?_
   rintro e w1 ⟨rfl, rfl⟩
   rw [HI.out]
   go_wp2_with fail
   refine (within_any g 0 255 _).mono ?_
   rintro e w1 ⟨rfl, rfl⟩
   rw [HG.out]
   go_wp2_with fail
   have HR2 := hid (fun n => HR.out.below (below_drewN (Below.refl _ _) n))
   have hwr : IntKind.i64.wrap (g * 16) = g * 16 := wraps_i64 _ (by omega) (by omega)
   go_quiet (first | (go_at_call 145; refine Calls.quiet_of_same ((walk_any_o _ _ _ _ _ (HR2.out _)).mono fun _ _ h => ⟨h.1, h.2.symm⟩)))
   have BB := hid (below_drewN B0.out nq)
   have C3 : ∀ o, ((w.alloc (.cells #[.int .i64 s, .int .i64 g, .int .i64 f, .bool wr] 103)).drewN nq).cell? ⟨w.heap.size, o, none⟩ = (#[.int .i64 s, .int .i64 g, .int .i64 f, .bool wr] : Array Value)[o]? := C0
   generalize World.drewN _ _ = W3 at BB C3 ⊢
   clear C0 B0 HV HR HR2 c0 HI HG hwr g0 g1
   generalize walkR p.ram s (g * 16) = r at HB ⊢
   obtain ⟨u, wt, k⟩ := r
   by_cases hk : k = 0
   ·subst hk
    rw [show errV 0 = .nilIface from rfl]
    by_cases hf : u = f
    ·subst hf
     have HC := hid (show toldB p (s, g, u, wr) = (wt == wr) by rw [HB.out]; simp)
     clear HB
     go_wp2_with fail
     go_ret
     exact ⟨by rw [HC.out]; rfl, BB.out⟩
    ·have h1 : (u == f) = false := by simpa using hf
     have HC := hid (show toldB p (s, g, f, wr) = false by rw [HB.out]; simp [hf])
     clear HB hf
     go_wp2_with fail
     go_ret
     exact ⟨by rw [HC.out]; rfl, BB.out⟩
   ·rw [show errV k = .iface 29 (.int .i64 k) by unfold errV; rw [if_neg hk]]
    have HC := hid (show toldB p (s, g, f, wr) = false by rw [HB.out]; simp [hk])
    clear HB hk
    go_wp2_with fail
    go_ret
    exact ⟨by rw [HC.out]; rfl, BB.out⟩
  ·have HB := hid (show toldB p (s, g, f, wr) = false by unfold toldB; rw [decide_eq_false hg]; simp)
   have HI := hid hb
   have HG := hid (decide_eq_false hg)
   clear hb hg
   go_enter Tryz.func105, Tryz.ntmps105
   go_wp2_with fail
   refine (pis_any vb V p s 4 _ HV.out).mono ?_
   rintro e w1 ⟨rfl, rfl⟩
   rw [HI.out]
   go_wp2_with fail
   refine (within_any g 0 255 _).mono ?_
   rintro e w1 ⟨rfl, rfl⟩
   rw [HG.out]
   go_wp2_with fail
   go_ret
   exact ⟨by rw [HB.out]; rfl, B0.out⟩
 ·have hb2 : isB p s 4 = false := by simpa using hb
  have HB := hid (show toldB p (s, g, f, wr) = false by unfold toldB; rw [hb2]; rfl)
  have HI := hid hb2
  clear hb hb2
  go_enter Tryz.func105, Tryz.ntmps105
  go_wp2_with fail
  refine (pis_any vb V p s 4 _ HV.out).mono ?_
  rintro e w1 ⟨rfl, rfl⟩
  rw [HI.out]
  go_wp2_with fail
  go_ret
  exact ⟨by rw [HB.out]; rfl, B0.out⟩
theorem waits_any (vb : Nat) (V : Nat → Value) (p : PW) (j : Nat) (w : World) (hv : ViewAt w vb V p) (hj : j < p.tasks.length) :
  Calls Tryz.prog 102 #[.pointer (some ⟨vb, 0, none⟩), .int .i64 j] w fun r w' => r = .returned (.bool (p.tasks[j] 9 == 4)) ∧ w = w' := by
 have c3 : w.cell? ⟨vb, 3, none⟩ = some (V 3) := range_cell hv.r rfl
 obtain ⟨q, b, off, cap, e1, hq, hz⟩ := hv.v.tasks
 have hl : (p.tasks.length : Int) ≤ 1000 := by have := hv.f.tasks; omega
 have hj2 : (j : Int) < (p.tasks.length : Int) := by omega
 obtain rfl := hq (by omega)
 have c9 := range_at (hz j hj) (cf_at 20 _ 9 (by omega))
 generalize p.tasks[j] 9 = x at c9 ⊢
 clear hz hq hv
 go_enter Tryz.func102, Tryz.ntmps102
 go_wp2_with fail
 go_ret
 exact ⟨rfl, rfl⟩
def slotB (p : PW) (n : Int) : Bool := decide (0 ≤ n ∧ n ≤ (p.slots.length : Int) - 1)
theorem pisSlot_any (vb : Nat) (V : Nat → Value) (p : PW) (n : Int) (w : World) (hv : ViewAt w vb V p) :
  Calls Tryz.prog 116 #[.pointer (some ⟨vb, 0, none⟩), .int .i64 n] w fun r w' => r = .returned (.bool (slotB p n)) ∧ w = w' := by
 have c2 : w.cell? ⟨vb, 2, none⟩ = some (V 2) := range_cell hv.r rfl
 obtain ⟨q, b, off, cap, e1, hq, hz⟩ := hv.v.slots
 have hl : (p.slots.length : Int) ≤ 1000 := by have := hv.f.slots; omega
 have HB := hid (show slotB p n = decide (0 ≤ n ∧ n ≤ (p.slots.length : Int) - 1) from rfl)
 clear hz hq hv
 go_enter Tryz.func116, Tryz.ntmps116
 go_wp2_with fail
 refine (within_any n 0 _ w).mono ?_
 rintro e w1 ⟨rfl, rfl⟩
 generalize decide (0 ≤ n ∧ n ≤ (p.slots.length : Int) - 1) = bb at HB ⊢
 go_wp2_with fail
 go_ret
 exact ⟨by rw [HB.out]; rfl, rfl⟩
theorem isSlot_any (vb : Nat) (V : Nat → Value) (p : PW) (n : Int) (w : World) (hv : ViewAt w vb V p) :
  Calls Tryz.prog 137 #[.pointer (some ⟨vb, 0, none⟩), .int .i64 n] w fun r w' => r = .returned (.bool (slotB p n)) ∧ w = w' := by
 have HV := hid hv
 clear hv
 go_enter Tryz.func137, Tryz.ntmps137
 go_wp2_with fail
 refine (pisSlot_any vb V p n w HV.out).mono ?_
 rintro e w1 ⟨rfl, rfl⟩
 go_wp2_with fail
 go_ret
 exact ⟨rfl, rfl⟩
/-- A sum over a list. -/
def sumOf {α : Type} (f : α → Nat) (l : List α) : Nat := (l.map f).sum
theorem sum_next {α : Type} (f : α → Nat) {l : List α} {k : Nat} (h : k < l.length) : sumOf f (l.take (k + 1)) = sumOf f (l.take k) + f l[k] := by
 unfold sumOf
 rw [List.take_succ_eq_append_getElem h]
 simp only [List.map_append, List.sum_append, List.map_cons, List.map_nil, List.sum_cons, List.sum_nil, Nat.add_zero]
theorem sum_le {α : Type} (f : α → Nat) (c : Nat) : ∀ l : List α, (∀ x ∈ l, f x ≤ c) → sumOf f l ≤ c * l.length
 | [], _ => by simp [sumOf]
 | x :: l, h => by
  have h1 := sum_le f c l fun y hy => h y (List.mem_cons_of_mem _ hy)
  have h2 := h x (List.mem_cons_self ..)
  unfold sumOf at h1 ⊢
  simp only [List.map_cons, List.sum_cons, List.length_cons, Nat.mul_add]
  omega
theorem sum_take {α : Type} (f : α → Nat) (c k : Nat) (l : List α) (h : ∀ x ∈ l, f x ≤ c) : sumOf f (l.take k) ≤ c * l.length :=
 Nat.le_trans (sum_le f c _ fun x hx => h x (List.mem_of_mem_take hx)) (Nat.mul_le_mul_left c (by rw [List.length_take]; omega))
theorem sum_all {α : Type} (f : α → Nat) (l : List α) : sumOf f (l.take l.length) = sumOf f l := by rw [List.take_length]
/-- How often is it in the list? -/
def one (x : Int) (z : Int) : Nat := if z = x then 1 else 0
theorem one_le (x z : Int) : one x z ≤ 1 := by unfold one; split <;> omega
def cn (x : Int) (zs : List Int) : Nat := sumOf (one x) zs
theorem cn_le (x : Int) (zs : List Int) : cn x zs ≤ zs.length := by
 have := sum_le (one x) 1 zs fun z _ => one_le x z
 unfold cn
 omega
def cna (x : Int) (ls : List (List Int)) : Nat := sumOf (cn x) ls
theorem cna_take (x : Int) (ls : List (List Int)) (k : Nat) (h : ∀ l ∈ ls, l.length ≤ 1000) : cna x (ls.take k) ≤ 1000 * ls.length :=
 sum_take (cn x) 1000 k ls fun l hl => Nat.le_trans (cn_le x l) (h l hl)
theorem count_any (x : Value) (zs : List Int) (n : Int) (w : World) (hx : IntsIn w x zs) (hl : zs.length ≤ 1000) :
  Calls Tryz.prog 142 #[x, .int .i64 n] w fun r w' => r = .returned (.int .i64 (cn n zs)) ∧ w = w' := by
 obtain ⟨q, b, off, cap, rfl, hq, hz⟩ := hx
 have hl2 : (zs.length : Int) ≤ 1000 := by omega
 have HQ := hid hq
 have HZ := hid hz
 clear hq hz
 go_enter Tryz.func142, Tryz.ntmps142
 go_wp2_with fail
 go_loopw [5, 10] (fun t i wr => ∃ k c : Nat, k ≤ zs.length ∧ i = .int .i64 k ∧ t = .int .i64 c ∧ Hid (c = sumOf (one n) (zs.take k)) ∧ Hid (w = wr)) (fun _ i _ => zs.length - (intOf i).toNat)
 case atStart => exact ⟨0, 0, by omega, rfl, rfl, hid rfl, hid rfl⟩
 case round =>
  obtain ⟨k, c, hk, rfl, rfl, HE, HW⟩ := hrel
  obtain rfl := HW.out
  by_cases hlt : k < zs.length
  ·have hlt2 : (k : Int) < (zs.length : Int) := by omega
   have hqe := HQ.out (by omega)
   subst hqe
   have c0 := HZ.out k hlt
   have hc : (c : Int) ≤ 1000 := by
    have := sum_take (one n) 1 k zs fun z _ => one_le n z
    have := HE.out
    omega
   have HS := hid (show sumOf (one n) (zs.take (k + 1)) = c + one n zs[k] by rw [sum_next _ hlt, ← HE.out])
   generalize zs[k] = z at c0 HS
   by_cases hy : z = n
   ·have HN := hid (show c + 1 = sumOf (one n) (zs.take (k + 1)) by rw [HS.out]; unfold one; rw [if_pos hy])
    subst hy
    go_wp2_with fail
    exact ⟨⟨k + 1, c + 1, by omega, by go_num, by go_num, HN, hid (by simp)⟩, by simp [intOf]; omega⟩
   ·have HN := hid (show c = sumOf (one n) (zs.take (k + 1)) by rw [HS.out]; unfold one; rw [if_neg hy]; rfl)
    go_wp2_with fail
    exact ⟨⟨k + 1, c, by omega, by go_num, rfl, HN, hid (by simp)⟩, by simp [intOf]; omega⟩
  ·obtain rfl : k = zs.length := by omega
   have hge : ¬ ((zs.length : Int) < (zs.length : Int)) := by omega
   have HF := hid (show cn n zs = c by rw [HE.out, sum_all]; rfl)
   go_wp2_with fail
   go_ret
   exact ⟨by rw [HF.out]; rfl, rfl⟩
theorem countAll_any (x : Value) (ls : List (List Int)) (n : Int) (w : World) (hx : ListsIn w x ls) (hl : ls.length ≤ 1000) (hll : ∀ l ∈ ls, l.length ≤ 1000) :
  Calls Tryz.prog 140 #[x, .int .i64 n] w fun r w' => r = .returned (.int .i64 (cna n ls)) ∧ w = w' := by
 obtain ⟨q, b, off, cap, rfl, hq, hz⟩ := hx
 have hl2 : (ls.length : Int) ≤ 1000 := by omega
 have HQ := hid hq
 have HZ := hid hz
 have HL := hid hll
 clear hq hz hll
 go_enter Tryz.func140, Tryz.ntmps140
 go_wp2_with fail
 go_loopw [5, 10] (fun t i wr => ∃ k c : Nat, k ≤ ls.length ∧ i = .int .i64 k ∧ t = .int .i64 c ∧ Hid (c = cna n (ls.take k)) ∧ Hid (w = wr)) (fun _ i _ => ls.length - (intOf i).toNat)
 case atStart => exact ⟨0, 0, by omega, rfl, rfl, hid rfl, hid rfl⟩
 case round =>
  obtain ⟨k, c, hk, rfl, rfl, HE, HW⟩ := hrel
  obtain rfl := HW.out
  by_cases hlt : k < ls.length
  ·have hlt2 : (k : Int) < (ls.length : Int) := by omega
   have hqe := HQ.out (by omega)
   subst hqe
   obtain ⟨y, c0, hy⟩ := HZ.out k hlt
   have HY := hid hy
   have hc : (c : Int) ≤ 1000000 := by
    have := cna_take n ls k HL.out
    have := HE.out
    omega
   have hL := HL.out _ (List.getElem_mem hlt)
   have hL2 : ((cn n ls[k] : Nat) : Int) ≤ 1000 := by have := cn_le n ls[k]; omega
   have HN := hid (show c + cn n ls[k] = cna n (ls.take (k + 1)) by unfold cna; rw [sum_next _ hlt, HE.out]; rfl)
   clear hy
   go_wp2_with fail
   refine (count_any y _ n w HY.out hL).mono ?_
   rintro r w1 ⟨rfl, rfl⟩
   generalize cn n ls[k] = d at HN hL2 ⊢
   go_wp2_with fail
   exact ⟨⟨k + 1, c + d, by omega, by go_num, by go_num, HN, hid (by simp)⟩, by simp [intOf]; omega⟩
  ·obtain rfl : k = ls.length := by omega
   have hge : ¬ ((ls.length : Int) < (ls.length : Int)) := by omega
   have HF := hid (show cna n ls = c by rw [HE.out, List.take_length])
   go_wp2_with fail
   go_ret
   exact ⟨by rw [HF.out]; rfl, rfl⟩
/-- Are all lists as long as there are frames and cores? -/
structure LF (p : PW) : Prop where
 k1 : 1 ≤ p.kinds.length
 k2 : p.kinds.length ≤ 24
 c1 : 1 ≤ p.cores.length
 c2 : p.cores.length ≤ 4
 d1 : 1 ≤ p.doms.length
 d2 : p.doms.length ≤ 8
 ram : p.ram.length = p.kinds.length * 16
 slots : p.slots.length = p.kinds.length * 16
 tasks : p.tasks.length = p.kinds.length
 lines : p.lines.length = p.kinds.length
 bits : p.bits.length = p.kinds.length
 ready : p.ready.length = p.cores.length * 4
 tlbs : p.tlbs.length = p.cores.length
def lfB (p : PW) : Bool := decide ((1 ≤ (p.kinds.length : Int) ∧ (p.kinds.length : Int) ≤ 24) ∧ (1 ≤ (p.cores.length : Int) ∧ (p.cores.length : Int) ≤ 4) ∧ (1 ≤ (p.doms.length : Int) ∧ (p.doms.length : Int) ≤ 8))
 && ((p.ram.length : Int) == (p.kinds.length : Int) * 16 && (p.slots.length : Int) == (p.kinds.length : Int) * 16)
 && ((p.tasks.length : Int) == (p.kinds.length : Int) && (p.lines.length : Int) == (p.kinds.length : Int) && (p.bits.length : Int) == (p.kinds.length : Int))
 && ((p.ready.length : Int) == (p.cores.length : Int) * 4 && (p.tlbs.length : Int) == (p.cores.length : Int))
theorem lfB_in {p : PW} (h : lfB p = true) : LF p := by
 unfold lfB at h
 simp only [Bool.and_eq_true, decide_eq_true_eq, beq_iff_eq] at h
 obtain ⟨⟨⟨⟨⟨a, b⟩, ⟨c, d⟩, ⟨e, f⟩⟩, g1, g2⟩, ⟨t1, t2⟩, t3⟩, r1, r2⟩ := h
 exact ⟨by omega, by omega, by omega, by omega, by omega, by omega, by omega, by omega, by omega, by omega, by omega, by omega, by omega⟩
theorem len_in {w : World} {v : Value} {zs : List Int} (h : IntsIn w v zs) : ∃ q cap, v = .slice q zs.length cap := by
 obtain ⟨q, b, off, cap, h1, _⟩ := h
 exact ⟨q, cap, h1⟩
theorem lens_in {w : World} {v : Value} {zs : List (List Int)} (h : ListsIn w v zs) : ∃ q cap, v = .slice q zs.length cap := by
 obtain ⟨q, b, off, cap, h1, _⟩ := h
 exact ⟨q, cap, h1⟩
set_option maxRecDepth 100000 in
set_option maxHeartbeats 2000000 in
theorem listsFit_any (V : Nat → Value) (p : PW) (w : World) (hv : WorldV w V p) (hp : p.Fits) :
  Calls Tryz.prog 42 #[.agg (arr11 V)] w fun r w' => r = .returned (.bool (lfB p)) ∧ Below w.heap.size w w' := by
 have B0 := hid (bal (Below.refl w.heap.size w) (.cells (arr11 V) 28))
 have RG := hid (boxed w V 28)
 obtain ⟨q0, c0, e0⟩ := len_in hv.ram
 obtain ⟨q1, c1, e1⟩ := len_in hv.kinds
 obtain ⟨q2, c2, e2⟩ := hv.slots.slice
 obtain ⟨q3, c3, e3⟩ := hv.tasks.slice
 obtain ⟨q4, c4, e4⟩ := lens_in hv.lines
 obtain ⟨q5, c5, e5⟩ := len_in hv.bits
 obtain ⟨q6, c6, e6⟩ := len_in hv.cores
 obtain ⟨q7, c7, e7⟩ := lens_in hv.ready
 obtain ⟨q8, c8, e8⟩ := hv.tlbs.slice
 obtain ⟨q9, c9, e9⟩ := len_in hv.doms
 have l0 : (p.ram.length : Int) ≤ 1000 := by have := hp.ram; omega
 have l1 : (p.kinds.length : Int) ≤ 1000 := by have := hp.kinds; omega
 have l2 : (p.slots.length : Int) ≤ 1000 := by have := hp.slots; omega
 have l3 : (p.tasks.length : Int) ≤ 1000 := by have := hp.tasks; omega
 have l4 : (p.lines.length : Int) ≤ 1000 := by have := hp.lines; omega
 have l5 : (p.bits.length : Int) ≤ 1000 := by have := hp.bits; omega
 have l6 : (p.cores.length : Int) ≤ 1000 := by have := hp.cores; omega
 have l7 : (p.ready.length : Int) ≤ 1000 := by have := hp.ready; omega
 have l8 : (p.tlbs.length : Int) ≤ 1000 := by have := hp.tlbs; omega
 have l9 : (p.doms.length : Int) ≤ 1000 := by have := hp.doms; omega
 have HB := hid (show lfB p = (decide ((1 ≤ (p.kinds.length : Int) ∧ (p.kinds.length : Int) ≤ 24) ∧ (1 ≤ (p.cores.length : Int) ∧ (p.cores.length : Int) ≤ 4) ∧ (1 ≤ (p.doms.length : Int) ∧ (p.doms.length : Int) ≤ 8)) && ((p.ram.length : Int) == (p.kinds.length : Int) * 16 && (p.slots.length : Int) == (p.kinds.length : Int) * 16) && ((p.tasks.length : Int) == (p.kinds.length : Int) && (p.lines.length : Int) == (p.kinds.length : Int) && (p.bits.length : Int) == (p.kinds.length : Int)) && ((p.ready.length : Int) == (p.cores.length : Int) * 4 && (p.tlbs.length : Int) == (p.cores.length : Int))) from rfl)
 clear hv hp
 generalize p.ram.length = n0 at *
 generalize p.kinds.length = n1 at *
 generalize p.slots.length = n2 at *
 generalize p.tasks.length = n3 at *
 generalize p.lines.length = n4 at *
 generalize p.bits.length = n5 at *
 generalize p.cores.length = n6 at *
 generalize p.ready.length = n7 at *
 generalize p.tlbs.length = n8 at *
 generalize p.doms.length = n9 at *
 have KF := hid (fun W (h : Below (w.alloc (.cells (arr11 V) 28)).heap.size (w.alloc (.cells (arr11 V) 28)) W) => range_below RG.out h)
 have g1 : (w.alloc (.cells (arr11 V) 28)).cell? ⟨w.heap.size, 1, none⟩ = some (V 1) := range_cell RG.out rfl
 have g6 : (w.alloc (.cells (arr11 V) 28)).cell? ⟨w.heap.size, 6, none⟩ = some (V 6) := range_cell RG.out rfl
 go_enter Tryz.func42, Tryz.ntmps42
 go_wp2_with fail
 go_quiet (fail)
 have BB := hid (below_drewN B0.out nq)
 have RN := hid (KF.out _ (below_drewN (Below.refl _ _) nq))
 clear g1 g6 KF RG B0
 generalize World.drewN _ _ = W1 at BB RN ⊢
 have g0 : W1.cell? ⟨w.heap.size, 0, none⟩ = some (V 0) := range_cell RN.out rfl
 have g2 : W1.cell? ⟨w.heap.size, 2, none⟩ = some (V 2) := range_cell RN.out rfl
 have g3 : W1.cell? ⟨w.heap.size, 3, none⟩ = some (V 3) := range_cell RN.out rfl
 have g4 : W1.cell? ⟨w.heap.size, 4, none⟩ = some (V 4) := range_cell RN.out rfl
 have g5 : W1.cell? ⟨w.heap.size, 5, none⟩ = some (V 5) := range_cell RN.out rfl
 have g7 : W1.cell? ⟨w.heap.size, 7, none⟩ = some (V 7) := range_cell RN.out rfl
 have g8 : W1.cell? ⟨w.heap.size, 8, none⟩ = some (V 8) := range_cell RN.out rfl
 have g9 : W1.cell? ⟨w.heap.size, 9, none⟩ = some (V 9) := range_cell RN.out rfl
 go_wp2_with fail
 refine (countsFit_any n1 n6 n9 W1).mono ?_
 rintro r w1 ⟨rfl, rfl⟩
 cases hc : decide ((1 ≤ (n1 : Int) ∧ (n1 : Int) ≤ 24) ∧ (1 ≤ (n6 : Int) ∧ (n6 : Int) ≤ 4) ∧ (1 ≤ (n9 : Int) ∧ (n9 : Int) ≤ 8)) with
 | false =>
  have HN := hid (show lfB p = false by rw [HB.out, hc]; rfl)
  clear hc
  go_wp2_with fail
  go_ret
  exact ⟨by rw [HN.out]; rfl, BB.out⟩
 | true =>
 rw [hc, Bool.true_and] at HB
 clear hc
 by_cases h0 : (n0 : Int) = (n1 : Int) * 16
 rotate_left
 ·have h0b : ((n0 : Int) != (n1 : Int) * 16) = true := by simpa using h0
  have HN := hid (show lfB p = false by rw [HB.out, show ((n0 : Int) == (n1 : Int) * 16) = false by simpa using h0]; rfl)
  clear h0
  go_wp2_with fail
  go_ret
  exact ⟨by rw [HN.out]; rfl, BB.out⟩
 have h0b : ((n0 : Int) != (n1 : Int) * 16) = false := by simpa using h0
 by_cases h2 : (n2 : Int) = (n1 : Int) * 16
 rotate_left
 ·have h2b : ((n2 : Int) != (n1 : Int) * 16) = true := by simpa using h2
  have HN := hid (show lfB p = false by rw [HB.out, show ((n2 : Int) == (n1 : Int) * 16) = false by simpa using h2]; simp)
  clear h0 h2
  go_wp2_with fail
  go_ret
  exact ⟨by rw [HN.out]; rfl, BB.out⟩
 have h2b : ((n2 : Int) != (n1 : Int) * 16) = false := by simpa using h2
 rw [show ((n0 : Int) == (n1 : Int) * 16) = true by simpa using h0, show ((n2 : Int) == (n1 : Int) * 16) = true by simpa using h2, Bool.true_and, Bool.true_and] at HB
 clear h0 h2
 by_cases h3 : (n3 : Int) = (n1 : Int)
 rotate_left
 ·have h3b : ((n3 : Int) != (n1 : Int)) = true := by simpa using h3
  have HN := hid (show lfB p = false by rw [HB.out, show ((n3 : Int) == (n1 : Int)) = false by simpa using h3]; simp)
  clear h3
  go_wp2_with fail
  go_ret
  exact ⟨by rw [HN.out]; rfl, BB.out⟩
 have h3b : ((n3 : Int) != (n1 : Int)) = false := by simpa using h3
 by_cases h4 : (n4 : Int) = (n1 : Int)
 rotate_left
 ·have h4b : ((n4 : Int) != (n1 : Int)) = true := by simpa using h4
  have HN := hid (show lfB p = false by rw [HB.out, show ((n4 : Int) == (n1 : Int)) = false by simpa using h4]; simp)
  clear h3 h4
  go_wp2_with fail
  go_ret
  exact ⟨by rw [HN.out]; rfl, BB.out⟩
 have h4b : ((n4 : Int) != (n1 : Int)) = false := by simpa using h4
 by_cases h5 : (n5 : Int) = (n1 : Int)
 rotate_left
 ·have h5b : ((n5 : Int) != (n1 : Int)) = true := by simpa using h5
  have HN := hid (show lfB p = false by rw [HB.out, show ((n5 : Int) == (n1 : Int)) = false by simpa using h5]; simp)
  clear h3 h4 h5
  go_wp2_with fail
  go_ret
  exact ⟨by rw [HN.out]; rfl, BB.out⟩
 have h5b : ((n5 : Int) != (n1 : Int)) = false := by simpa using h5
 rw [show ((n3 : Int) == (n1 : Int)) = true by simpa using h3, show ((n4 : Int) == (n1 : Int)) = true by simpa using h4, show ((n5 : Int) == (n1 : Int)) = true by simpa using h5, Bool.true_and, Bool.true_and] at HB
 clear h3 h4 h5
 by_cases h7 : (n7 : Int) = (n6 : Int) * 4
 ·have h7b : ((n7 : Int) == (n6 : Int) * 4) = true := by simpa using h7
  have HN := hid (show lfB p = ((n8 : Int) == (n6 : Int)) by rw [HB.out, h7b]; rfl)
  clear h7
  go_wp2_with fail
  go_ret
  exact ⟨by rw [HN.out]; rfl, BB.out⟩
 ·have h7b : ((n7 : Int) == (n6 : Int) * 4) = false := by simpa using h7
  have HN := hid (show lfB p = false by rw [HB.out, h7b]; rfl)
  clear h7
  go_wp2_with fail
  go_ret
  exact ⟨by rw [HN.out]; rfl, BB.out⟩
theorem any_next {α : Type} (P : α → Bool) {l : List α} {k : Nat} (h : k < l.length) : (l.take (k + 1)).any P = ((l.take k).any P || P l[k]) := by
 rw [List.take_succ_eq_append_getElem h, List.any_append]
 simp only [List.any_cons, List.any_nil, Bool.or_false]
/-- Is the frame in the clay of this slot; is it there not used yet; is it what the slot's key opens? -/
def clI (n : Int) (s : Nat → Int) : Bool := s 0 == 1 && decide (s 1 ≤ n ∧ n ≤ s 1 + s 2 - 1)
def cl (n : Int) (s : Nat → Int) : Nat := if clI n s then 1 else 0
def un (n : Int) (s : Nat → Int) : Bool := clI n s && decide (s 1 + s 3 ≤ n)
def opn (n : Int) (s : Nat → Int) : Bool := s 0 != 0 && s 0 != 1 && s 1 == n
theorem cl_le (n : Int) (s : Nat → Int) : cl n s ≤ 1 := by unfold cl; split <;> omega
def bfB (p : PW) (n kind : Int) : Bool := decide (1 < sumOf (cl n) p.slots) || (kind != 0 && (!(p.slots.any (opn n)) || p.slots.any (un n)))
/-- A slot's key is not great. -/
structure KB (s : Nat → Int) : Prop where
 b0 : 0 ≤ s 1
 b1 : s 1 ≤ 100
 l0 : 0 ≤ s 2
 l1 : s 2 ≤ 100
 m0 : 0 ≤ s 3
 m1 : s 3 ≤ 100
 l2 : s 0 ≠ 0 → 1 ≤ s 2
/-- Where the looking at slots has come to. -/
structure Fr (p : PW) (n : Int) (k c : Nat) (o u : Bool) : Prop where
 c : c = sumOf (cl n) (p.slots.take k)
 o : o = (p.slots.take k).any (opn n)
 u : u = (p.slots.take k).any (un n)
theorem Fr.next {p : PW} {n : Int} {k c : Nat} {o u : Bool} (h : Fr p n k c o u) (hk : k < p.slots.length) : Fr p n (k + 1) (c + cl n p.slots[k]) (o || opn n p.slots[k]) (u || un n p.slots[k]) :=
 ⟨by rw [sum_next _ hk, ← h.c], by rw [any_next _ hk, ← h.o], by rw [any_next _ hk, ← h.u]⟩
theorem Fr.all {p : PW} {n kind : Int} {c : Nat} {o u : Bool} (h : Fr p n p.slots.length c o u) : bfB p n kind = (decide (1 < c) || (kind != 0 && (!o || u))) := by
 rw [h.c, h.o, h.u, List.take_length]
 rfl
set_option maxRecDepth 100000 in
set_option maxHeartbeats 2000000 in
theorem badFrame_any (vb : Nat) (V : Nat → Value) (p : PW) (n : Nat) (kind : Int) (w : World) (hv : ViewAt w vb V p) (hb : ∀ s ∈ p.slots, KB s) :
  Calls Tryz.prog 50 #[.pointer (some ⟨vb, 0, none⟩), .int .i64 n, .int .i64 kind] w fun r w' => r = .returned (.bool (bfB p n kind)) ∧ Below w.heap.size w w' := by
 have C2 := hid (show ∀ W, Below w.heap.size w W → W.cell? ⟨vb, 2, none⟩ = some (V 2) from fun W hb => range_cell (hv.below hb).r rfl)
 obtain ⟨q, b, off, cap, e2, hq, hz⟩ := hv.v.slots
 rw [e2] at C2
 have hl : (p.slots.length : Int) ≤ 1000 := by have := hv.f.slots; omega
 have HQ := hid hq
 have HZ := hid hz
 have HB := hid hb
 have c2 := C2.out w (Below.refl _ _)
 clear hv hq hz hb e2
 go_enter Tryz.func50, Tryz.ntmps50
 go_wp2_with fail
 clear c2
 go_loopw [7, 8, 9, 18] (fun t7 t8 t9 i wr => ∃ (k c : Nat) (o u : Bool), k ≤ p.slots.length ∧ i = .int .i64 k ∧ t7 = .int .i64 c ∧ t8 = .bool o ∧ t9 = .bool u ∧ Hid (Fr p n k c o u) ∧ Hid (Below w.heap.size w wr)) (fun _ _ _ i _ => p.slots.length - (intOf i).toNat)
 case atStart => exact ⟨0, 0, false, false, by omega, rfl, rfl, rfl, rfl, hid ⟨rfl, rfl, rfl⟩, hid (Below.refl _ _)⟩
 case round =>
  obtain ⟨k, c, o, u, hk, rfl, rfl, rfl, rfl, HE, HW⟩ := hrel
  by_cases hlt : k < p.slots.length
  ·have hlt2 : (k : Int) < (p.slots.length : Int) := by omega
   have hqe := HQ.out (by omega)
   subst hqe
   have c2 := C2.out wr HW.out
   have RZ := hid (range_belowO (HZ.out k hlt) HW.out)
   have c0 := range_at RZ.out (cf_at 7 _ 0 (by omega))
   rw [Nat.add_zero] at c0
   have c1 := range_at RZ.out (cf_at 7 _ 1 (by omega))
   have c3 := range_at RZ.out (cf_at 7 _ 2 (by omega))
   have c4 := range_at RZ.out (cf_at 7 _ 3 (by omega))
   have hc : (c : Int) ≤ 1000 := by
    have := sum_take (cl n) 1 k p.slots fun s _ => cl_le n s
    have := HE.out.c
    omega
   obtain ⟨b0, b1, l0, l1, m0, m1, l2⟩ := HB.out _ (List.getElem_mem hlt)
   have HN := hid (HE.out.next hlt)
   clear RZ
   generalize hs : p.slots[k] = s at *
   clear hs
   by_cases h0 : s 0 = 0
   ·have HM := hid (show Fr p n (k + 1) c o u by
     have := HN.out
     unfold cl un clI opn at this
     rw [h0] at this
     simpa using this)
    rw [h0] at c0
    clear h0 HN l2
    go_wp2_with fail
    exact ⟨⟨k + 1, c, o, u, by omega, by go_num, rfl, rfl, rfl, HM, HW⟩, by simp [intOf]; omega⟩
   have l3 := l2 h0
   clear l2
   by_cases h1 : s 0 = 1
   ·have hw1 : IntKind.i64.wrap (s 1 + s 2) = s 1 + s 2 := wraps_i64 _ (by omega) (by omega)
    have hw2 : IntKind.i64.wrap (s 1 + s 2 - 1) = s 1 + s 2 - 1 := wraps_i64 _ (by clear hw1; omega) (by clear hw1; omega)
    have hw3 : IntKind.i64.wrap (s 1 + s 3) = s 1 + s 3 := wraps_i64 _ (by clear hw1 hw2; omega) (by clear hw1 hw2; omega)
    have HM := hid (show Fr p n (k + 1) (c + (if decide (s 1 ≤ n ∧ n ≤ s 1 + s 2 - 1) = true then 1 else 0)) o (u || (decide (s 1 ≤ n ∧ n ≤ s 1 + s 2 - 1) && decide (s 1 + s 3 ≤ n))) by
     have := HN.out
     unfold cl un clI opn at this
     rw [h1] at this
     simpa using this)
    rw [h1] at c0
    clear h0 h1 HN
    generalize s 1 = s1 at *
    generalize s 2 = s2 at *
    generalize s 3 = s3 at *
    go_wp2_with fail
    go_quiet (first | (go_at_call 43; refine Calls.quiet_of_same ((within_any _ _ _ _).mono fun _ _ h => ⟨h.1, h.2.symm⟩)))
    have BB := hid (below_drewN HW.out nq)
    have d1 := (below_drewN (Below.refl wr.heap.size wr) nq).cell (World.block_lt_of_cell? _ _ c1) |>.trans c1
    have d4 := (below_drewN (Below.refl wr.heap.size wr) nq).cell (World.block_lt_of_cell? _ _ c4) |>.trans c4
    generalize World.drewN _ _ = W3 at BB d1 d4 ⊢
    clear c0 c1 c2 c3 c4 hw1 hw2
    by_cases hin : s1 ≤ (n : Int) ∧ (n : Int) ≤ s1 + s2 - 1
    ·rw [decide_eq_true hin] at HM ⊢
     rw [if_pos rfl, Bool.true_and] at HM
     cases u with
     | true =>
      go_wp2_with fail
      go_quiet (fail)
      have BC := hid (below_drewN BB.out nq)
      generalize World.drewN _ _ = W4 at BC ⊢
      go_wp2_with fail
      exact ⟨⟨k + 1, c + 1, o, true, by omega, by go_num, by go_num, rfl, rfl, HM, BC⟩, by simp [intOf]; omega⟩
     | false =>
      go_wp2_with fail
      go_quiet (fail)
      have BC := hid (below_drewN BB.out nq)
      generalize World.drewN _ _ = W4 at BC ⊢
      go_wp2_with fail
      exact ⟨⟨k + 1, c + 1, o, decide (s1 + s3 ≤ (n : Int)), by omega, by go_num, by go_num, rfl, rfl, HM, BC⟩, by simp [intOf]; omega⟩
    ·rw [decide_eq_false hin] at HM ⊢
     rw [if_neg (by decide), Bool.false_and, Bool.or_false] at HM
     go_wp2_with fail
     exact ⟨⟨k + 1, c, o, u, by omega, by go_num, rfl, rfl, rfl, HM, BB⟩, by simp [intOf]; omega⟩
   ·have h0b : (s 0 == 0) = false := by simpa using h0
    have h1b : (s 0 == 1) = false := by simpa using h1
    have HM := hid (show Fr p n (k + 1) c (o || s 1 == (n : Int)) u by
     have := HN.out
     unfold cl un clI opn at this
     rw [h1b, show (s 0 != 0) = true by simpa using h0, show (s 0 != 1) = true by simpa using h1] at this
     simpa using this)
    clear HN
    generalize s 0 = s0 at *
    generalize s 1 = s1 at *
    cases o with
    | true =>
     go_wp2_with fail
     exact ⟨⟨k + 1, c, true, u, by omega, by go_num, rfl, rfl, rfl, HM, HW⟩, by simp [intOf]; omega⟩
    | false =>
     go_wp2_with fail
     exact ⟨⟨k + 1, c, s1 == (n : Int), u, by omega, by go_num, rfl, rfl, rfl, HM, HW⟩, by simp [intOf]; omega⟩
  ·obtain rfl : k = p.slots.length := by omega
   have hge : ¬ ((p.slots.length : Int) < (p.slots.length : Int)) := by omega
   have HF := hid (HE.out.all (kind := kind))
   by_cases h1 : 1 < c
   ·have h2 : (1 : Int) < (c : Int) := by omega
    go_wp2_with fail
    go_ret
    exact ⟨by rw [HF.out, decide_eq_true h1]; rfl, HW.out⟩
   ·have h2 : ¬ (1 : Int) < (c : Int) := by omega
    by_cases h3 : kind = 0
    ·subst h3
     go_wp2_with fail
     go_ret
     exact ⟨by rw [HF.out, decide_eq_false h1]; rfl, HW.out⟩
    ·have h4 : (kind != 0) = true := by simpa using h3
     cases o <;>
     ·go_wp2_with fail
      go_ret
      exact ⟨by rw [HF.out, decide_eq_false h1, h4]; rfl, HW.out⟩
end Go.Proofs.YtkocmkaeaagbaaaGreatDoor.Wd
