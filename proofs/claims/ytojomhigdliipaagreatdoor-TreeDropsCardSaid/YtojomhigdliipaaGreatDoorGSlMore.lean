/- The rest of GSl: what few laws reach. -/
import Derived.Test.YtojomhigdliipaaGreatDoorGSl
namespace Go.Proofs.YtojomhigdliipaaGreatDoor.Wd
open Go.RowKit Go.Proofs.YtojomhigdliipaaGreatDoor.Mem Go.Proofs.YtojomhigdliipaaGreatDoor.Bw Go.Proofs.YtojomhigdliipaaGreatDoor.Nums Go.Proofs.YtojomhigdliipaaGreatDoor.Mmu
theorem snd_op {p : PW} (h : Snd p) {k : Nat} (hk : k < p.slots.length) (h0 : p.slots[k] 0 ≠ 0) : opB p p.slots[k] = true := by
 have h1 : bsB p (p.kinds.getD (k / 16) 0) p.slots[k] = false := h.b3 k hk
 generalize p.slots[k] = s at h0 h1 ⊢
 unfold bsB at h1
 rw [show zkB s = false from decide_eq_false fun hz => h0 hz.1, if_neg (by decide)] at h1
 simp only [Bool.not_eq_false', Bool.and_eq_true] at h1
 exact h1.1.1.2
theorem snd_kb {p : PW} (h : Snd p) : ∀ s ∈ p.slots, KB s := kb_of (g := fun k => p.kinds.getD (k / 16) 0) h.b3
/-- The slot at an address, and the error. -/
def sAt (p : PW) (n a : Int) : Int × Int :=
 if isB p n 5 then (if within 0 255 a then (if a < 16 then (n * 16 + a, 0) else
  if (p.slots.getD (n * 16 + a / 16).toNat (fun _ => 0)) 0 = 5 then ((p.slots.getD (n * 16 + a / 16).toNat (fun _ => 0)) 1 * 16 + a % 16, 0) else (0, 3)) else (0, 2)) else (0, 3)
/-- The key at an address, and the error. -/
def nkey : Nat → Int := fun _ => 0
def fA (p : PW) (n a : Int) : Int × Int := if sndB p then sAt p n a else (0, 8)
set_option maxRecDepth 100000 in
set_option maxHeartbeats 4000000 in
theorem find_any (V : Nat → Value) (p : PW) (n a : Int) (w : World) (hv : WorldV w V p) (hp : p.Fits) :
  Calls Tryz.prog 16 #[.agg (arr11 V), .int .i64 n, .int .i64 a] w fun r w' => r = .returned (.tuple #[.int .i64 (fA p n a).1, eV (fA p n a).2]) ∧ Below w.heap.size w w' := by
 have RGc := hid (boxed w V 28)
 have B0 := hid (bal (Below.refl w.heap.size w) (.cells (arr11 V) 28))
 have HC := hid (check_any V p (w.alloc (.cells (arr11 V) 28)) (hv.below B0.out) hp)
 have HVW := hid (fun W (hb : Below (w.alloc (.cells (arr11 V) 28)).heap.size (w.alloc (.cells (arr11 V) 28)) W) => (⟨range_below RGc.out hb, hv.below (btr B0.out hb), hp⟩ : ViewAt W w.heap.size V p))
 cases hs : sndB p with
 | false =>
  have HN := hid (show fA p n a = (0, 8) by unfold fA; rw [hs]; rfl)
  have HS := hid hs
  clear hv hp hs HVW
  go_enter Tryz.func16, Tryz.ntmps16
  go_wp2_with (first | ((with_reducible (show wpList _ _ _ (⟨_, Op.load 28 _, _, _, _, _⟩ :: _) _ _)); refine wp_ldWg (by rfl) _ rfl _ rfl V RGc.out ?_))
  refine HC.out.mono ?_
  rintro r w1 ⟨x, rfl, hc, hb⟩
  have BB := hid (btr B0.out hb)
  have HX := hid (chk_not3 hc HS.out)
  clear hb hc HC RGc
  rcases HX.out with ⟨e, rfl⟩ | ⟨b, rfl⟩
  ·clear HX
   go_wp2_with fail
   go_ret2
   exact ⟨by rw [HN.out]; rfl, BB.out⟩
  ·clear HX
   go_wp2_with fail
   go_ret2
   exact ⟨by rw [HN.out]; rfl, BB.out⟩
 | true =>
  have HF := hid (show fA p n a = sAt p n a by unfold fA; rw [hs]; rfl)
  have HS := hid (snd_of hs)
  obtain ⟨q2, b2, off2, cap2, e2, hq2, hz2⟩ := hv.slots
  have hl2 : (p.slots.length : Int) ≤ 1000 := by have := hp.slots; omega
  have hl1 : (p.kinds.length : Int) ≤ 1000 := by have := hp.kinds; omega
  have HSL := hid HS.out.lf.slots
  obtain rfl := hq2 (by have := HS.out.lf.slots; have := HS.out.lf.k1; omega)
  have HZ2 := hid hz2
  have HSB := hid hs
  clear hv hp hq2 hz2 hs
  go_enter Tryz.func16, Tryz.ntmps16
  go_wp2_with (first | ((with_reducible (show wpList _ _ _ (⟨_, Op.load 28 _, _, _, _, _⟩ :: _) _ _)); refine wp_ldWg (by rfl) _ rfl _ rfl V RGc.out ?_))
  refine HC.out.mono ?_
  rintro r w1 ⟨x, rfl, hc, hb⟩
  have BB := hid (btr B0.out hb)
  obtain rfl := chk_nil hc HSB.out
  have HVV := hid (HVW.out w1 hb)
  have g2 : w1.cell? ⟨w.heap.size, 2, none⟩ = some (V 2) := range_cell HVV.out.r rfl
  clear hb hc HC RGc HVW
  go_wp2_with fail
  refine (pis_any w.heap.size V p n 5 w1 HVV.out).mono ?_
  rintro r w2 ⟨rfl, rfl⟩
  cases hi : isB p n 5 with
  | false =>
   have HN := hid (show fA p n a = (0, 3) by rw [HF.out]; unfold sAt; rw [hi]; rfl)
   clear hi
   go_wp2_with fail
   go_ret2
   exact ⟨by rw [HN.out]; rfl, BB.out⟩
  | true =>
  obtain ⟨j, rfl, hj⟩ := isB_in hi
  have HI := hid hi
  have hj2 : (j : Int) < (p.kinds.length : Int) := by omega
  clear hi
  go_wp2_with fail
  refine (withinB a 0 255 _).mono ?_
  rintro r w2 ⟨rfl, rfl⟩
  cases hw : within 0 255 a with
  | false =>
   have HN := hid (show fA p j a = (0, 2) by rw [HF.out]; unfold sAt; rw [HI.out, hw]; rfl)
   clear hw
   go_wp2_with fail
   go_ret2
   exact ⟨by rw [HN.out]; rfl, BB.out⟩
  | true =>
   have hwb := of_decide_eq_true hw
   obtain ⟨m, rfl⟩ : ∃ m : Nat, a = m := ⟨a.toNat, by omega⟩
   have hm : (m : Int) ≤ 255 := hwb.2
   have HW := hid hw
   clear hw hwb
   by_cases h16 : (m : Int) < 16
   ·have HN := hid (show fA p j m = ((j : Int) * 16 + m, 0) by rw [HF.out]; unfold sAt; rw [HI.out, HW.out, if_pos rfl, if_pos rfl, if_pos h16])
    go_wp2_with fail
    go_ret2
    exact ⟨by rw [HN.out]; rfl, BB.out⟩
   ·have hx : j * 16 + m / 16 < p.slots.length := by have := HSL.out; omega
    have hx2 : ((j : Int) * 16 + (m : Int) / 16) = ((j * 16 + m / 16 : Nat) : Int) := by omega
    have RZ := range_belowO (HZ2.out (j * 16 + m / 16) hx) BB.out
    have HN := hid (show fA p j m = if p.slots[j * 16 + m / 16] 0 = 5 then (p.slots[j * 16 + m / 16] 1 * 16 + (m : Int) % 16, 0) else (0, 3) by
     rw [HF.out]
     unfold sAt
     rw [HI.out, HW.out, if_pos rfl, if_pos rfl, if_neg h16, hx2, Int.toNat_natCast, List.getD_eq_getElem?_getD, List.getElem?_eq_getElem hx]
     rfl)
    have HB := hid (show KB p.slots[j * 16 + m / 16] from snd_kb HS.out _ (List.getElem_mem hx))
    generalize hy : j * 16 + m / 16 = y at *
    have hy2 : (y : Int) < (p.slots.length : Int) := by omega
    have x0 := range_at0 RZ (cf_at 7 _ 0 (by omega))
    have x1 := range_at RZ (cf_at 7 _ 1 (by omega))
    have x2 := range_at RZ (cf_at 7 _ 2 (by omega))
    have x3 := range_at RZ (cf_at 7 _ 3 (by omega))
    have x4 := range_at RZ (cf_at 7 _ 4 (by omega))
    have x5 := range_at RZ (cf_at 7 _ 5 (by omega))
    generalize p.slots[y] = s at *
    have hb0 := HB.out.b0
    have hb1 := HB.out.b1
    have BC := hid (bal BB.out (.cells #[.int .i64 (s 0), .int .i64 (s 1), .int .i64 (s 2), .int .i64 (s 3), .int .i64 (s 4), .int .i64 (s 5)] 40))
    clear RZ hx HB
    by_cases h5 : s 0 = 5
    ·have h5b : (s 0 != 5) = false := by simpa using h5
     rw [if_pos h5] at HN
     clear h5
     go_wp2_with fail
     go_ret2
     exact ⟨by rw [HN.out]; rfl, BC.out⟩
    ·have h5b : (s 0 != 5) = true := by simpa using h5
     rw [if_neg h5] at HN
     clear h5
     go_wp2_with fail
     go_ret2
     exact ⟨by rw [HN.out]; rfl, BC.out⟩
end Go.Proofs.YtojomhigdliipaaGreatDoor.Wd
