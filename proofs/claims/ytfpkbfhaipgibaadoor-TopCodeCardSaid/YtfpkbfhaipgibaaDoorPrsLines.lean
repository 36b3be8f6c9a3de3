/- isa.linesOf, keyholdref.LinesOf, walked. -/
import Derived.Test.YtfpkbfhaipgibaaDoorParsePlain
import Derived.Test.YtfpkbfhaipgibaaDoorUnhexWalk
import Derived.Test.YtfpkbfhaipgibaaDoorPrsSmall
namespace Go.Proofs.YtfpkbfhaipgibaaDoor.Prs
open Go.RowKit Go.Proofs.YtfpkbfhaipgibaaDoor.Mem Go.Proofs.YtfpkbfhaipgibaaDoor.Hex Go.Proofs.YtfpkbfhaipgibaaDoor.Txt

def linesZ (zs : List ByteArray) : List ByteArray := if zs.getLast? = some ⟨#[]⟩ then zs.dropLast else zs
theorem linesB_eq (s : ByteArray) : linesB s = linesZ (cutB 10 s) := rfl
theorem last_at {zs : List ByteArray} {L : Nat} (hL : zs.length = L + 1) : ∃ zl, zs.getLast? = some zl ∧ ∀ h : L < zs.length, zs[L] = zl := by
  have h : L < zs.length := by omega
  refine ⟨zs[L], ?_, fun _ => rfl⟩
  have e : zs.length - 1 = L := by omega
  rw [List.getLast?_eq_getElem?, e, List.getElem?_eq_getElem h]
theorem linesZ_yes {zs : List ByteArray} {zl : ByteArray} (hl : zs.getLast? = some zl) (h : zl.size = 0) : linesZ zs = zs.dropLast := by
  have e : zl = ⟨#[]⟩ := by
    apply bytes_ext
    rw [size_list] at h
    rw [List.length_eq_zero_iff.1 h]
  unfold linesZ
  rw [hl, e, if_pos rfl]
theorem linesZ_no {zs : List ByteArray} {zl : ByteArray} (hl : zs.getLast? = some zl) (h : zl.size ≠ 0) : linesZ zs = zs := by
  unfold linesZ
  rw [hl, if_neg]
  intro e
  have := Option.some.inj e
  rw [this] at h
  exact h rfl
theorem StrsAt.drop {w : World} {b : Nat} {zs : List ByteArray} (h : StrsAt w b 0 zs) : StrsAt w b 0 zs.dropLast := fun j hj => by
  have hj2 : j < zs.length := by simp at hj; omega
  rw [h j hj2]
  simp
set_option maxHeartbeats 1000000 in
theorem linesOf_any (s : ByteArray) (w : World) (hs : s.size ≤ 100000) (hM : MLok w) :
    Calls Tryd.prog 41 #[.string s] w fun e w' => ∃ b cap, e = .returned (.slice (some ⟨b, 0, none⟩) (linesB s).length cap) ∧ StrsAt w' b 0 (linesB s) ∧ Below w.heap.size w w' := by
  rw [linesB_eq]
  have HC := hid (split_cap s 10 w hs hM)
  have HNE := hid (show ∃ L, (cutB 10 s).length = L + 1 by
    have : (cutB 10 s) ≠ [] := by unfold cutB; simp [cutL_ne]
    exact ⟨(cutB 10 s).length - 1, by have := List.length_pos_iff.2 this; omega⟩)
  have HLL := hid (show (cutB 10 s).length ≤ 100001 by
    have := cutL_len 10 s.data.toList
    rw [← size_list] at this
    simp only [cutB, List.length_map]
    omega)
  clear hs hM
  generalize cutB 10 s = zs at *
  obtain ⟨L, hL⟩ := HNE.out
  have hL2 : L ≤ 100000 := by have := HLL.out; omega
  go_enter Tryd.func41, Tryd.ntmps41
  go_wp2_with fail
  refine HC.out.mono ?_
  rintro e w1 ⟨lb, lc, rfl, hS, hb, hlc⟩
  have S1 := hid hS
  have B1 := hid hb
  have hlc2 : (L : Int) + 1 ≤ (lc : Int) := by omega
  obtain ⟨zl, hzl, hzL⟩ := last_at hL
  have hLt : L < zs.length := by omega
  have cL := hS L hLt
  rw [Nat.zero_add, hzL hLt] at cL
  have HL := hid hL
  have HZL := hid hzl
  rw [hL]
  clear hS hb HC hlc HNE HLL hL hzl hzL hLt
  by_cases hz : zl.size = 0
  · have HZ := hid (linesZ_yes HZL.out hz)
    have he := is_empty hz
    clear hz
    go_wp2_with fail
    go_ret
    refine ⟨lb, lc, ?_, ?_, B1.out⟩
    · rw [HZ.out, List.length_dropLast, HL.out]; rfl
    · rw [HZ.out]; exact StrsAt.drop S1.out
  · have HZ := hid (linesZ_no HZL.out hz)
    have he := not_empty' hz
    clear hz
    go_wp2_with fail
    go_ret
    refine ⟨lb, lc, ?_, ?_, B1.out⟩
    · rw [HZ.out, HL.out]; rfl
    · rw [HZ.out]; exact S1.out
set_option maxHeartbeats 1000000 in
theorem refLines_any (s : ByteArray) (w : World) (hs : s.size ≤ 100000) :
    Calls Tryd.prog 36 #[.string s] w fun e w' => ∃ b cap, e = .returned (.slice (some ⟨b, 0, none⟩) (linesB s).length cap) ∧ StrsAt w' b 0 (linesB s) ∧ Below w.heap.size w w' := by
  rw [linesB_eq]
  have HC := hid (cut_cap s 10 w hs)
  have HNE := hid (show ∃ L, (cutB 10 s).length = L + 1 by
    have : (cutB 10 s) ≠ [] := by unfold cutB; simp [cutL_ne]
    exact ⟨(cutB 10 s).length - 1, by have := List.length_pos_iff.2 this; omega⟩)
  have HLL := hid (show (cutB 10 s).length ≤ 100001 by
    have := cutL_len 10 s.data.toList
    rw [← size_list] at this
    simp only [cutB, List.length_map]
    omega)
  clear hs
  generalize cutB 10 s = zs at *
  obtain ⟨L, hL⟩ := HNE.out
  have hL2 : L ≤ 100000 := by have := HLL.out; omega
  go_enter Tryd.func36, Tryd.ntmps36
  go_wp2_with fail
  refine HC.out.mono ?_
  rintro e w1 ⟨lb, lc, rfl, hS, hb, hlc⟩
  have S1 := hid hS
  have B1 := hid hb
  have hlc2 : (L : Int) + 1 ≤ (lc : Int) := by omega
  obtain ⟨zl, hzl, hzL⟩ := last_at hL
  have hLt : L < zs.length := by omega
  have cL := hS L hLt
  rw [Nat.zero_add, hzL hLt] at cL
  have HL := hid hL
  have HZL := hid hzl
  rw [hL]
  clear hS hb HC hlc HNE HLL hL hzl hzL hLt
  by_cases hz : zl.size = 0
  · have HZ := hid (linesZ_yes HZL.out hz)
    have he := is_empty hz
    clear hz
    go_wp2_with fail
    go_ret
    refine ⟨lb, lc, ?_, ?_, B1.out⟩
    · rw [HZ.out, List.length_dropLast, HL.out]; rfl
    · rw [HZ.out]; exact StrsAt.drop S1.out
  · have HZ := hid (linesZ_no HZL.out hz)
    have he := not_empty' hz
    clear hz
    go_wp2_with fail
    go_ret
    refine ⟨lb, lc, ?_, ?_, B1.out⟩
    · rw [HZ.out, HL.out]; rfl
    · rw [HZ.out]; exact S1.out
end Go.Proofs.YtfpkbfhaipgibaaDoor.Prs
