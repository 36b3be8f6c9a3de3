/- Small parts of new worlds: a task that is none, ranges, the first domain that is none, copies of numbers. -/
import Derived.Test.YtfpkbfhaipgibaaDoorWdRepeat
import Derived.Test.YtfpkbfhaipgibaaDoorMmuClone
import Derived.Test.YtfpkbfhaipgibaaDoorRefIsa
namespace Go.Proofs.YtfpkbfhaipgibaaDoor.Wd
open Go.RowKit Go.Proofs.YtfpkbfhaipgibaaDoor.Mem Go.Proofs.YtfpkbfhaipgibaaDoor.Bw Go.Proofs.YtfpkbfhaipgibaaDoor.Nums Go.Proofs.YtfpkbfhaipgibaaDoor.Mmu

/-- A task that is none. -/
def bl (k : Nat) : Int := [0, 0, 0, 0, 0, 0, 0, 0, 0, 0, 0, -1, -1, -1, -1, 0, 0, -1, 0, 0].getD k 0
theorem blank_ref (w : World) : Calls Tryd.prog 56 #[] w fun e w' => e = .returned (.agg (cf 20 bl).toArray) ∧ Below w.heap.size w w' := by
  have R0 := hid (there_new w #[.int .i64 0, .int .i64 0, .int .i64 0, .int .i64 0, .int .i64 0, .int .i64 0, .int .i64 0, .int .i64 0, .int .i64 0, .int .i64 0, .int .i64 0, .int .i64 0, .int .i64 0, .int .i64 0, .int .i64 0, .int .i64 0, .int .i64 0, .int .i64 0, .int .i64 0, .int .i64 0] 118 w.heap.size 20 rfl (by decide))
  go_enter Tryd.func56, Tryd.ntmps56
  go_wp2_with (first
    | ((with_reducible (show wpList _ _ _ (⟨_, Op.store 118 _ _, _, _, _, _⟩ :: _) _ _)); refine wp_st rfl _ _ rfl _ rfl (cf 20 bl) rfl (cf_len _ _) (cf_one _ _) R0.out ?_; have E := hid (World.rangeAt_setCells_same _ w.heap.size 0 (cf 20 bl) (by rw [cf_len]; exact R0.out)); have K9 := hid (below_setCells (bal (Below.refl w.heap.size w) (.cells #[.int .i64 0, .int .i64 0, .int .i64 0, .int .i64 0, .int .i64 0, .int .i64 0, .int .i64 0, .int .i64 0, .int .i64 0, .int .i64 0, .int .i64 0, .int .i64 0, .int .i64 0, .int .i64 0, .int .i64 0, .int .i64 0, .int .i64 0, .int .i64 0, .int .i64 0, .int .i64 0] 118)) (Nat.le_refl _) (cf 20 bl) 0)))
  refine bodyPost_ret (v := .agg (cf 20 bl).toArray) (results_c1 rfl rfl (run_ld _ _ (cf 20 bl) E.out (cf_len _ _))) rfl ⟨rfl, K9.out⟩
theorem blank_own (w : World) : Calls Tryd.prog 63 #[] w fun e w' => e = .returned (.agg (cf 20 bl).toArray) ∧ Below w.heap.size w w' := by
  have R0 := hid (there_new w #[.int .i64 0, .int .i64 0, .int .i64 0, .int .i64 0, .int .i64 0, .int .i64 0, .int .i64 0, .int .i64 0, .int .i64 0, .int .i64 0, .int .i64 0, .int .i64 0, .int .i64 0, .int .i64 0, .int .i64 0, .int .i64 0, .int .i64 0, .int .i64 0, .int .i64 0, .int .i64 0] 118 w.heap.size 20 rfl (by decide))
  go_enter Tryd.func63, Tryd.ntmps63
  go_wp2_with (first
    | ((with_reducible (show wpList _ _ _ (⟨_, Op.store 118 _ _, _, _, _, _⟩ :: _) _ _)); refine wp_st rfl _ _ rfl _ rfl (cf 20 bl) rfl (cf_len _ _) (cf_one _ _) R0.out ?_; have E := hid (World.rangeAt_setCells_same _ w.heap.size 0 (cf 20 bl) (by rw [cf_len]; exact R0.out)); have K9 := hid (below_setCells (bal (Below.refl w.heap.size w) (.cells #[.int .i64 0, .int .i64 0, .int .i64 0, .int .i64 0, .int .i64 0, .int .i64 0, .int .i64 0, .int .i64 0, .int .i64 0, .int .i64 0, .int .i64 0, .int .i64 0, .int .i64 0, .int .i64 0, .int .i64 0, .int .i64 0, .int .i64 0, .int .i64 0, .int .i64 0, .int .i64 0] 118)) (Nat.le_refl _) (cf 20 bl) 0)))
  refine bodyPost_ret (v := .agg (cf 20 bl).toArray) (results_c1 rfl rfl (run_ld _ _ (cf 20 bl) E.out (cf_len _ _))) rfl ⟨rfl, K9.out⟩
theorem within_any (v a b : Int) (w : World) :
    Calls Tryd.prog 87 #[.int .i64 v, .int .i64 a, .int .i64 b] w fun e w' => e = .returned (.bool (decide (a ≤ v ∧ v ≤ b))) ∧ w = w' := by
  go_enter Tryd.func87, Tryd.ntmps87
  go_wp2
  all_goals
    go_ret
    exact ⟨ret_bool (by first | rfl | (simp; done) | (rw [Bool.eq_iff_iff]; simp; omega)), rfl⟩
/-- Is it no domain? -/
def nd (z : Int) : Bool := !decide (0 ≤ z ∧ z ≤ 3)
theorem noDom_any (n v : Int) (w : World) :
    Calls Tryd.prog 59 #[.int .i64 n, .int .i64 v] w fun e w' => e = .returned (.bool (nd v)) ∧ w = w' := by
  go_enter Tryd.func59, Tryd.ntmps59
  go_wp2_with fail
  refine (within_any v 0 3 w).mono ?_
  rintro e w1 ⟨rfl, rfl⟩
  have HN := hid (show nd v = !decide (0 ≤ v ∧ v ≤ 3) from rfl)
  generalize decide (0 ≤ v ∧ v ≤ 3) = bb at HN ⊢
  go_wp2_with fail
  go_ret
  exact ⟨by rw [HN.out]; rfl, rfl⟩
set_option maxHeartbeats 1000000 in
theorem countsFit_any (f c d : Int) (w : World) :
    Calls Tryd.prog 57 #[.int .i64 f, .int .i64 c, .int .i64 d] w fun e w' => e = .returned (.bool (decide ((1 ≤ f ∧ f ≤ 24) ∧ (1 ≤ c ∧ c ≤ 4) ∧ (1 ≤ d ∧ d ≤ 8)))) ∧ w = w' := by
  by_cases h1 : 1 ≤ f ∧ f ≤ 24
  · by_cases h2 : 1 ≤ c ∧ c ≤ 4
    · go_enter Tryd.func57, Tryd.ntmps57
      go_wp2_with fail
      refine (within_any f 1 24 w).mono ?_
      rintro e w1 ⟨rfl, rfl⟩
      rw [decide_eq_true h1]
      go_wp2_with fail
      refine (within_any c 1 4 w).mono ?_
      rintro e w1 ⟨rfl, rfl⟩
      rw [decide_eq_true h2]
      go_wp2_with fail
      refine (within_any d 1 8 w).mono ?_
      rintro e w1 ⟨rfl, rfl⟩
      go_wp2_with fail
      go_ret
      exact ⟨ret_bool (by rw [Bool.eq_iff_iff]; simp; omega), rfl⟩
    · have H2 := hid h2
      clear h2
      go_enter Tryd.func57, Tryd.ntmps57
      go_wp2_with fail
      refine (within_any f 1 24 w).mono ?_
      rintro e w1 ⟨rfl, rfl⟩
      rw [decide_eq_true h1]
      go_wp2_with fail
      refine (within_any c 1 4 w).mono ?_
      rintro e w1 ⟨rfl, rfl⟩
      rw [decide_eq_false H2.out]
      go_wp2_with fail
      go_ret
      exact ⟨ret_bool (decide_eq_false (fun h => H2.out h.2.1)).symm, rfl⟩
  · have H1 := hid h1
    clear h1
    go_enter Tryd.func57, Tryd.ntmps57
    go_wp2_with fail
    refine (within_any f 1 24 w).mono ?_
    rintro e w1 ⟨rfl, rfl⟩
    rw [decide_eq_false H1.out]
    go_wp2_with fail
    go_ret
    exact ⟨ret_bool (decide_eq_false (fun h => H1.out h.1)).symm, rfl⟩
/-- What the search for a number that is no domain tells. -/
def Looked (w : World) (zs : List Int) (e : Value) : Prop :=
  (zs.findIdx nd = zs.length ∧ e = .nilIface) ∨ ∃ b, zs.findIdx nd < zs.length ∧ e = .iface 95 (.pointer (some ⟨b, 0, none⟩)) ∧ w.cell? ⟨b, 0, none⟩ = some (.int .i64 (zs.findIdx nd)) ∧ w.cell? ⟨b, 1, none⟩ = some (.iface 23 (.int .i64 2))
set_option maxHeartbeats 2000000 in
theorem look_doms (v : Value) (zs : List Int) (w : World) (hv : IntsIn w v zs) (hl : zs.length ≤ 1000) :
    Calls Tryd.prog 58 #[.nilIface, v, .func (.func 59) #[] #[], .int .i64 2] w fun r w' => ∃ e, r = .returned e ∧ Looked w' zs e ∧ Below w.heap.size w w' := by
  obtain ⟨q, b, off, cap, rfl, hq, hz⟩ := hv
  have HQ := hid hq
  have HZ := hid hz
  clear hq hz
  have hl2 : (zs.length : Int) ≤ 1000 := by omega
  go_enter Tryd.func58, Tryd.ntmps58
  go_wp2_with fail
  go_loopw [16] (fun i wr => ∃ k : Nat, k ≤ zs.length ∧ i = .int .i64 k ∧ Hid (∀ j (hj : j < zs.length), j < k → nd zs[j] = false) ∧ Hid (w = wr)) (fun i _ => zs.length - (intOf i).toNat)
  case atStart => exact ⟨0, by omega, rfl, hid fun j _ h => by omega, hid rfl⟩
  case round =>
    obtain ⟨k, hk, rfl, HE, HW⟩ := hrel
    obtain rfl := HW.out
    clear HW
    by_cases hlt : k < zs.length
    · have hlt2 : (k : Int) < (zs.length : Int) := by omega
      have hqe := HQ.out (by omega)
      subst hqe
      have c0 := HZ.out k hlt
      have HI := hid (show nd zs[k] = true → zs.findIdx nd = k from fun ht => (List.findIdx_eq hlt).2 ⟨ht, fun j hj => HE.out j (by omega) hj⟩)
      have HS := hid (show nd zs[k] = false → ∀ j (hj : j < zs.length), j < k + 1 → nd zs[j] = false from fun hf j hj hjk => by
        by_cases e : j = k
        · subst e; exact hf
        · exact HE.out j hj (by omega))
      generalize zs[k] = z at c0 HI HS
      go_wp2_with fail
      refine (noDom_any k z w).mono ?_
      rintro e w1 ⟨rfl, rfl⟩
      cases hn : nd z with
      | true =>
        have HV := hid (HI.out hn)
        go_wp2_with fail
        go_ret
        exact ⟨_, rfl, .inr ⟨w.heap.size, by rw [HV.out]; exact hlt, rfl, by rw [HV.out]; exact cells_new w #[.int .i64 k, .iface 23 (.int .i64 2)] _ 0, cells_new w #[.int .i64 k, .iface 23 (.int .i64 2)] _ 1⟩, bal (Below.refl _ _) _⟩
      | false =>
        have HN := hid (HS.out hn)
        go_wp2_with fail
        exact ⟨⟨k + 1, by omega, by go_num, HN, hid trivial⟩, by simp [intOf]; omega⟩
    · obtain rfl : k = zs.length := by omega
      have hge : ¬ ((zs.length : Int) < (zs.length : Int)) := by omega
      have HF := hid (show zs.findIdx nd = zs.length from List.findIdx_eq_length.2 fun x hx => by
        obtain ⟨j, hj, rfl⟩ := List.getElem_of_mem hx
        exact HE.out j hj hj)
      go_wp2_with fail
      go_ret
      exact ⟨_, rfl, .inl ⟨HF.out, rfl⟩, Below.refl _ _⟩
end Go.Proofs.YtfpkbfhaipgibaaDoor.Wd
