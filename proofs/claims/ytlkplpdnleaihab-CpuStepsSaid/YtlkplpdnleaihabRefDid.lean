/- keyholdref.Did over the flat memory: it answers as cpu.Step does. -/
import Derived.Test.YtlkplpdnleaihabCpuAny
import Derived.Test.YtlkplpdnleaihabRefDidFail
import Derived.Test.YtlkplpdnleaihabRefDidAlu
import Derived.Test.YtlkplpdnleaihabRefDidLess
import Derived.Test.YtlkplpdnleaihabRefDidBits
import Derived.Test.YtlkplpdnleaihabRefDidLoad
import Derived.Test.YtlkplpdnleaihabRefDidStore
import Derived.Test.YtlkplpdnleaihabRefDidJump
import Derived.Test.YtlkplpdnleaihabRefDidRest
namespace Go.Proofs.Ytlkplpdnleaihab.Cpu
open Go.RowKit Go.Proofs.Ytlkplpdnleaihab.Mem Go.Proofs.Ytlkplpdnleaihab.Bw Go.Proofs.Ytlkplpdnleaihab.Nums

theorem upd_same {g : Nat → Int} {k : Nat} {v : Int} (h : g k = v) : upd g k v = g := by
  funext j
  unfold upd
  split
  · rename_i e; rw [e, h]
  · rfl
theorem upd_at {g : Nat → Int} {k j : Nat} {v : Int} (h : j ≠ k) : upd g k v j = g j := by
  unfold upd
  rw [if_neg h]
theorem dI_mod {y : Int} (h0 : 0 ≤ y) (h1 : y ≤ 65535) : IP.dI y % 65536 = y := by
  unfold IP.dI
  split <;> omega
theorem dI_add {y b : Int} : (b + IP.dI y) % 65536 = (b + y) % 65536 := by
  unfold IP.dI
  split <;> omega
/-- What Did says of the flat memory at p. -/
def DidSays (p b cap : Nat) (q : Option Addr) (low : Int) (f : Nat → Int) (w : World) (R : (Nat → Int) × Int × Int × List Int) : Prop :=
    Calls Try.prog 8 #[.agg (tc f).toArray, .func (.func 9) #[.pointer (some ⟨p, 0, none⟩)] #[], .func (.func 10) #[.pointer (some ⟨p, 0, none⟩)] #[]] w
      fun e w' => e = .returned (retV R.1 R.2.1 R.2.2.1) ∧ Kp (· = b) w w' ∧ FlatAt w' p q b cap R.2.2.2 low
theorem did_do (p b cap : Nat) (q : Option Addr) (zs : List Int) (low : Int) (f : Nat → Int) (w : World) (hF : FlatAt w p q b cap zs low) (hbl : b < w.heap.size) (hf : ∀ k, k < 9 → 0 ≤ f k ∧ f k < 65536)
    (HOK : okL zs (f 8) = true) (HOK1 : okL zs (pc1 f) = true) (hw : IP.word (ldL zs (f 8)) (ldL zs (pc1 f))) (hm : isIns (ldL zs (f 8)) (ldL zs (pc1 f))) :
    DidSays p b cap q low f w (doR (flatBus p b cap q low) zs f (ldL zs (f 8) / 256) (ldL zs (f 8) / 16 % 16).toNat (ldL zs (f 8) % 16).toNat (IP.dI (ldL zs (pc1 f)))) := by
  obtain ⟨o0, o1, a0, a1, b0, b1, i0, i1⟩ := IP.may_zero hm
  have HM : (IP.may (ldL zs (f 8) / 256) (ldL zs (f 8) / 16 % 16) (ldL zs (f 8) % 16) (IP.dI (ldL zs (pc1 f))) == 0) = true := beq_iff_eq.2 hm
  have hA : ldL zs (f 8) / 16 % 16 = (((ldL zs (f 8) / 16 % 16).toNat : Nat) : Int) := by omega
  have hB : ldL zs (f 8) % 16 = (((ldL zs (f 8) % 16).toNat : Nat) : Int) := by omega
  have bA : (ldL zs (f 8) / 16 % 16).toNat < 8 := by omega
  have bB : (ldL zs (f 8) % 16).toNat < 8 := by omega
  have hw' := hw
  obtain ⟨_, _, y0, y1⟩ := hw'
  have eI := dI_mod y0 y1
  have eA := fun v => dI_add (y := ldL zs (pc1 f)) (b := v)
  have fA := hf (ldL zs (f 8) / 16 % 16).toNat (by omega)
  have fB := hf (ldL zs (f 8) % 16).toNat (by omega)
  have wk : ∀ {R : (Nat → Int) × Int × Int × List Int}, (Calls Try.prog 8 #[.agg (tc f).toArray, .func (.func 9) #[.pointer (some ⟨p, 0, none⟩)] #[], .func (.func 10) #[.pointer (some ⟨p, 0, none⟩)] #[]] w
      fun e w' => e = .returned (retV R.1 R.2.1 R.2.2.1) ∧ Kp (fun _ => False) w w' ∧ FlatAt w' p q b cap R.2.2.2 low) → DidSays p b cap q low f w R := fun h => h.mono fun _ _ ⟨h1, h2, h3⟩ => ⟨h1, h2.wider (fun _ _ h => h.elim), h3⟩
  generalize hAn : (ldL zs (f 8) / 16 % 16).toNat = A at *
  generalize hBn : (ldL zs (f 8) % 16).toNat = B at *
  generalize ho : ldL zs (f 8) / 256 = o at o0 o1 ⊢
  have cases : o = 0 ∨ o = 1 ∨ o = 2 ∨ o = 3 ∨ o = 4 ∨ o = 5 ∨ o = 6 ∨ o = 7 ∨ o = 8 ∨ o = 9 ∨ o = 10 ∨ o = 11 ∨ o = 12 ∨ o = 13 ∨ o = 14 := by omega
  have bwm : ∀ k : Int, ((bw k (f A).toNat (f B).toNat : Nat) : Int) % 65536 = (bw k (f A).toNat (f B).toNat : Nat) := fun k => by
    have := bw_lt k (f A).toNat (f B).toNat (by omega) (by omega)
    omega
  have n8A : upd f 8 ((f 8 + 2) % 65536) A = f A := upd_at (by omega)
  rcases cases with rfl | rfl | rfl | rfl | rfl | rfl | rfl | rfl | rfl | rfl | rfl | rfl | rfl | rfl | rfl
  · exact wk (did_halt p b cap q zs low f w hF hf HOK HOK1 hw HM A B _ ho hA hB rfl bA bB)
  · have e : doR (flatBus p b cap q low) zs f 1 A B (IP.dI (ldL zs (pc1 f))) = (upd (upd f 8 ((f 8 + 2) % 65536)) A (ldL zs (pc1 f)), 0, 0, zs) := by
      simp only [doR, eI]; rfl
    rw [e]
    exact wk (did_set p b cap q zs low f w hF hf HOK HOK1 hw HM A B _ ho hA hB rfl bA bB)
  · have e : doR (flatBus p b cap q low) zs f 2 A B (IP.dI (ldL zs (pc1 f))) = (upd (upd f 8 ((f 8 + 2) % 65536)) A (f B), 0, 0, zs) := by
      have : comb 2 (f A) (f B) % 65536 = f B := by show f B % 65536 = f B; omega
      simp [doR, this]
    rw [e]
    exact wk (did_mov p b cap q zs low f w hF hf HOK HOK1 hw HM A B _ ho hA hB rfl bA bB)
  · have e : doR (flatBus p b cap q low) zs f 3 A B (IP.dI (ldL zs (pc1 f))) = (upd (upd f 8 ((f 8 + 2) % 65536)) A ((f A + f B) % 65536), 0, 0, zs) := by
      have : comb 3 (f A) (f B) % 65536 = (f A + f B) % 65536 := rfl
      simp [doR, this]
    rw [e]
    exact wk (did_add p b cap q zs low f w hF hf HOK HOK1 hw HM A B _ ho hA hB rfl bA bB)
  · have e : doR (flatBus p b cap q low) zs f 4 A B (IP.dI (ldL zs (pc1 f))) = (upd (upd f 8 ((f 8 + 2) % 65536)) A ((f A + 65536 - f B) % 65536), 0, 0, zs) := by
      have : comb 4 (f A) (f B) % 65536 = (f A + 65536 - f B) % 65536 := by show (f A - f B) % 65536 = _; omega
      simp [doR, this]
    rw [e]
    exact wk (did_sub p b cap q zs low f w hF hf HOK HOK1 hw HM A B _ ho hA hB rfl bA bB)
  · have e : doR (flatBus p b cap q low) zs f 5 A B (IP.dI (ldL zs (pc1 f))) = (upd (upd f 8 ((f 8 + 2) % 65536)) A (f A * f B % 65536), 0, 0, zs) := by
      have : comb 5 (f A) (f B) % 65536 = f A * f B % 65536 := rfl
      simp [doR, this]
    rw [e]
    exact wk (did_mul p b cap q zs low f w hF hf HOK HOK1 hw HM A B _ ho hA hB rfl bA bB)
  · have e : doR (flatBus p b cap q low) zs f 6 A B (IP.dI (ldL zs (pc1 f))) = (upd (upd f 8 ((f 8 + 2) % 65536)) A (bw 6 (f A).toNat (f B).toNat : Nat), 0, 0, zs) := by
      have : comb 6 (f A) (f B) % 65536 = (bw 6 (f A).toNat (f B).toNat : Nat) := bwm 6
      simp [doR, this]
    rw [e]
    exact wk (did_and p b cap q zs low f w hF hf HOK HOK1 hw HM A B _ ho hA hB rfl bA bB)
  · have e : doR (flatBus p b cap q low) zs f 7 A B (IP.dI (ldL zs (pc1 f))) = (upd (upd f 8 ((f 8 + 2) % 65536)) A (bw 7 (f A).toNat (f B).toNat : Nat), 0, 0, zs) := by
      have : comb 7 (f A) (f B) % 65536 = (bw 7 (f A).toNat (f B).toNat : Nat) := bwm 7
      simp [doR, this]
    rw [e]
    exact wk (did_or p b cap q zs low f w hF hf HOK HOK1 hw HM A B _ ho hA hB rfl bA bB)
  · have e : doR (flatBus p b cap q low) zs f 8 A B (IP.dI (ldL zs (pc1 f))) = (upd (upd f 8 ((f 8 + 2) % 65536)) A (bw 8 (f A).toNat (f B).toNat : Nat), 0, 0, zs) := by
      have : comb 8 (f A) (f B) % 65536 = (bw 8 (f A).toNat (f B).toNat : Nat) := bwm 8
      simp [doR, this]
    rw [e]
    exact wk (did_xor p b cap q zs low f w hF hf HOK HOK1 hw HM A B _ ho hA hB rfl bA bB)
  · by_cases hlt : f A < f B
    · have e : doR (flatBus p b cap q low) zs f 9 A B (IP.dI (ldL zs (pc1 f))) = (upd (upd f 8 ((f 8 + 2) % 65536)) A 1, 0, 0, zs) := by
        have : comb 9 (f A) (f B) % 65536 = 1 := by simp [comb, hlt]
        simp [doR, this]
      rw [e]
      exact wk (did_less p b cap q zs low f w hF hf HOK HOK1 hw HM A B _ ho hA hB rfl bA bB hlt)
    · have e : doR (flatBus p b cap q low) zs f 9 A B (IP.dI (ldL zs (pc1 f))) = (upd (upd f 8 ((f 8 + 2) % 65536)) A 0, 0, 0, zs) := by
        have : comb 9 (f A) (f B) % 65536 = 0 := by simp [comb, hlt]
        simp [doR, this]
      rw [e]
      exact wk (did_less_no p b cap q zs low f w hF hf HOK HOK1 hw HM A B _ ho hA hB rfl bA bB hlt)
  · cases hok : okL zs ((f B + ldL zs (pc1 f)) % 65536) with
    | true =>
      have e : doR (flatBus p b cap q low) zs f 10 A B (IP.dI (ldL zs (pc1 f))) = (upd (upd f 8 ((f 8 + 2) % 65536)) A (ldL zs ((f B + ldL zs (pc1 f)) % 65536)), 0, 0, zs) := by
        simp [doR, eA, flatBus, hok]
      rw [e]
      exact wk (did_load p b cap q zs low f w hF hf HOK HOK1 hw HM A B _ ho hA hB rfl bA bB hok)
    | false =>
      have e : doR (flatBus p b cap q low) zs f 10 A B (IP.dI (ldL zs (pc1 f))) = (f, 2, (f B + ldL zs (pc1 f)) % 65536, zs) := by
        simp [doR, eA, flatBus, hok]
      rw [e]
      exact wk (did_load_no p b cap q zs low f w hF hf HOK HOK1 hw HM A B _ ho hA hB rfl bA bB hok)
  · cases hok : okS zs low ((f B + ldL zs (pc1 f)) % 65536) with
    | true =>
      have e : doR (flatBus p b cap q low) zs f 11 A B (IP.dI (ldL zs (pc1 f))) = (upd (upd f 8 ((f 8 + 2) % 65536)) A (f A), 0, 0, stL zs low ((f B + ldL zs (pc1 f)) % 65536) (f A)) := by
        simp [doR, eA, flatBus, hok, upd_same n8A]
      rw [e]
      exact did_store p b cap q zs low f w hF hf HOK HOK1 hw HM A B _ ho hA hB rfl bA bB hok hbl
    | false =>
      have es : stL zs low ((f B + ldL zs (pc1 f)) % 65536) (f A) = zs := by
        unfold okS at hok
        rw [decide_eq_false_iff_not] at hok
        unfold stL
        rw [if_neg hok]
      have e : doR (flatBus p b cap q low) zs f 11 A B (IP.dI (ldL zs (pc1 f))) = (f, 2, (f B + ldL zs (pc1 f)) % 65536, zs) := by
        simp [doR, eA, flatBus, hok, es]
      rw [e]
      exact wk (did_store_no p b cap q zs low f w hF hf HOK HOK1 hw HM A B _ ho hA hB rfl bA bB hok)
  · have n9A : upd (upd f 8 ((f 8 + 2) % 65536)) 8 (ldL zs (pc1 f)) A = f A := (upd_at (by omega)).trans n8A
    have e : doR (flatBus p b cap q low) zs f 12 A B (IP.dI (ldL zs (pc1 f))) = (upd (upd (upd f 8 ((f 8 + 2) % 65536)) 8 (ldL zs (pc1 f))) A (f A), 0, 0, zs) := by
      simp [doR, eI, upd_same n9A]
    rw [e]
    exact wk (did_jump p b cap q zs low f w hF hf HOK HOK1 hw HM A B _ ho hA hB rfl bA bB)
  · by_cases hz : f A = 0
    · have n9A : upd (upd f 8 ((f 8 + 2) % 65536)) 8 (ldL zs (pc1 f)) A = f A := (upd_at (by omega)).trans n8A
      have e : doR (flatBus p b cap q low) zs f 13 A B (IP.dI (ldL zs (pc1 f))) = (upd (upd (upd f 8 ((f 8 + 2) % 65536)) 8 (ldL zs (pc1 f))) A (f A), 0, 0, zs) := by
        rw [upd_same n9A]
        simp [doR, eI, hz]
      rw [e]
      exact wk (did_zero p b cap q zs low f w hF hf HOK HOK1 hw HM A B _ ho hA hB rfl bA bB (beq_iff_eq.2 hz))
    · have e : doR (flatBus p b cap q low) zs f 13 A B (IP.dI (ldL zs (pc1 f))) = (upd (upd f 8 ((f 8 + 2) % 65536)) A (f A), 0, 0, zs) := by
        rw [upd_same n8A]
        simp [doR, hz]
      rw [e]
      exact wk (did_zero_no p b cap q zs low f w hF hf HOK HOK1 hw HM A B _ ho hA hB rfl bA bB (beq_eq_false_iff_ne.2 hz))
  · exact wk (did_sys p b cap q zs low f w hF hf HOK HOK1 hw HM A B _ ho hA hB rfl bA bB)
theorem did_any (p b cap : Nat) (q : Option Addr) (zs : List Int) (low : Int) (f : Nat → Int) (w : World) (hF : FlatAt w p q b cap zs low) (hbl : b < w.heap.size) (hf : ∀ k, k < 9 → 0 ≤ f k ∧ f k < 65536) :
    DidSays p b cap q low f w (stepR (flatBus p b cap q low) zs f) := by
  have wk : ∀ {R : (Nat → Int) × Int × Int × List Int}, (Calls Try.prog 8 #[.agg (tc f).toArray, .func (.func 9) #[.pointer (some ⟨p, 0, none⟩)] #[], .func (.func 10) #[.pointer (some ⟨p, 0, none⟩)] #[]] w
      fun e w' => e = .returned (retV R.1 R.2.1 R.2.2.1) ∧ Kp (fun _ => False) w w' ∧ FlatAt w' p q b cap R.2.2.2 low) → DidSays p b cap q low f w R := fun h => h.mono fun _ _ ⟨h1, h2, h3⟩ => ⟨h1, h2.wider (fun _ _ h => h.elim), h3⟩
  have hw : IP.word (ldL zs (f 8)) (ldL zs (pc1 f)) := by
    have h1 := ldL_word hF.words (f 8)
    have h2 := ldL_word hF.words (pc1 f)
    exact ⟨h1.1, by omega, h2.1, by omega⟩
  cases h : okL zs (f 8) with
  | false => rw [stepR_no0 (X := flatBus p b cap q low) h]; exact wk (did_no0 p b cap q zs low f w hF hf h)
  | true =>
    cases h1 : okL zs (pc1 f) with
    | false => rw [stepR_no1 (X := flatBus p b cap q low) h h1]; exact wk (did_no1 p b cap q zs low f w hF hf h h1)
    | true =>
      by_cases h2 : isIns (ldL zs (f 8)) (ldL zs (pc1 f))
      · rw [stepR_do (X := flatBus p b cap q low) h h1 h2]
        exact did_do p b cap q zs low f w hF hbl hf h h1 hw h2
      · rw [stepR_bad (X := flatBus p b cap q low) h h1 h2]
        exact wk (did_bad p b cap q zs low f w hF hf h h1 hw (beq_eq_false_iff_ne.2 h2))
end Go.Proofs.Ytlkplpdnleaihab.Cpu
