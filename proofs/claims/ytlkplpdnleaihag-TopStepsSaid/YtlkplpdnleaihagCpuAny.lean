/- cpu.Step: what it answers, whatever the words are. -/
import Derived.Test.YtlkplpdnleaihagCpuStep
namespace Go.Proofs.Ytlkplpdnleaihag.Cpu
open Go.RowKit Go.Proofs.Ytlkplpdnleaihag.Mem Go.Proofs.Ytlkplpdnleaihag.Bw Go.Proofs.Ytlkplpdnleaihag.Nums

/-- What Step answers. -/
def stepR {bus : Value} {M : Type} (X : BusOf bus M) (m : M) (f : Nat → Int) : (Nat → Int) × Int × Int × M :=
  if X.ok m (f 8) = false then (f, 2, f 8, m)
  else if X.ok m (pc1 f) = false then (f, 2, pc1 f, m)
  else if IP.may (X.ld m (f 8) / 256) (X.ld m (f 8) / 16 % 16) (X.ld m (f 8) % 16) (IP.dI (X.ld m (pc1 f))) = 0 then doR X m f (X.ld m (f 8) / 256) (X.ld m (f 8) / 16 % 16).toNat (X.ld m (f 8) % 16).toNat (IP.dI (X.ld m (pc1 f)))
  else (f, 2, -1, m)
theorem stepR_no0 {bus : Value} {M : Type} {X : BusOf bus M} {m : M} {f : Nat → Int} (h : X.ok m (f 8) = false) : stepR X m f = (f, 2, f 8, m) := by
  unfold stepR
  rw [if_pos h]
theorem stepR_no1 {bus : Value} {M : Type} {X : BusOf bus M} {m : M} {f : Nat → Int} (h : X.ok m (f 8) = true) (h1 : X.ok m (pc1 f) = false) : stepR X m f = (f, 2, pc1 f, m) := by
  unfold stepR
  rw [if_neg (by rw [h]; decide), if_pos h1]
theorem stepR_bad {bus : Value} {M : Type} {X : BusOf bus M} {m : M} {f : Nat → Int} (h : X.ok m (f 8) = true) (h1 : X.ok m (pc1 f) = true) (h2 : ¬ isIns (X.ld m (f 8)) (X.ld m (pc1 f))) : stepR X m f = (f, 2, -1, m) := by
  unfold stepR
  rw [if_neg (by rw [h]; decide), if_neg (by rw [h1]; decide)]
  exact if_neg h2
theorem stepR_do {bus : Value} {M : Type} {X : BusOf bus M} {m : M} {f : Nat → Int} (h : X.ok m (f 8) = true) (h1 : X.ok m (pc1 f) = true) (h2 : isIns (X.ld m (f 8)) (X.ld m (pc1 f))) :
    stepR X m f = doR X m f (X.ld m (f 8) / 256) (X.ld m (f 8) / 16 % 16).toNat (X.ld m (f 8) % 16).toNat (IP.dI (X.ld m (pc1 f))) := by
  unfold stepR
  rw [if_neg (by rw [h]; decide), if_neg (by rw [h1]; decide)]
  exact if_pos h2
theorem step_any {bus : Value} {M : Type} (X : BusOf bus M) (m : M) (f : Nat → Int) (w : World) (hX : X.Inv w m) (hf : ∀ k, k < 9 → 0 ≤ f k ∧ f k < 65536) :
    Calls Try.prog 10 #[.agg (tc f).toArray, bus] w
      fun e w' => e = .returned (retV (stepR X m f).1 (stepR X m f).2.1 (stepR X m f).2.2.1) ∧ Kp X.T w w' ∧ X.Inv w' (stepR X m f).2.2.2 := by
  cases h : X.ok m (f 8) with
  | false => rw [stepR_no0 h]; exact step_no0 X m f w hX hf h
  | true =>
    cases h1 : X.ok m (pc1 f) with
    | false => rw [stepR_no1 h h1]; exact step_no1 X m f w hX hf h h1
    | true =>
      by_cases h2 : isIns (X.ld m (f 8)) (X.ld m (pc1 f))
      · rw [stepR_do h h1 h2]
        obtain ⟨o0, o1, a0, a1, b0, b1, i0, i1⟩ := IP.may_zero h2
        exact step_do X m f w hX hf h h1 h2 _ _ _ rfl (show _ = _ by omega) (show _ = _ by omega) _ rfl (by omega) (by omega) i0 i1
      · rw [stepR_bad h h1 h2]
        exact step_bad X m f w hX hf h h1 h2
end Go.Proofs.Ytlkplpdnleaihag.Cpu
