/- cpu.do, walked: all arms. -/
import Derived.Test.YtlkplpdnleaihagCpuDoHalt
import Derived.Test.YtlkplpdnleaihagCpuDoSet
import Derived.Test.YtlkplpdnleaihagCpuDoLoad
import Derived.Test.YtlkplpdnleaihagCpuDoStore
import Derived.Test.YtlkplpdnleaihagCpuDoJump
import Derived.Test.YtlkplpdnleaihagCpuDoAlu
namespace Go.Proofs.Ytlkplpdnleaihag.Cpu
open Go.RowKit Go.Proofs.Ytlkplpdnleaihag.Mem Go.Proofs.Ytlkplpdnleaihag.Bw Go.Proofs.Ytlkplpdnleaihag.Nums

theorem do_any {bus : Value} {M : Type} (X : BusOf bus M) (m : M) (f : Nat → Int) (A B : Nat) (o i : Int) (w : World) (hX : X.Inv w m) (hA : A < 8) (hB : B < 8) (hf : ∀ k, k < 9 → 0 ≤ f k ∧ f k < 65536) (hi0 : -32768 ≤ i) (hi1 : i ≤ 32767) :
    Calls Try.prog 18 #[.agg (tc f).toArray, .agg #[.int .i64 o, .int .i64 A, .int .i64 B, .int .i64 i], bus] w
      fun e w' => e = .returned (retV (doR X m f o A B i).1 (doR X m f o A B i).2.1 (doR X m f o A B i).2.2.1) ∧ Kp X.T w w' ∧ X.Inv w' (doR X m f o A B i).2.2.2 := by
  unfold doR
  by_cases h0 : o = 0
  · subst h0
    rw [if_pos rfl]
    exact do_halt X m f A B i w hX hA hB hf
  rw [if_neg h0]
  by_cases h14 : o = 14
  · subst h14
    rw [if_pos rfl]
    exact do_sys X m f A B i w hX hA hB hf
  rw [if_neg h14]
  by_cases h1 : o = 1
  · subst h1
    rw [if_pos rfl]
    exact do_set X m f A B i w hX hA hB hf
  rw [if_neg h1]
  by_cases h10 : o = 10
  · subst h10
    rw [if_pos rfl]
    cases hok : X.ok m ((f B + i) % 65536) with
    | true => rw [if_pos rfl]; exact do_load X m f A B i w hX hA hB hf hi0 hi1 hok
    | false => rw [if_neg (by decide)]; exact do_load_no X m f A B i w hX hA hB hf hi0 hi1 hok
  rw [if_neg h10]
  by_cases h11 : o = 11
  · subst h11
    rw [if_pos rfl]
    cases hok : X.oks m ((f B + i) % 65536) with
    | true => rw [if_pos rfl]; exact do_store X m f A B i w hX hA hB hf hi0 hi1 hok
    | false => rw [if_neg (by decide)]; exact do_store_no X m f A B i w hX hA hB hf hi0 hi1 hok
  rw [if_neg h11]
  by_cases h12 : o = 12
  · subst h12
    rw [if_pos rfl]
    exact do_jump X m f A B i w hX hA hB hf
  rw [if_neg h12]
  by_cases h13 : o = 13
  · subst h13
    rw [if_pos rfl]
    by_cases hz : f A = 0
    · rw [if_pos hz]; exact do_zero X m f A B i w hX hA hB hf hz
    · rw [if_neg hz]; exact do_zero_no X m f A B i w hX hA hB hf hz
  rw [if_neg h13]
  exact do_alu X m f A B o i w hX hA hB hf h0 h14 h1 h10 h11 h12 h13
end Go.Proofs.Ytlkplpdnleaihag.Cpu
