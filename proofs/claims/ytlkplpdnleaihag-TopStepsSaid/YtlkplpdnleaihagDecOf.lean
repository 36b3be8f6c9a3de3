/- isa.Decode at two words. -/
import Derived.Test.YtlkplpdnleaihagDecWalk
namespace Go.Proofs.Ytlkplpdnleaihag.Cpu
open Go.RowKit Go.Proofs.Ytlkplpdnleaihag.Mem Go.Proofs.Ytlkplpdnleaihag.Isa

theorem wrap_fits {x : Int} (h0 : 0 ≤ x) (h1 : x ≤ 65535) : wrap64 x = x := by
  unfold wrap64
  omega
theorem dec_words {x y : Int} (hw : IP.word x y) : dO x = x / 256 ∧ dA x = x / 16 % 16 ∧ dB x = x % 16 ∧ dY y = IP.dI y := by
  obtain ⟨x0, x1, y0, y1⟩ := hw
  unfold dO dA dB dY IP.dI
  rw [Int.tdiv_eq_ediv_of_nonneg x0, Int.tdiv_eq_ediv_of_nonneg x0, wrap_fits (by omega) (by omega), wrap_fits (by omega) (by omega), Int.tmod_eq_emod_of_nonneg (by omega), Int.tmod_eq_emod_of_nonneg x0]
  refine ⟨rfl, rfl, rfl, ?_⟩
  split
  · unfold wrap64; omega
  · rfl
/-- Two words are an instruction. -/
def isIns (x y : Int) : Prop := IP.may (x / 256) (x / 16 % 16) (x % 16) (IP.dI y) = 0
theorem decode_ok (x y : Int) (w : World) (hw : IP.word x y) (hm : isIns x y) :
    Calls Try.prog 17 #[.agg #[.int .i64 x, .int .i64 y]] w
      fun e w' => e = .returned (.tuple #[.agg #[.int .i64 (x / 256), .int .i64 (x / 16 % 16), .int .i64 (x % 16), .int .i64 (IP.dI y)], .nilIface]) ∧ Below w.heap.size w w' := by
  obtain ⟨e1, e2, e3, e4⟩ := dec_words hw
  have c := decode_any x y w
  have hd := IP.dec_yes hw
  unfold decV at c
  rw [e1, e2, e3, e4, if_pos ⟨hm, hd⟩] at c
  exact c
theorem decode_no (x y : Int) (w : World) (hw : IP.word x y) (hm : ¬ isIns x y) :
    Calls Try.prog 17 #[.agg #[.int .i64 x, .int .i64 y]] w
      fun e w' => e = .returned (.tuple #[.agg #[.int .i64 0, .int .i64 0, .int .i64 0, .int .i64 0], .iface 62 (.int .i64 1)]) ∧ Below w.heap.size w w' := by
  obtain ⟨e1, e2, e3, e4⟩ := dec_words hw
  have c := decode_any x y w
  unfold decV at c
  rw [e1, e2, e3, e4, if_neg (fun h => hm h.1)] at c
  exact c
end Go.Proofs.Ytlkplpdnleaihag.Cpu
