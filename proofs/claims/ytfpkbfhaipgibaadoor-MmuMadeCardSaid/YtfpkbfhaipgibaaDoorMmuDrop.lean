/- mmu.Drop walked: it leaves what keyholdref.Dropped leaves. -/
import Derived.Test.YtfpkbfhaipgibaaDoorMmuDelete2
import Derived.Test.YtfpkbfhaipgibaaDoorMmuDelete3
namespace Go.Proofs.YtfpkbfhaipgibaaDoor.Mmu
open Go.RowKit Go.Proofs.YtfpkbfhaipgibaaDoor.Mem Go.Proofs.YtfpkbfhaipgibaaDoor.Bw Go.Proofs.YtfpkbfhaipgibaaDoor.Nums

theorem own_lower {w : World} {B B' e size n : Nat} {v : Value} {xs : List Value} (h : w.ownsRow B e size v n xs) (hB : B' ≤ B) : w.ownsRow B' e size v n xs := by
  refine ⟨h.1, ?_⟩
  rcases h.2 with h2 | ⟨g, cap, cur, h1, h2, h3⟩
  · exact .inl h2
  · exact .inr ⟨g, cap, cur, h1, by omega, h3⟩
theorem gone_page (l : List Ent) (s p : Int) (h : 0 ≤ p) : goneR (pg s p) l = dropR l s p := by
  unfold goneR dropR
  congr 1
  funext e
  simp only [pg, stays, h, decide_true, Bool.true_and, Bool.not_and, bne]
theorem gone_space (l : List Ent) (s p : Int) (h : ¬ 0 ≤ p) : goneR (sp s) l = dropR l s p := by
  unfold goneR dropR
  congr 1
  funext e
  simp only [sp, stays, h, decide_false, Bool.false_and, Bool.or_false, bne]
set_option maxHeartbeats 4000000 in
theorem drop_any (v : Value) (l : List Ent) (s p : Int) (w : World) (hv : TlbIn w v l) :
    Calls Tryd.prog 19 #[v, .int .i64 s, .int .i64 p] w fun r w' => ∃ u, r = .returned u ∧ w'.ownsRow w.heap.size 39 4 u (dropR l s p).length (cellsE (dropR l s p)) ∧ Below w.heap.size w w' := by
  have hl : l.length ≤ 100 := by obtain ⟨_, _, _, _, _, _, _, h⟩ := hv; exact h
  have HV := hid hv
  clear hv
  go_enter Tryd.func19, Tryd.ntmps19
  go_wp2_with fail
  refine (ofPage_any s p _).mono ?_
  rintro r w1 ⟨rfl, hpg, hb1⟩
  have P1 := hid hpg
  have B1 := hid hb1
  clear hpg hb1
  by_cases hp : 0 ≤ p
  · have t1 : ¬ (p < 0) := by omega
    have HG := hid (gone_page l s p hp)
    clear hp
    go_wp2_with fail
    refine (clone_any v l w1 (HV.out.below B1.out)).mono ?_
    rintro r w2 ⟨u, rfl, hO, hb⟩
    have s1 : w.heap.size + 1 < w1.heap.size := World.block_lt_of_cell? w1 ⟨w.heap.size + 1, 0, none⟩ P1.out.2
    have D := hid (delete_page u l w1.heap.size w.heap.size s p w2 hb.size s1 hO hl (P1.out.below hb))
    have B2 := hid (btr B1.out hb)
    clear hO hb
    go_wp2_with fail
    refine D.out.mono ?_
    rintro r w3 ⟨u3, rfl, hO3, hb3⟩
    have B3 := hid (B2.out.trans (hb3.mono (by omega)))
    have O3 := hid hO3
    clear hO3 hb3 D
    go_wp2_with fail
    go_ret
    refine ⟨_, rfl, ?_, B3.out⟩
    rw [← HG.out]
    exact own_lower O3.out (by omega)
  · have t1 : p < 0 := by omega
    have HG := hid (gone_space l s p hp)
    clear hp
    go_wp2_with fail
    refine (ofSpace_any s _).mono ?_
    rintro r w1' ⟨rfl, hsp, hbs⟩
    have P2 := hid hsp
    have B1' := hid (btr B1.out hbs)
    clear hsp hbs
    go_wp2_with fail
    refine (clone_any v l w1' (HV.out.below B1'.out)).mono ?_
    rintro r w2 ⟨u, rfl, hO, hb⟩
    have s0 : w.heap.size ≤ w1.heap.size := B1.out.size
    have s1 : w1.heap.size < w1'.heap.size := World.block_lt_of_cell? w1' ⟨w1.heap.size, 0, none⟩ P2.out
    have D := hid (delete_space u l w1'.heap.size w1.heap.size s w2 hb.size s1 hO hl ((hb.cell (p := ⟨w1.heap.size, 0, none⟩) s1).trans P2.out))
    have B2 := hid (btr B1'.out hb)
    clear hO hb
    go_wp2_with fail
    refine D.out.mono ?_
    rintro r w3 ⟨u3, rfl, hO3, hb3⟩
    have B3 := hid (B2.out.trans (hb3.mono (by omega)))
    have O3 := hid hO3
    clear hO3 hb3 D
    go_wp2_with fail
    go_ret
    refine ⟨_, rfl, ?_, B3.out⟩
    rw [← HG.out]
    exact own_lower O3.out (by omega)
end Go.Proofs.YtfpkbfhaipgibaaDoor.Mmu
