/- A world out of a text: boot.orders, walked. · Numbers of a line: keyholdref.nums; keyholdref.frameMay; walked. · Regions that draw their order, read, and in the end write into what they read: reading operations taken in one group. -/
import Derived.Test.YtkocmkaeaagbaaaGreatDoorProg
import Derived.Deep.RegionHeld3
import Derived.Test.YtkocmkaeaagbaaaGreatDoorQay
import Derived.Test.YtkocmkaeaagbaaaGreatDoorQax
import Derived.Test.YtkocmkaeaagbaaaGreatDoorQat
namespace Go.Proofs.YtkocmkaeaagbaaaGreatDoor.Wd
open Go.RowKit Go.Proofs.YtkocmkaeaagbaaaGreatDoor.Mem Go.Proofs.YtkocmkaeaagbaaaGreatDoor.Bw Go.Proofs.YtkocmkaeaagbaaaGreatDoor.Nums Go.Proofs.YtkocmkaeaagbaaaGreatDoor.Mmu Go.Proofs.YtkocmkaeaagbaaaGreatDoor.Hex Go.Proofs.YtkocmkaeaagbaaaGreatDoor.Prs
theorem Cnt.gr {lo b : Nat} {w w' : World} {v : Value} {N : Nat} {k : Int} (h : Cnt lo w v N k) (hg : w.grownBy w' (some b)) (hl : b < lo) : Cnt lo w' v N k := by
 obtain ⟨cb, mb, l1, l2, h1, h2, h3⟩ := h
 exact ⟨cb, mb, l1, l2, h1, gr_cell h2 hg (by omega), gr_cell h3 hg (by omega)⟩
theorem Cnt.mono {lo lo' : Nat} {w : World} {v : Value} {N : Nat} {k : Int} (h : Cnt lo w v N k) (hl : lo' ≤ lo) : Cnt lo' w v N k := by
 obtain ⟨cb, mb, l1, l2, h⟩ := h
 exact ⟨cb, mb, by omega, by omega, h⟩
/-- An order: how its words are read, and what does it. -/
def OrdJ (w : World) (v : Value) (N : Nat) (k : Int) (fn : Nat) : Prop := ∃ r, Cnt 0 w r N k ∧ v = .agg #[r, .func (.func fn) #[] #[]]
/-- What stands under a word is an order. -/
def Ord (w : World) (nm : ByteArray) (v : Value) : Prop :=
 (nm = ⟨#[119, 111, 114, 108, 100]⟩ ∧ OrdJ w v 112 3 75) ∨ (nm = ⟨#[99, 108, 97, 121]⟩ ∧ OrdJ w v 115 3 77) ∨ (nm = ⟨#[109, 97, 107, 101]⟩ ∧ v = .agg #[.func (.func 78) #[] #[], .func (.func 79) #[] #[]]) ∨ (nm = ⟨#[99, 111, 112, 121]⟩ ∧ OrdJ w v 115 4 80) ∨ (nm = ⟨#[112, 117, 116]⟩ ∧ OrdJ w v 115 3 81) ∨ (nm = ⟨#[99, 111, 100, 101]⟩ ∧ OrdJ w v 115 1 82) ∨ (nm = ⟨#[101, 110, 116, 101, 114]⟩ ∧ OrdJ w v 115 4 83) ∨ (nm = ⟨#[101, 113, 117, 105, 112]⟩ ∧ OrdJ w v 115 7 84) ∨ (nm = ⟨#[115, 116, 97, 114, 116]⟩ ∧ OrdJ w v 115 1 85)
theorem OrdJ.below {w w' : World} {v : Value} {N fn : Nat} {k : Int} (h : OrdJ w v N k fn) (hb : Below w.heap.size w w') : OrdJ w' v N k fn := by
 obtain ⟨r, h1, h2⟩ := h
 exact ⟨r, h1.below hb, h2⟩
set_option maxRecDepth 100000 in
set_option maxHeartbeats 16000000 in
theorem orders_any (w : World) : Calls Tryz.prog 40 #[] w fun r w' => (∃ b f, r = .returned (.map (some b)) ∧ TabAt w' b 9 f ∧ (∀ nm v, f nm = some v → Ord w' nm v) ∧ f ⟨#[119, 111, 114, 108, 100]⟩ ≠ none) ∧ Below w.heap.size w w' := by
 have hmm := run_makeMap (P := Tryz.prog) 93 w
 have T0 := hid (tab_made w)
 have B0 := hid (bal (Below.refl w.heap.size w) (.map #[] 0))
 have L0 := hid (show w.heap.size < (w.alloc (.map #[] 0)).heap.size by simp)
 generalize w.alloc (.map #[] 0) = w0 at hmm T0 B0 L0
 go_enter Tryz.func40, Tryz.ntmps40
 go_wp2_with fail
 clear hmm
 refine (atLeast_any 3 _).mono ?_
 rintro r u0 ⟨_, rfl, ⟨cb0, mb0, k1, k2, rfl, hc1, hc2⟩, hb⟩
 have C0 := hid (show Cnt (w.heap.size + 1) u0 (.func (.func 150) #[] #[.pointer (some ⟨cb0, 0, none⟩)]) 112 3 from ⟨cb0, mb0, by have := L0.out; omega, by have := L0.out; omega, rfl, hc1, hc2⟩)
 have TT := hid (T0.out.kept hb)
 have BB := hid (btr B0.out hb)
 have LL := hid (Nat.lt_of_lt_of_le L0.out hb.size)
 clear hc1 hc2 k1 k2 hb T0 B0 L0
 have T0 := TT; have B0 := BB; have L0 := LL; clear TT BB LL
 go_wp2_with (first | ((with_reducible (show wpList _ _ _ (⟨_, Op.insert 93 _ _ _, _, _, _, _⟩ :: _) _ _)); refine wp_insert rfl _ _ _ 93 91 rfl Tryz.underlying93 w.heap.size 0 _ rfl T0.out (by decide) ⟨#[119, 111, 114, 108, 100]⟩ rfl (by unfold maxLen; decide) _ rfl ?_))
 intro w1 hT hg
 have T1 := hid hT
 have B1 := hid (gr_below B0.out (Nat.le_refl _) B0.out.size hg)
 have L1 := hid (Nat.lt_of_lt_of_le L0.out hg.size)
 replace C0 := hid (C0.out.gr hg (by omega))
 clear hT hg T0 B0 L0
 go_wp2_with fail
 refine (just_any 3 _).mono ?_
 rintro r u1 ⟨_, rfl, ⟨cb1, mb1, k1, k2, rfl, hc1, hc2⟩, hb⟩
 have C1 := hid (show Cnt (w.heap.size + 1) u1 (.func (.func 150) #[] #[.pointer (some ⟨cb1, 0, none⟩)]) 115 3 from ⟨cb1, mb1, by have := L1.out; omega, by have := L1.out; omega, rfl, hc1, hc2⟩)
 have TT := hid (T1.out.kept hb)
 have BB := hid (btr B1.out hb)
 have LL := hid (Nat.lt_of_lt_of_le L1.out hb.size)
 replace C0 := hid (C0.out.below hb)
 clear hc1 hc2 k1 k2 hb T1 B1 L1
 have T1 := TT; have B1 := BB; have L1 := LL; clear TT BB LL
 go_wp2_with (first | ((with_reducible (show wpList _ _ _ (⟨_, Op.insert 93 _ _ _, _, _, _, _⟩ :: _) _ _)); refine wp_insert rfl _ _ _ 93 91 rfl Tryz.underlying93 w.heap.size 1 _ rfl T1.out (by decide) ⟨#[99, 108, 97, 121]⟩ rfl (by unfold maxLen; decide) _ rfl ?_))
 intro w2 hT hg
 have T2 := hid hT
 have B2 := hid (gr_below B1.out (Nat.le_refl _) B1.out.size hg)
 have L2 := hid (Nat.lt_of_lt_of_le L1.out hg.size)
 replace C0 := hid (C0.out.gr hg (by omega))
 replace C1 := hid (C1.out.gr hg (by omega))
 clear hT hg T1 B1 L1
 go_wp2_with (first | ((with_reducible (show wpList _ _ _ (⟨_, Op.insert 93 _ _ _, _, _, _, _⟩ :: _) _ _)); refine wp_insert rfl _ _ _ 93 91 rfl Tryz.underlying93 w.heap.size 2 _ rfl T2.out (by decide) ⟨#[109, 97, 107, 101]⟩ rfl (by unfold maxLen; decide) _ rfl ?_))
 intro w3 hT hg
 have T3 := hid hT
 have B3 := hid (gr_below B2.out (Nat.le_refl _) B2.out.size hg)
 have L3 := hid (Nat.lt_of_lt_of_le L2.out hg.size)
 replace C0 := hid (C0.out.gr hg (by omega))
 replace C1 := hid (C1.out.gr hg (by omega))
 clear hT hg T2 B2 L2
 go_wp2_with fail
 refine (just_any 4 _).mono ?_
 rintro r u3 ⟨_, rfl, ⟨cb3, mb3, k1, k2, rfl, hc1, hc2⟩, hb⟩
 have C3 := hid (show Cnt (w.heap.size + 1) u3 (.func (.func 150) #[] #[.pointer (some ⟨cb3, 0, none⟩)]) 115 4 from ⟨cb3, mb3, by have := L3.out; omega, by have := L3.out; omega, rfl, hc1, hc2⟩)
 have TT := hid (T3.out.kept hb)
 have BB := hid (btr B3.out hb)
 have LL := hid (Nat.lt_of_lt_of_le L3.out hb.size)
 replace C0 := hid (C0.out.below hb)
 replace C1 := hid (C1.out.below hb)
 clear hc1 hc2 k1 k2 hb T3 B3 L3
 have T3 := TT; have B3 := BB; have L3 := LL; clear TT BB LL
 go_wp2_with (first | ((with_reducible (show wpList _ _ _ (⟨_, Op.insert 93 _ _ _, _, _, _, _⟩ :: _) _ _)); refine wp_insert rfl _ _ _ 93 91 rfl Tryz.underlying93 w.heap.size 3 _ rfl T3.out (by decide) ⟨#[99, 111, 112, 121]⟩ rfl (by unfold maxLen; decide) _ rfl ?_))
 intro w4 hT hg
 have T4 := hid hT
 have B4 := hid (gr_below B3.out (Nat.le_refl _) B3.out.size hg)
 have L4 := hid (Nat.lt_of_lt_of_le L3.out hg.size)
 replace C0 := hid (C0.out.gr hg (by omega))
 replace C1 := hid (C1.out.gr hg (by omega))
 replace C3 := hid (C3.out.gr hg (by omega))
 clear hT hg T3 B3 L3
 go_wp2_with fail
 refine (just_any 3 _).mono ?_
 rintro r u4 ⟨_, rfl, ⟨cb4, mb4, k1, k2, rfl, hc1, hc2⟩, hb⟩
 have C4 := hid (show Cnt (w.heap.size + 1) u4 (.func (.func 150) #[] #[.pointer (some ⟨cb4, 0, none⟩)]) 115 3 from ⟨cb4, mb4, by have := L4.out; omega, by have := L4.out; omega, rfl, hc1, hc2⟩)
 have TT := hid (T4.out.kept hb)
 have BB := hid (btr B4.out hb)
 have LL := hid (Nat.lt_of_lt_of_le L4.out hb.size)
 replace C0 := hid (C0.out.below hb)
 replace C1 := hid (C1.out.below hb)
 replace C3 := hid (C3.out.below hb)
 clear hc1 hc2 k1 k2 hb T4 B4 L4
 have T4 := TT; have B4 := BB; have L4 := LL; clear TT BB LL
 go_wp2_with (first | ((with_reducible (show wpList _ _ _ (⟨_, Op.insert 93 _ _ _, _, _, _, _⟩ :: _) _ _)); refine wp_insert rfl _ _ _ 93 91 rfl Tryz.underlying93 w.heap.size 4 _ rfl T4.out (by decide) ⟨#[112, 117, 116]⟩ rfl (by unfold maxLen; decide) _ rfl ?_))
 intro w5 hT hg
 have T5 := hid hT
 have B5 := hid (gr_below B4.out (Nat.le_refl _) B4.out.size hg)
 have L5 := hid (Nat.lt_of_lt_of_le L4.out hg.size)
 replace C0 := hid (C0.out.gr hg (by omega))
 replace C1 := hid (C1.out.gr hg (by omega))
 replace C3 := hid (C3.out.gr hg (by omega))
 replace C4 := hid (C4.out.gr hg (by omega))
 clear hT hg T4 B4 L4
 go_wp2_with fail
 refine (just_any 1 _).mono ?_
 rintro r u5 ⟨_, rfl, ⟨cb5, mb5, k1, k2, rfl, hc1, hc2⟩, hb⟩
 have C5 := hid (show Cnt (w.heap.size + 1) u5 (.func (.func 150) #[] #[.pointer (some ⟨cb5, 0, none⟩)]) 115 1 from ⟨cb5, mb5, by have := L5.out; omega, by have := L5.out; omega, rfl, hc1, hc2⟩)
 have TT := hid (T5.out.kept hb)
 have BB := hid (btr B5.out hb)
 have LL := hid (Nat.lt_of_lt_of_le L5.out hb.size)
 replace C0 := hid (C0.out.below hb)
 replace C1 := hid (C1.out.below hb)
 replace C3 := hid (C3.out.below hb)
 replace C4 := hid (C4.out.below hb)
 clear hc1 hc2 k1 k2 hb T5 B5 L5
 have T5 := TT; have B5 := BB; have L5 := LL; clear TT BB LL
 go_wp2_with (first | ((with_reducible (show wpList _ _ _ (⟨_, Op.insert 93 _ _ _, _, _, _, _⟩ :: _) _ _)); refine wp_insert rfl _ _ _ 93 91 rfl Tryz.underlying93 w.heap.size 5 _ rfl T5.out (by decide) ⟨#[99, 111, 100, 101]⟩ rfl (by unfold maxLen; decide) _ rfl ?_))
 intro w6 hT hg
 have T6 := hid hT
 have B6 := hid (gr_below B5.out (Nat.le_refl _) B5.out.size hg)
 have L6 := hid (Nat.lt_of_lt_of_le L5.out hg.size)
 replace C0 := hid (C0.out.gr hg (by omega))
 replace C1 := hid (C1.out.gr hg (by omega))
 replace C3 := hid (C3.out.gr hg (by omega))
 replace C4 := hid (C4.out.gr hg (by omega))
 replace C5 := hid (C5.out.gr hg (by omega))
 clear hT hg T5 B5 L5
 go_wp2_with fail
 refine (just_any 4 _).mono ?_
 rintro r u6 ⟨_, rfl, ⟨cb6, mb6, k1, k2, rfl, hc1, hc2⟩, hb⟩
 have C6 := hid (show Cnt (w.heap.size + 1) u6 (.func (.func 150) #[] #[.pointer (some ⟨cb6, 0, none⟩)]) 115 4 from ⟨cb6, mb6, by have := L6.out; omega, by have := L6.out; omega, rfl, hc1, hc2⟩)
 have TT := hid (T6.out.kept hb)
 have BB := hid (btr B6.out hb)
 have LL := hid (Nat.lt_of_lt_of_le L6.out hb.size)
 replace C0 := hid (C0.out.below hb)
 replace C1 := hid (C1.out.below hb)
 replace C3 := hid (C3.out.below hb)
 replace C4 := hid (C4.out.below hb)
 replace C5 := hid (C5.out.below hb)
 clear hc1 hc2 k1 k2 hb T6 B6 L6
 have T6 := TT; have B6 := BB; have L6 := LL; clear TT BB LL
 go_wp2_with (first | ((with_reducible (show wpList _ _ _ (⟨_, Op.insert 93 _ _ _, _, _, _, _⟩ :: _) _ _)); refine wp_insert rfl _ _ _ 93 91 rfl Tryz.underlying93 w.heap.size 6 _ rfl T6.out (by decide) ⟨#[101, 110, 116, 101, 114]⟩ rfl (by unfold maxLen; decide) _ rfl ?_))
 intro w7 hT hg
 have T7 := hid hT
 have B7 := hid (gr_below B6.out (Nat.le_refl _) B6.out.size hg)
 have L7 := hid (Nat.lt_of_lt_of_le L6.out hg.size)
 replace C0 := hid (C0.out.gr hg (by omega))
 replace C1 := hid (C1.out.gr hg (by omega))
 replace C3 := hid (C3.out.gr hg (by omega))
 replace C4 := hid (C4.out.gr hg (by omega))
 replace C5 := hid (C5.out.gr hg (by omega))
 replace C6 := hid (C6.out.gr hg (by omega))
 clear hT hg T6 B6 L6
 go_wp2_with fail
 refine (just_any 7 _).mono ?_
 rintro r u7 ⟨_, rfl, ⟨cb7, mb7, k1, k2, rfl, hc1, hc2⟩, hb⟩
 have C7 := hid (show Cnt (w.heap.size + 1) u7 (.func (.func 150) #[] #[.pointer (some ⟨cb7, 0, none⟩)]) 115 7 from ⟨cb7, mb7, by have := L7.out; omega, by have := L7.out; omega, rfl, hc1, hc2⟩)
 have TT := hid (T7.out.kept hb)
 have BB := hid (btr B7.out hb)
 have LL := hid (Nat.lt_of_lt_of_le L7.out hb.size)
 replace C0 := hid (C0.out.below hb)
 replace C1 := hid (C1.out.below hb)
 replace C3 := hid (C3.out.below hb)
 replace C4 := hid (C4.out.below hb)
 replace C5 := hid (C5.out.below hb)
 replace C6 := hid (C6.out.below hb)
 clear hc1 hc2 k1 k2 hb T7 B7 L7
 have T7 := TT; have B7 := BB; have L7 := LL; clear TT BB LL
 go_wp2_with (first | ((with_reducible (show wpList _ _ _ (⟨_, Op.insert 93 _ _ _, _, _, _, _⟩ :: _) _ _)); refine wp_insert rfl _ _ _ 93 91 rfl Tryz.underlying93 w.heap.size 7 _ rfl T7.out (by decide) ⟨#[101, 113, 117, 105, 112]⟩ rfl (by unfold maxLen; decide) _ rfl ?_))
 intro w8 hT hg
 have T8 := hid hT
 have B8 := hid (gr_below B7.out (Nat.le_refl _) B7.out.size hg)
 have L8 := hid (Nat.lt_of_lt_of_le L7.out hg.size)
 replace C0 := hid (C0.out.gr hg (by omega))
 replace C1 := hid (C1.out.gr hg (by omega))
 replace C3 := hid (C3.out.gr hg (by omega))
 replace C4 := hid (C4.out.gr hg (by omega))
 replace C5 := hid (C5.out.gr hg (by omega))
 replace C6 := hid (C6.out.gr hg (by omega))
 replace C7 := hid (C7.out.gr hg (by omega))
 clear hT hg T7 B7 L7
 go_wp2_with fail
 refine (just_any 1 _).mono ?_
 rintro r u8 ⟨_, rfl, ⟨cb8, mb8, k1, k2, rfl, hc1, hc2⟩, hb⟩
 have C8 := hid (show Cnt (w.heap.size + 1) u8 (.func (.func 150) #[] #[.pointer (some ⟨cb8, 0, none⟩)]) 115 1 from ⟨cb8, mb8, by have := L8.out; omega, by have := L8.out; omega, rfl, hc1, hc2⟩)
 have TT := hid (T8.out.kept hb)
 have BB := hid (btr B8.out hb)
 have LL := hid (Nat.lt_of_lt_of_le L8.out hb.size)
 replace C0 := hid (C0.out.below hb)
 replace C1 := hid (C1.out.below hb)
 replace C3 := hid (C3.out.below hb)
 replace C4 := hid (C4.out.below hb)
 replace C5 := hid (C5.out.below hb)
 replace C6 := hid (C6.out.below hb)
 replace C7 := hid (C7.out.below hb)
 clear hc1 hc2 k1 k2 hb T8 B8 L8
 have T8 := TT; have B8 := BB; have L8 := LL; clear TT BB LL
 go_wp2_with (first | ((with_reducible (show wpList _ _ _ (⟨_, Op.insert 93 _ _ _, _, _, _, _⟩ :: _) _ _)); refine wp_insert rfl _ _ _ 93 91 rfl Tryz.underlying93 w.heap.size 8 _ rfl T8.out (by decide) ⟨#[115, 116, 97, 114, 116]⟩ rfl (by unfold maxLen; decide) _ rfl ?_))
 intro w9 hT hg
 have T9 := hid hT
 have B9 := hid (gr_below B8.out (Nat.le_refl _) B8.out.size hg)
 have L9 := hid (Nat.lt_of_lt_of_le L8.out hg.size)
 replace C0 := hid (C0.out.gr hg (by omega))
 replace C1 := hid (C1.out.gr hg (by omega))
 replace C3 := hid (C3.out.gr hg (by omega))
 replace C4 := hid (C4.out.gr hg (by omega))
 replace C5 := hid (C5.out.gr hg (by omega))
 replace C6 := hid (C6.out.gr hg (by omega))
 replace C7 := hid (C7.out.gr hg (by omega))
 replace C8 := hid (C8.out.gr hg (by omega))
 clear hT hg T8 B8 L8
 go_wp2_with fail
 go_ret
 refine ⟨⟨w.heap.size, _, rfl, T9.out, fun nm v hv => ?_, ?_⟩, B9.out⟩
 rotate_left
 ·repeat rw [if_neg (by decide)]
  rw [if_pos rfl]
  simp
 by_cases e : nm = ⟨#[115, 116, 97, 114, 116]⟩
 ·rw [if_pos e] at hv
  obtain rfl := Option.some.inj hv
  exact .inr (.inr (.inr (.inr (.inr (.inr (.inr (.inr (⟨e, ⟨_, C8.out.mono (by omega), rfl⟩⟩))))))))
 rw [if_neg e] at hv
 by_cases e : nm = ⟨#[101, 113, 117, 105, 112]⟩
 ·rw [if_pos e] at hv
  obtain rfl := Option.some.inj hv
  exact .inr (.inr (.inr (.inr (.inr (.inr (.inr (.inl ⟨e, ⟨_, C7.out.mono (by omega), rfl⟩⟩)))))))
 rw [if_neg e] at hv
 by_cases e : nm = ⟨#[101, 110, 116, 101, 114]⟩
 ·rw [if_pos e] at hv
  obtain rfl := Option.some.inj hv
  exact .inr (.inr (.inr (.inr (.inr (.inr (.inl ⟨e, ⟨_, C6.out.mono (by omega), rfl⟩⟩))))))
 rw [if_neg e] at hv
 by_cases e : nm = ⟨#[99, 111, 100, 101]⟩
 ·rw [if_pos e] at hv
  obtain rfl := Option.some.inj hv
  exact .inr (.inr (.inr (.inr (.inr (.inl ⟨e, ⟨_, C5.out.mono (by omega), rfl⟩⟩)))))
 rw [if_neg e] at hv
 by_cases e : nm = ⟨#[112, 117, 116]⟩
 ·rw [if_pos e] at hv
  obtain rfl := Option.some.inj hv
  exact .inr (.inr (.inr (.inr (.inl ⟨e, ⟨_, C4.out.mono (by omega), rfl⟩⟩))))
 rw [if_neg e] at hv
 by_cases e : nm = ⟨#[99, 111, 112, 121]⟩
 ·rw [if_pos e] at hv
  obtain rfl := Option.some.inj hv
  exact .inr (.inr (.inr (.inl ⟨e, ⟨_, C3.out.mono (by omega), rfl⟩⟩)))
 rw [if_neg e] at hv
 by_cases e : nm = ⟨#[109, 97, 107, 101]⟩
 ·rw [if_pos e] at hv
  obtain rfl := Option.some.inj hv
  exact .inr (.inr (.inl ⟨e, rfl⟩))
 rw [if_neg e] at hv
 by_cases e : nm = ⟨#[99, 108, 97, 121]⟩
 ·rw [if_pos e] at hv
  obtain rfl := Option.some.inj hv
  exact .inr (.inl ⟨e, ⟨_, C1.out.mono (by omega), rfl⟩⟩)
 rw [if_neg e] at hv
 by_cases e : nm = ⟨#[119, 111, 114, 108, 100]⟩
 ·rw [if_pos e] at hv
  obtain rfl := Option.some.inj hv
  exact .inl ⟨e, ⟨_, C0.out.mono (by omega), rfl⟩⟩
 rw [if_neg e] at hv
 cases hv
end Go.Proofs.YtkocmkaeaagbaaaGreatDoor.Wd
namespace Go.Proofs.YtkocmkaeaagbaaaGreatDoor.Wd
open Go.RowKit Go.Proofs.YtkocmkaeaagbaaaGreatDoor.Mem Go.Proofs.YtkocmkaeaagbaaaGreatDoor.Bw Go.Proofs.YtkocmkaeaagbaaaGreatDoor.Nums Go.Proofs.YtkocmkaeaagbaaaGreatDoor.Mmu Go.Proofs.YtkocmkaeaagbaaaGreatDoor.Hex
theorem wpList_apN {P : Program} {w w' : World} {ops : Array Oper} {rest : List Oper} {o : Oper} {a : Act} {Q : Exit → Act → World → Prop} (hgd : o.guard = none) (s x : Operand) (t : TypeId)
  (ho : o.op = .call { callee := .builtin .append, args := #[s, x], argTypes := #[t, t] }) (v u v' : Value) (hs : a.eval s = v) (hx : a.eval x = u) (hr : (Builtin.append_ #[t, t] o.type #[v, u]).run P w = .ok v' w')
  (h : wpList P ops Q rest (a.put o.dst v') w') : wpList P ops Q (o :: rest) a w := by
 refine wpList_plain hgd fun K hK => ?_
 unfold Oper.wp
 simp [execOp, ho, resolve, invoke, builtin, hs, hx, hr, Result.andThen]
 exact hK _ _ h
/-- One number more in a list of one's own. -/
theorem own_formN {B e size n : Nat} {w : World} {v : Value} {xs : List Value} (h : w.ownsRow B e size v n xs) : ∃ q c, v = .slice q n c := by
 rcases h.2 with ⟨rfl, rfl⟩ | ⟨g, cap, cur, rfl, _⟩
 ·exact ⟨_, _, rfl⟩
 ·exact ⟨_, _, rfl⟩
theorem StrsAt.below' {w w' : World} {b off : Nat} {zs : List ByteArray} (h : StrsAt w b off zs) (hb : Below w.heap.size w w') : StrsAt w' b off zs :=
 fun j hj => (hb.cell (World.block_lt_of_cell? _ _ (h j hj))).trans (h j hj)
/-- A list of numbers of one's own that is not empty: where it lies. -/
theorem own_pos {w : World} {B n : Nat} {v : Value} {zs : List Int} (h : w.ownsRow B 3 1 v n (ints zs)) (hn : zs.length = n) (h0 : 0 < n) : ∃ g cap, v = .slice (some ⟨g, 0, none⟩) n cap ∧ n ≤ cap ∧ B ≤ g ∧ IntsAt w g 0 zs := by
 subst hn
 obtain ⟨q, b, off, cap, e, hq, hi⟩ := own_ints h
 rcases h.2 with ⟨_, h2⟩ | ⟨g, cap2, cur, rfl, h3, _, h5, _⟩
 ·omega
 ·cases e
  have := hq h0
  cases this
  exact ⟨b, cap, rfl, h5, h3, hi⟩
end Go.Proofs.YtkocmkaeaagbaaaGreatDoor.Wd
namespace Go.Proofs.YtkocmkaeaagbaaaGreatDoor.Rf
section
variable {P : Program} {ops : Array Oper} {Q : Exit → Act → World → Prop} {md : Region.Mode} {S R : World → Prop} {fs : List Nat}
/-- None of the last operations has come up. -/
def clean (fs : List Nat) (listed : Array Bool) : Bool := fs.all fun f => !(listed.getD f true)
/-- Each of the last operations waits for this one. -/
def waits (md : Region.Mode) (ops : Array Oper) (fs : List Nat) (i : Nat) : Bool := fs.all fun f => match ops[f]? with
 | some o => o.after.any fun e => Region.binds md e && e.on == i
 | none => false
theorem clean_set {i : Nat} {listed : Array Bool} (hi : fs.contains i = false) : clean fs (listed.setIfInBounds i true) = clean fs listed := by
 have hn : ∀ f ∈ fs, i ≠ f := fun f hf e => by
  subst e
  have : fs.contains i = true := by simpa using hf
  rw [this] at hi
  cases hi
 unfold clean
 rw [Bool.eq_iff_iff, List.all_eq_true, List.all_eq_true]
 exact ⟨fun h f hf => by have := h f hf; rwa [getD_set_ne true (hn f hf)] at this, fun h f hf => by rw [getD_set_ne true (hn f hf)]; exact h f hf⟩
theorem notClean {listed : Array Bool} {X : Prop} (h : clean fs listed = false) : clean fs listed = true → X := fun e => by rw [h] at e; cases e
/-- Whatever order is picked from here on; S holds behind each operation, and R as long as none of the last ones has come up. -/
def wpAnyF (P : Program) (md : Region.Mode) (ops : Array Oper) (Q : Exit → Act → World → Prop) (S R : World → Prop) (fs : List Nat) : Nat → Array Bool → Act → World → Prop
 | 0, listed, a, w => Region.ready md ops listed = [] ∧ Q .normal a w
 | fuel + 1, listed, a, w =>
  (Region.ready md ops listed = [] → Q .normal a w) ∧
  ∀ i ∈ Region.ready md ops listed, wpOp P ops Q i (fun a' w' => (S w' ∧ (clean fs (listed.setIfInBounds i true) = true → R w')) ∧ wpAnyF P md ops Q S R fs fuel (listed.setIfInBounds i true) a' w') a w
theorem wpAny_of_F : ∀ (fuel : Nat) (listed : Array Bool) (a : Act) (w : World), wpAnyF P md ops Q S R fs fuel listed a w → wpAny P md ops Q fuel listed a w
 | 0, _, _, _, h => h
 | fuel + 1, _, _, _, h => ⟨h.1, fun i hi => wpOp_mono (fun a' w' h' => wpAny_of_F fuel _ a' w' h'.2) (h.2 i hi)⟩
theorem wpAnyF_first {i : Nat} {oi : Oper} {v : Value} {r : Bool} (hi : ops[i]? = some oi) (hsel : ∀ (j : Nat) (o : Oper) cs b, ops[j]? = some o → o.op ≠ .select cs b)
  (hQ : ∀ c a w, Q (.panic c) (a.put oi.dst v) w → Q (.panic c) a w) (hif : fs.contains i = false) (hw : r = true → waits md ops fs i = true) :
  ∀ (fuel : Nat) (listed : Array Bool) (a : Act) (w : World),
   (∀ j oj, ops[j]? = some oj → j ≠ i → listed.getD j true = false → (∀ e ∈ oj.after, Region.binds md e = true → e.on ≠ i) → oi.apart ops oj = true) →
   i ∈ Region.ready md ops listed → (r = true → clean fs listed = true) → YieldsIf P ops (fun w => S w ∧ (r = true → R w)) oi v a → S w → (r = true → R w) → (clean fs listed = true → R w) →
   wpAnyF P md ops Q S R fs fuel (listed.setIfInBounds i true) (a.put oi.dst v) w → wpAnyF P md ops Q S R fs (fuel + 1) listed a w := by
 intro fuel
 induction fuel with
 | zero =>
  intro listed a w _ hr _ hy hS hR hC H
  refine ⟨fun h => (by rw [h] at hr; cases hr), fun j hj => ?_⟩
  by_cases hji : j = i
  ·subst hji; exact hy.wpOp hi ⟨hS, hR⟩ ⟨⟨hS, fun h => hC (by rwa [clean_set hif] at h)⟩, H⟩
  ·have := ready_mono hj hji
   rw [H.1] at this
   cases this
 | succ fuel ih =>
  intro listed a w hfree hr hcl hy hS hR hC H
  refine ⟨fun h => (by rw [h] at hr; cases hr), fun j hj => ?_⟩
  by_cases hji : j = i
  ·subst hji; exact hy.wpOp hi ⟨hS, hR⟩ ⟨⟨hS, fun h => hC (by rwa [clean_set hif] at h)⟩, H⟩
  ·have h1 := H.2 j (ready_mono hj hji)
   obtain ⟨hjun, oj, hoj, hall⟩ := mem_ready.1 hj
   have hnot : ∀ e ∈ oj.after, Region.binds md e = true → e.on ≠ i := fun e he hb heq => by
    have h1 := hall e he hb
    have h0 := (mem_ready.1 hr).1
    rw [heq] at h1
    rcases Nat.lt_or_ge i listed.size with h' | h'
    ·simp [h'] at h0 h1; rw [h0] at h1; cases h1
    ·simp [Array.getElem?_eq_none h'] at h1
   have hjf : r = true → fs.contains j = false := fun hr1 => by
    cases hc : fs.contains j with
    | false => rfl
    | true =>
     have hj1 : j ∈ fs := by simpa using hc
     have hww := hw hr1
     unfold waits at hww
     rw [List.all_eq_true] at hww
     have h2 := hww j hj1
     rw [hoj] at h2
     obtain ⟨e, he, hb⟩ := Array.any_eq_true'.1 h2
     simp only [Bool.and_eq_true, beq_iff_eq] at hb
     exact absurd hb.2 (hnot e he hb.1)
   have h2 := wpOp_putIf hoj (hfree j oj hoj hji hjun hnot) (fun cs b => hsel i oi cs b hi) (fun cs b => hsel j oj cs b hoj) hQ hy h1
   have hfree' : ∀ k ok, ops[k]? = some ok → k ≠ i → (listed.setIfInBounds j true).getD k true = false →
     (∀ e ∈ ok.after, Region.binds md e = true → e.on ≠ i) → oi.apart ops ok = true := fun k ok hk hki hun hno => by
    refine hfree k ok hk hki ?_ hno
    by_cases hjk : j = k
    ·subst hjk; exact hjun
    ·rw [getD_set_ne true hjk] at hun; exact hun
   have hset : clean fs ((listed.setIfInBounds i true).setIfInBounds j true) = clean fs (listed.setIfInBounds j true) := by
    rw [Array.setIfInBounds_comm _ _ (Ne.symm hji), clean_set hif]
   refine wpOp_mono (fun a' w' h3 => ?_) h2
   have hRj : clean fs (listed.setIfInBounds j true) = true → R w' := fun h => h3.2.1.2 (by rw [hset]; exact h)
   have hclj : r = true → clean fs (listed.setIfInBounds j true) = true := fun hr1 => by rw [clean_set (hjf hr1)]; exact hcl hr1
   refine ⟨⟨h3.2.1.1, hRj⟩, ih (listed.setIfInBounds j true) a' w' hfree' (ready_mono hr (Ne.symm hji)) hclj h3.1 h3.2.1.1 (fun hr1 => hRj (hclj hr1)) hRj ?_⟩
   rw [Array.setIfInBounds_comm _ _ hji]
   exact h3.2.2
/-- Take an operation first that yields its value wherever S holds. -/
theorem wpAnyF_take {i : Nat} {oi : Oper} {v : Value} {fuel : Nat} {listed : Array Bool} {a : Act} {w : World} (hi : ops[i]? = some oi)
  (hs : Region.noSelect ops = true) (hf : Region.free md ops listed i = true) (hr : (Region.ready md ops listed).contains i = true) (hif : fs.contains i = false)
  (hQ : ∀ c a w, Q (.panic c) (a.put oi.dst v) w → Q (.panic c) a w) (hy : YieldsIf P ops S oi v a) (hS : S w) (hR : clean fs listed = true → R w)
  (h : wpAnyF P md ops Q S R fs fuel (listed.setIfInBounds i true) (a.put oi.dst v) w) : wpAnyF P md ops Q S R fs (fuel + 1) listed a w :=
 wpAnyF_first (r := false) hi (Region.noSelect_spec hs) hQ hif (fun e => by cases e) fuel listed a w (Region.free_spec hi hf) (by simpa using hr) (fun e => by cases e) (by rcases hy with h | h; exact .inl ⟨h.1, fun w hw => h.2 w hw.1⟩; exact .inr h) hS (fun e => by cases e) hR h
/-- Take an operation first that yields its value wherever S and R hold, and for which the last ones wait. -/
theorem wpAnyF_takeR {i : Nat} {oi : Oper} {v : Value} {fuel : Nat} {listed : Array Bool} {a : Act} {w : World} (hi : ops[i]? = some oi)
  (hs : Region.noSelect ops = true) (hf : Region.free md ops listed i = true) (hr : (Region.ready md ops listed).contains i = true) (hif : fs.contains i = false) (hw : waits md ops fs i = true) (hc : clean fs listed = true)
  (hQ : ∀ c a w, Q (.panic c) (a.put oi.dst v) w → Q (.panic c) a w) (hy : YieldsIf P ops (fun w => S w ∧ R w) oi v a) (hS : S w) (hR : clean fs listed = true → R w)
  (h : wpAnyF P md ops Q S R fs fuel (listed.setIfInBounds i true) (a.put oi.dst v) w) : wpAnyF P md ops Q S R fs (fuel + 1) listed a w :=
 wpAnyF_first (r := true) hi (Region.noSelect_spec hs) hQ hif (fun _ => hw) fuel listed a w (Region.free_spec hi hf) (by simpa using hr) (fun _ => hc) (by rcases hy with h | h; exact .inl ⟨h.1, fun w hw => h.2 w ⟨hw.1, hw.2 rfl⟩⟩; exact .inr h) hS (fun _ => hR hc) hR h
theorem wpAnyF_done {listed : Array Bool} {a : Act} {w : World} (hr : Region.ready md ops listed = []) (h : Q .normal a w) :
  ∀ fuel, wpAnyF P md ops Q S R fs fuel listed a w
 | 0 => ⟨hr, h⟩
 | _ + 1 => ⟨fun _ => h, by rw [hr]; simp⟩
def AllReadyF (P : Program) (md : Region.Mode) (ops : Array Oper) (Q : Exit → Act → World → Prop) (S R : World → Prop) (fs : List Nat) (fuel : Nat) (listed : Array Bool) (a : Act) (w : World) (rs : List Nat) : Prop :=
 ∀ i ∈ rs, wpOp P ops Q i (fun a' w' => (S w' ∧ (clean fs (listed.setIfInBounds i true) = true → R w')) ∧ wpAnyF P md ops Q S R fs fuel (listed.setIfInBounds i true) a' w') a w
theorem AllReadyF.nil {fuel : Nat} {listed : Array Bool} {a : Act} {w : World} : AllReadyF P md ops Q S R fs fuel listed a w [] := fun _ h => by cases h
theorem AllReadyF.cons {fuel : Nat} {listed : Array Bool} {a : Act} {w : World} {i : Nat} {o : Oper} {rs : List Nat} (ho : ops[i]? = some o)
  (h : ∀ K' : Act → World → Prop, Shut (∀ a w, S w → (clean fs (listed.setIfInBounds i true) = true → R w) → (S w → (clean fs (listed.setIfInBounds i true) = true → R w) → wpAnyF P md ops Q S R fs fuel (listed.setIfInBounds i true) a w) → K' a w) → if Region.wanted o (yielded ops a.tmps) = true then Oper.wp P o a w K' Q else K' (a.put o.dst undef) w)
  (hs : AllReadyF P md ops Q S R fs fuel listed a w rs) : AllReadyF P md ops Q S R fs fuel listed a w (i :: rs) := fun j hj => by
 rcases List.mem_cons.1 hj with rfl | hj
 ·exact wpOp_step ho (fun K' hK => h K' (fun a w hS hR hW => hK a w ⟨⟨hS, hR⟩, hW hS hR⟩))
 ·exact hs j hj
theorem wpAnyF_ready {rs : List Nat} {fuel : Nat} {listed : Array Bool} {a : Act} {w : World} (hr : Region.ready md ops listed = rs) (hne : rs ≠ [])
  (h : AllReadyF P md ops Q S R fs fuel listed a w rs) : wpAnyF P md ops Q S R fs (fuel + 1) listed a w := ⟨fun h0 => absurd (hr ▸ h0) hne, hr ▸ h⟩
theorem wp_region_F {id : Nat} {a : Act} {w : World} (fs : List Nat) (hm : P.follows .mixedOrders = true) (hS : S w.drew) (hR : R w.drew)
  (h : S w.drew → R w.drew → wpAnyF P .any ops Q S R fs ops.size (Array.replicate ops.size false) a w.drew) : (Code.region id ops true).wp P Q a w :=
 wp_region_any hm (wpAny_of_F _ _ _ _ (h hS hR))
/-- Reading operations, one behind the other: each yields its value wherever C holds. -/
def rd (P : Program) (ops : Array Oper) (Q : Exit → Act → World → Prop) (C : World → Prop) (K : Act → Prop) : List Nat → Act → Prop
 | [], a => K a
 | i :: r, a => match ops[i]? with
  | some o => ∃ v, YieldsIf P ops C o v a ∧ (∀ c a w, Q (.panic c) (a.put o.dst v) w → Q (.panic c) a w) ∧ rd P ops Q C K r (a.put o.dst v)
  | none => False
def tkB (md : Region.Mode) (ops : Array Oper) (fs : List Nat) : List Nat → Array Bool → Bool
 | [], _ => true
 | i :: r, l => (Region.free md ops l i && ((Region.ready md ops l).contains i && (!fs.contains i && (waits md ops fs i && clean fs l)))) && tkB md ops fs r (l.setIfInBounds i true)
def setL (l : Array Bool) : List Nat → Array Bool
 | [] => l
 | i :: r => setL (l.setIfInBounds i true) r
theorem wpAnyF_group (hs : Region.noSelect ops = true) (w : World) (hR : R w) : ∀ (is : List Nat) (fuel : Nat) (listed : Array Bool) (a : Act), tkB md ops fs is listed = true →
  rd P ops Q R (fun a' => wpAnyF P md ops Q (fun _ => True) R fs fuel (setL listed is) a' w) is a → wpAnyF P md ops Q (fun _ => True) R fs (fuel + is.length) listed a w
 | [], _, _, _, _, h => h
 | i :: r, fuel, listed, a, hb, h => by
  unfold tkB at hb
  simp only [Bool.and_eq_true, Bool.not_eq_true'] at hb
  obtain ⟨⟨h1, h2, h3, h4, h5⟩, h6⟩ := hb
  unfold rd at h
  cases ho : ops[i]? with
  | none => rw [ho] at h; exact h.elim
  | some o =>
   rw [ho] at h
   obtain ⟨v, hy, hq, hr⟩ := h
   exact wpAnyF_takeR ho hs h1 h2 h3 h4 h5 hq (by rcases hy with h | h; exact .inl ⟨h.1, fun w hw => h.2 w hw.2⟩; exact .inr h) trivial (fun _ => hR) (wpAnyF_group hs w hR r fuel (listed.setIfInBounds i true) (a.put o.dst v) h6 hr)
def tkS (md : Region.Mode) (ops : Array Oper) (fs : List Nat) : List Nat → Array Bool → Bool
 | [], _ => true
 | i :: r, l => (Region.free md ops l i && ((Region.ready md ops l).contains i && !fs.contains i)) && tkS md ops fs r (l.setIfInBounds i true)
/-- .. that read no memory. -/
theorem wpAnyF_groupS (hs : Region.noSelect ops = true) (w : World) (hR : R w) : ∀ (is : List Nat) (fuel : Nat) (listed : Array Bool) (a : Act), tkS md ops fs is listed = true →
  rd P ops Q (fun _ => True) (fun a' => wpAnyF P md ops Q (fun _ => True) R fs fuel (setL listed is) a' w) is a → wpAnyF P md ops Q (fun _ => True) R fs (fuel + is.length) listed a w
 | [], _, _, _, _, h => h
 | i :: r, fuel, listed, a, hb, h => by
  unfold tkS at hb
  simp only [Bool.and_eq_true, Bool.not_eq_true'] at hb
  obtain ⟨⟨h1, h2, h3⟩, h6⟩ := hb
  unfold rd at h
  cases ho : ops[i]? with
  | none => rw [ho] at h; exact h.elim
  | some o =>
   rw [ho] at h
   obtain ⟨v, hy, hq, hr⟩ := h
   exact wpAnyF_take ho hs h1 h2 h3 hq hy trivial (fun _ => hR) (wpAnyF_groupS hs w hR r fuel (listed.setIfInBounds i true) (a.put o.dst v) h6 hr)
/-- A region that reads, and in the end writes: into the walk. -/
theorem wp_region_G {id : Nat} {a : Act} {w : World} (fs : List Nat) (hm : P.follows .mixedOrders = true) (hR : R w.drew)
  (h : R w.drew → wpAnyF P .any ops Q (fun _ => True) R fs ops.size (Array.replicate ops.size false) a w.drew) : (Code.region id ops true).wp P Q a w :=
 wp_region_F fs hm trivial hR fun _ h2 => h h2
/-- The first group. -/
theorem wp_region_H {id : Nat} {a : Act} {w : World} (fs is : List Nat) (n : Nat) (hm : P.follows .mixedOrders = true) (hR : R w.drew) (hn : ops.size = n + is.length) (hs : Region.noSelect ops = true)
  (hb : tkB .any ops fs is (Array.replicate ops.size false) = true) (h : R w.drew → rd P ops Q R (fun a' => wpAnyF P .any ops Q (fun _ => True) R fs n (setL (Array.replicate ops.size false) is) a' w.drew) is a) : (Code.region id ops true).wp P Q a w :=
 wp_region_G fs hm hR fun h2 => by
  have := wpAnyF_group (md := .any) hs w.drew h2 is n (Array.replicate ops.size false) a hb (h h2)
  rw [← hn] at this
  exact this
theorem rd_nil {C : World → Prop} {K : Act → Prop} {a : Act} (h : K a) : rd P ops Q C K [] a := h
theorem rd_y {C : World → Prop} {K : Act → Prop} {i : Nat} {r : List Nat} {a : Act} {o : Oper} (ho : ops[i]? = some o) (v : Value) (hy : YieldsIf P ops C o v a) (hq : ∀ c a w, Q (.panic c) (a.put o.dst v) w → Q (.panic c) a w) (h : rd P ops Q C K r (a.put o.dst v)) : rd P ops Q C K (i :: r) a := by
 unfold rd
 rw [ho]
 exact ⟨v, hy, hq, h⟩
/-- One reading operation. -/
theorem rd_st {C : World → Prop} {K : Act → Prop} {i : Nat} {r : List Nat} {a : Act} {o : Oper} (ho : ops[i]? = some o) (hw : Region.wanted o (yielded ops a.tmps) = true) (hq : ∀ v c a w, Q (.panic c) (a.put o.dst v) w → Q (.panic c) a w)
  (h : ∃ v, (∀ W, C W → (execOp a.eval o).run P W = .ok (.value v) W) ∧ rd P ops Q C K r (a.put o.dst v)) : rd P ops Q C K (i :: r) a := by
 obtain ⟨v, h1, h2⟩ := h
 exact rd_y ho v (.inl ⟨hw, h1⟩) (hq v) h2
end
end Go.Proofs.YtkocmkaeaagbaaaGreatDoor.Rf
namespace Go.Proofs.YtkocmkaeaagbaaaGreatDoor.Wd
theorem wnt {c : Bool} {A B : Prop} (hc : c = true) (h : A) : if c = true then A else B := by rw [if_pos hc]; exact h
end Go.Proofs.YtkocmkaeaagbaaaGreatDoor.Wd
