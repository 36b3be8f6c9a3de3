/- keyholdlaw.WorldNews, walked. -/
import Derived.Test.YtfpkbfhaipgibaaDoorWdNwNo
import Derived.Test.YtfpkbfhaipgibaaDoorTell
import Derived.Deep.DeepCutAuto
namespace Go.Proofs.YtfpkbfhaipgibaaDoor.Wd
open Go.RowKit Go.Proofs.YtfpkbfhaipgibaaDoor.Mem Go.Proofs.YtfpkbfhaipgibaaDoor.Bw Go.Proofs.YtfpkbfhaipgibaaDoor.Nums Go.Proofs.YtfpkbfhaipgibaaDoor.Mmu

theorem IntsIn.one {w : World} {v : Value} {zs : List Int} (h : IntsIn w v zs) : v.oneCell' = true := by obtain ⟨q, b, off, cap, rfl, _⟩ := h; rfl
theorem ListsIn.one {w : World} {v : Value} {zs : List (List Int)} (h : ListsIn w v zs) : v.oneCell' = true := by obtain ⟨q, b, off, cap, rfl, _⟩ := h; rfl
theorem TlbsIn.one {w : World} {v : Value} {zs : List (List Ent)} (h : TlbsIn w v zs) : v.oneCell' = true := by obtain ⟨q, b, off, cap, rfl, _⟩ := h; rfl
theorem RowsIn.one {n : Nat} {w : World} {v : Value} {zs : List (Nat → Int)} (h : RowsIn n w v zs) : v.oneCell' = true := by obtain ⟨q, b, off, cap, rfl, _⟩ := h; rfl
theorem WorldV.one {w : World} {V : Nat → Value} {p : PW} (h : WorldV w V p) : (arr11 V).all (·.oneCell') = true := Array.all_eq_true'.2 fun x hx => by
  have ht : (V 10).oneCell' = true := by rw [h.time]; rfl
  simp only [List.mem_toArray, List.mem_cons, List.not_mem_nil, or_false] at hx
  rcases hx with rfl | rfl | rfl | rfl | rfl | rfl | rfl | rfl | rfl | rfl | rfl
  · exact h.ram.one
  · exact h.kinds.one
  · exact h.slots.one
  · exact h.tasks.one
  · exact h.lines.one
  · exact h.bits.one
  · exact h.cores.one
  · exact h.ready.one
  · exact h.tlbs.one
  · exact h.doms.one
  · exact ht
theorem new_fits (f c : Nat) (zs : List Int) (hf : f ≤ 24) (hc : c ≤ 4) (hz : zs.length ≤ 8) : (newP f c zs).Fits := by
  constructor
  case line => intro l hl; rw [(List.mem_replicate.1 hl).2]; simp
  case next => intro l hl; rw [(List.mem_replicate.1 hl).2]; simp
  all_goals simp only [newP, List.length_replicate]; omega
theorem no_fits : noP.Fits := by
  constructor
  case line => intro l hl; simp [noP] at hl
  case next => intro l hl; simp [noP] at hl
  all_goals simp [noP]
set_option maxRecDepth 100000 in
set_option maxHeartbeats 4000000 in
theorem news_main (f c : Int) (dv : Value) (zs : List Int) (p : PW) (e a : Int) (w : World) (hd : IntsIn w dv zs) (hl : zs.length ≤ 100) (hg : ETok w) (hp : p.Fits)
    (hA : ∀ W, IntsIn W dv zs → Calls Tryd.prog 29 #[.int .i64 f, .int .i64 c, dv] W fun r w' => ∃ V, r = .returned (.tuple #[.agg (arr11 V), .agg #[.int .i64 e, .int .i64 a]]) ∧ WorldV w' V p ∧ Below W.heap.size W w')
    (hB : ∀ W, IntsIn W dv zs → Calls Tryd.prog 30 #[.int .i64 f, .int .i64 c, dv] W fun r w' => ∃ V x, r = .returned (.tuple #[.agg (arr11 V), x]) ∧ WorldV w' V p ∧ Tells w' x e a ∧ Below W.heap.size W w') :
    Calls Tryd.prog 6 #[.int .i64 f, .int .i64 c, dv] w fun r w' => r = .returned (.bool true) ∧ Below w.heap.size w w' := by
  have HA := hid hA
  have HB := hid hB
  clear hA hB
  have HD := hid hd
  have HG := hid hg
  have HP := hid hp
  obtain ⟨q, b, off, cap, rfl, -, -⟩ := hd
  have zl : (zs.length : Int) ≤ 100 := by omega
  clear hg hp
  go_enter Tryd.func6, Tryd.ntmps6
  go_wp2_with fail
  refine (HA.out w HD.out).mono ?_
  rintro r w1 ⟨V, rfl, hV, hb⟩
  have B1 := hid hb
  have V1 := hid hV
  have O1 := hid hV.one
  clear hb hV
  have T6 := hid (there_belowO (there_new w1 #[.slice none 0 0, .slice none 0 0, .slice none 0 0, .slice none 0 0, .slice none 0 0, .slice none 0 0, .slice none 0 0, .slice none 0 0, .slice none 0 0, .slice none 0 0, .int .i64 0] 68 w1.heap.size 11 rfl (by decide)) (bal (Below.refl _ _) (.cells #[.int .i64 0, .int .i64 0] 25)))
  have T7 := hid (World.there_setCells (there_new (w1.alloc (.cells #[.slice none 0 0, .slice none 0 0, .slice none 0 0, .slice none 0 0, .slice none 0 0, .slice none 0 0, .slice none 0 0, .slice none 0 0, .slice none 0 0, .slice none 0 0, .int .i64 0] 68)) #[.int .i64 0, .int .i64 0] 25 (w1.heap.size + 1) 2 (by simp) (by decide)) w1.heap.size 0 (arr11 V).toList)
  have R6 := hid (World.rangeAt_setCells_same _ w1.heap.size 0 (arr11 V).toList T6.out)
  have B6 := hid (below_setCells (bal (bal (Below.refl w1.heap.size w1) (.cells #[.slice none 0 0, .slice none 0 0, .slice none 0 0, .slice none 0 0, .slice none 0 0, .slice none 0 0, .slice none 0 0, .slice none 0 0, .slice none 0 0, .slice none 0 0, .int .i64 0] 68)) (.cells #[.int .i64 0, .int .i64 0] 25)) (Nat.le_refl _) (arr11 V).toList 0)
  go_wp2_with (first
    | ((with_reducible (show wpList _ _ _ (⟨_, Op.store 68 _ _, _, _, _, _⟩ :: _) _ _)); refine wpList_store_mid rfl 68 _ _ rfl w1.heap.size 0 (arr11 V) rfl rfl T6.out info11 O1.out ?_; generalize World.setCells _ _ _ _ = W6 at T7 R6 B6 ⊢)
    | ((with_reducible (show wpList _ _ _ (⟨_, Op.store 25 _ _, _, _, _, _⟩ :: _) _ _)); refine wpList_store_mid rfl 25 _ _ rfl (w1.heap.size + 1) 0 #[.int .i64 e, .int .i64 a] rfl rfl T7.out infoBad (by simp [Value.oneCell']) ?_))
  have R7 := hid (World.rangeAt_setCells_apart R6.out (w1.heap.size + 1) 0 [.int .i64 e, .int .i64 a] (.inl (by omega)))
  have P7 := hid (World.rangeAt_setCells_same W6 (w1.heap.size + 1) 0 [.int .i64 e, .int .i64 a] T7.out)
  have B7 := hid (below_setCells B6.out (show w1.heap.size ≤ w1.heap.size + 1 by omega) [.int .i64 e, .int .i64 a] 0)
  generalize W6.setCells (w1.heap.size + 1) 0 [.int .i64 e, .int .i64 a] = W7 at R7 P7 B7 ⊢
  clear T6 T7 R6 B6
  refine (HB.out W7 (HD.out.below (btr B1.out B7.out))).mono ?_
  rintro r w3 ⟨V', x, rfl, hV, hT, hb⟩
  have B3 := hid (btr B7.out hb)
  have V3 := hid (V1.out.below B3.out)
  have U3 := hid hV
  have O3 := hid hV.one
  have X3 := hid hT
  have R3 := hid (range_below R7.out hb)
  have P3 := hid (range_below P7.out hb)
  clear hb hV hT R7 P7 B7 V1
  have T8 := hid (there_new w3 #[.slice none 0 0, .slice none 0 0, .slice none 0 0, .slice none 0 0, .slice none 0 0, .slice none 0 0, .slice none 0 0, .slice none 0 0, .slice none 0 0, .slice none 0 0, .int .i64 0] 68 w3.heap.size 11 rfl (by decide))
  have R8 := hid (World.rangeAt_setCells_same _ w3.heap.size 0 (arr11 V').toList T8.out)
  have B8 := hid (below_setCells (bal (Below.refl w3.heap.size w3) (.cells #[.slice none 0 0, .slice none 0 0, .slice none 0 0, .slice none 0 0, .slice none 0 0, .slice none 0 0, .slice none 0 0, .slice none 0 0, .slice none 0 0, .slice none 0 0, .int .i64 0] 68)) (Nat.le_refl _) (arr11 V').toList 0)
  go_upto_region 5 with (first
    | ((with_reducible (show wpList _ _ _ (⟨_, Op.store 68 _ _, _, _, _, _⟩ :: _) _ _)); refine wpList_store_mid rfl 68 _ _ rfl w3.heap.size 0 (arr11 V') rfl rfl T8.out info11 O3.out ?_; generalize World.setCells _ _ _ _ = W8 at R8 B8 ⊢))
  have BW := hid (btr B1.out (btr B3.out B8.out))
  have V8 := hid (V3.out.below B8.out)
  have U8 := hid (U3.out.below B8.out)
  have X8 := hid (X3.out.below B8.out)
  have Q8 := hid (range_below R3.out B8.out)
  have P8 := hid (range_below P3.out B8.out)
  have c0 : W8.cell? ⟨w1.heap.size + 1, 0, none⟩ = some (.int .i64 e) := range_cell P8.out rfl
  have c1 : W8.cell? ⟨w1.heap.size + 1, 1, none⟩ = some (.int .i64 a) := range_cell P8.out rfl
  clear T8 B8 V3 U3 X3 R3 P3 B3
  go_wp2_with fail
  refine (is_yes x e a W8 (HG.out.below BW.out) X8.out).mono ?_
  rintro r w9 ⟨rfl, hb⟩
  have B9 := hid (btr BW.out hb)
  have V9 := hid (V8.out.below hb)
  have U9 := hid (U8.out.below hb)
  have Q9 := hid (range_below Q8.out hb)
  have R9 := hid (range_below R8.out hb)
  clear hb c0 c1
  have d0 : w9.cell? ⟨w3.heap.size, 0, none⟩ = some (V' 0) := range_cell R9.out (k := 0) rfl
  have g0 : w9.cell? ⟨w1.heap.size, 0, none⟩ = some (V 0) := range_cell Q9.out (k := 0) rfl
  have d1 : w9.cell? ⟨w3.heap.size, 1, none⟩ = some (V' 1) := range_cell R9.out (k := 1) rfl
  have g1 : w9.cell? ⟨w1.heap.size, 1, none⟩ = some (V 1) := range_cell Q9.out (k := 1) rfl
  have d2 : w9.cell? ⟨w3.heap.size, 2, none⟩ = some (V' 2) := range_cell R9.out (k := 2) rfl
  have g2 : w9.cell? ⟨w1.heap.size, 2, none⟩ = some (V 2) := range_cell Q9.out (k := 2) rfl
  have d3 : w9.cell? ⟨w3.heap.size, 3, none⟩ = some (V' 3) := range_cell R9.out (k := 3) rfl
  have g3 : w9.cell? ⟨w1.heap.size, 3, none⟩ = some (V 3) := range_cell Q9.out (k := 3) rfl
  have d4 : w9.cell? ⟨w3.heap.size, 4, none⟩ = some (V' 4) := range_cell R9.out (k := 4) rfl
  have g4 : w9.cell? ⟨w1.heap.size, 4, none⟩ = some (V 4) := range_cell Q9.out (k := 4) rfl
  have d5 : w9.cell? ⟨w3.heap.size, 5, none⟩ = some (V' 5) := range_cell R9.out (k := 5) rfl
  have g5 : w9.cell? ⟨w1.heap.size, 5, none⟩ = some (V 5) := range_cell Q9.out (k := 5) rfl
  have d6 : w9.cell? ⟨w3.heap.size, 6, none⟩ = some (V' 6) := range_cell R9.out (k := 6) rfl
  have g6 : w9.cell? ⟨w1.heap.size, 6, none⟩ = some (V 6) := range_cell Q9.out (k := 6) rfl
  have d7 : w9.cell? ⟨w3.heap.size, 7, none⟩ = some (V' 7) := range_cell R9.out (k := 7) rfl
  have g7 : w9.cell? ⟨w1.heap.size, 7, none⟩ = some (V 7) := range_cell Q9.out (k := 7) rfl
  have d8 : w9.cell? ⟨w3.heap.size, 8, none⟩ = some (V' 8) := range_cell R9.out (k := 8) rfl
  have g8 : w9.cell? ⟨w1.heap.size, 8, none⟩ = some (V 8) := range_cell Q9.out (k := 8) rfl
  have d9 : w9.cell? ⟨w3.heap.size, 9, none⟩ = some (V' 9) := range_cell R9.out (k := 9) rfl
  have g9 : w9.cell? ⟨w1.heap.size, 9, none⟩ = some (V 9) := range_cell Q9.out (k := 9) rfl
  have d10 : w9.cell? ⟨w3.heap.size, 10, none⟩ = some (V' 10) := range_cell R9.out (k := 10) rfl
  have g10 : w9.cell? ⟨w1.heap.size, 10, none⟩ = some (V 10) := range_cell Q9.out (k := 10) rfl
  go_wp2_with fail
  refine (sameWorld_yes V' V p w9 U9.out V9.out HP.out).mono ?_
  rintro r wx ⟨rfl, hb⟩
  have BX := hid (btr B9.out hb)
  clear hb
  go_wp2_with fail
  go_ret
  exact ⟨rfl, BX.out⟩
theorem worldNews_some (f c : Int) (dv : Value) (zs : List Int) (w : World) (hd : IntsIn w dv zs) (hl : zs.length ≤ 100) (hg : ETok w) :
    Calls Tryd.prog 6 #[.int .i64 f, .int .i64 c, dv] w fun r w' => r = .returned (.bool true) ∧ Below w.heap.size w w' := by
  by_cases hc : (1 ≤ f ∧ f ≤ 24) ∧ (1 ≤ c ∧ c ≤ 4) ∧ (1 ≤ (zs.length : Int) ∧ (zs.length : Int) ≤ 8)
  · by_cases hz : zs.findIdx nd < zs.length
    · refine news_main f c dv zs noP 2 (zs.findIdx nd) w hd hl hg no_fits (fun W hW => ?_) (fun W hW => ?_)
      · exact (newWorld_bad f c dv zs W hW hc hz).mono fun r w' ⟨h1, h2⟩ => ⟨zeroV, h1, zero_world w', h2⟩
      · exact (new_bad f c dv zs W hW hc hz).mono fun r w' ⟨b, h1, h2, h3, h4⟩ => ⟨zeroV, _, h1, zero_world w', .inr (.inr ⟨b, 0, rfl, h2, h3⟩), h4⟩
    · have hz2 : zs.findIdx nd = zs.length := Nat.le_antisymm List.findIdx_le_length (by omega)
      obtain ⟨F, rfl⟩ : ∃ F : Nat, f = F := ⟨f.toNat, by omega⟩
      obtain ⟨C, rfl⟩ : ∃ C : Nat, c = C := ⟨c.toNat, by omega⟩
      refine news_main F C dv zs (newP F C zs) 0 (-1) w hd hl hg (new_fits F C zs (by omega) (by omega) (by omega)) (fun W hW => ?_) (fun W hW => ?_)
      · exact newWorld_yes F C dv zs W hW (by omega) (by omega) (by omega) (by omega) (by omega) (by omega) hz2
      · exact (new_yes F C dv zs W hW (by omega) (by omega) (by omega) (by omega) (by omega) (by omega) hz2).mono fun r w' ⟨V, h1, h2, h3⟩ => ⟨V, _, h1, h2, .inl ⟨rfl, rfl, rfl⟩, h3⟩
  · refine news_main f c dv zs noP 2 (-1) w hd hl hg no_fits (fun W hW => ?_) (fun W hW => ?_)
    · exact (newWorld_range f c dv zs W hW hl hc).mono fun r w' ⟨h1, h2⟩ => ⟨zeroV, h1, zero_world w', h2⟩
    · exact (new_range f c dv zs W hW hl hc).mono fun r w' ⟨h1, h2⟩ => ⟨zeroV, _, h1, zero_world w', .inr (.inl ⟨rfl, rfl⟩), h2⟩
theorem worldNews_far (f c : Int) (q : Option Addr) (n cap : Nat) (w : World) (h1 : 100 < n) (h2 : n ≤ maxLen) :
    Calls Tryd.prog 6 #[.int .i64 f, .int .i64 c, .slice q n cap] w fun r w' => r = .returned (.bool true) ∧ Below w.heap.size w w' := by
  have k1 : (100 : Int) < (n : Int) := by omega
  have k2 : (n : Int) ≤ 9223372036854775807 := by
    have : n ≤ 9223372036854775807 := h2
    omega
  clear h1 h2
  go_enter Tryd.func6, Tryd.ntmps6
  go_wp2_with fail
  go_ret
  exact ⟨rfl, Below.refl _ _⟩
theorem worldNews_any (f c : Int) (dv : Value) (zs : List Int) (w : World) (hd : RawIn w dv zs) (hl : zs.length ≤ maxLen) (hg : ETok w) :
    Calls Tryd.prog 6 #[.int .i64 f, .int .i64 c, dv] w fun r w' => r = .returned (.bool true) ∧ Below w.heap.size w w' := by
  obtain ⟨q, b, off, cap, rfl, hq, hz, _⟩ := hd
  by_cases h : zs.length ≤ 100
  · exact worldNews_some f c _ zs w ⟨q, b, off, cap, rfl, hq, hz⟩ h hg
  · exact worldNews_far f c q zs.length cap w (by omega) hl
end Go.Proofs.YtfpkbfhaipgibaaDoor.Wd
