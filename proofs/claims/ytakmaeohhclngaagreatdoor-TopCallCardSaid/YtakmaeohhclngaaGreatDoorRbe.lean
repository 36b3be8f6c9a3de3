/- A text is read: keyholdref.ReadWorld, where nothing is wrong; walked. · A text's lines as what they do, by computing: if all is well, keyholdref.ReadWorld reads them so. -/
import Derived.Test.YtakmaeohhclngaaGreatDoorRbd
namespace Go.Proofs.YtakmaeohhclngaaGreatDoor.Wd
open Go.RowKit Go.Proofs.YtakmaeohhclngaaGreatDoor.Mem Go.Proofs.YtakmaeohhclngaaGreatDoor.Bw Go.Proofs.YtakmaeohhclngaaGreatDoor.Nums Go.Proofs.YtakmaeohhclngaaGreatDoor.Mmu Go.Proofs.YtakmaeohhclngaaGreatDoor.Hex
/-- A world that lies behind what was there. -/
structure Own (w0 W : World) (wb : Nat) (tag : Nat → Nat) (V : Nat → Value) (p : PW) : Prop where
 b : BoxT W wb tag V p
 t : ∀ k, k < w0.heap.size → tag k = 0
 e : Below w0.heap.size w0 W
theorem Own.next {w0 W W' : World} {wb : Nat} {tag : Nat → Nat} {V : Nat → Value} {p : PW} (h : Own w0 W wb tag V p) (hb : Below W.heap.size W W') : Own w0 W' wb tag V p := ⟨h.b.below hb, h.t, btr h.e hb⟩
theorem Own.to {w0 W W' : World} {wb : Nat} {tag tag' : Nat → Nat} {V V' : Nat → Value} {p p' : PW} (h : Own w0 W wb tag V p) (hb : BoxT W' wb tag' V' p') (hk : Kt tag tag' W W') : Own w0 W' wb tag' V' p' :=
 ⟨hb, fun k hk2 => hk.t k (Nat.lt_of_lt_of_le hk2 h.e.size) (h.t k hk2), hk.k.below h.e h.e.size (fun k hk2 e => e (h.t k hk2))⟩
/-- What a text's lines say, one behind the other. -/
structure Reads (ls : List ByteArray) (P : Nat → PW) (f c : Nat) (zs : List Int) : Prop where
 n0 : 0 < ls.length
 nn : ls.length ≤ 200
 sz : ∀ t ∈ ls, t.size ≤ 1000
 one : ∃ l, cutB 32 (ls.getD 0 ByteArray.empty) = ⟨#[119, 111, 114, 108, 100]⟩ :: l ∧ (∀ t ∈ l, numOk t = true) ∧ l.length ≤ 100 ∧ l.map Prs.decV = (f : Int) :: (c : Int) :: zs ∧ P 1 = wlP f c zs
 num : 1 ≤ f ∧ f ≤ 24 ∧ 1 ≤ c ∧ c ≤ 4 ∧ 1 ≤ zs.length ∧ zs.length ≤ 8 ∧ ∀ z ∈ zs, 0 ≤ z ∧ z ≤ 3
 all : ∀ i, 1 ≤ i → i < ls.length → ∃ x l, cutB 32 (ls.getD i ByteArray.empty) = x :: l ∧ x ≠ ⟨#[119, 111, 114, 108, 100]⟩ ∧ x ≠ ⟨#[99, 111, 100, 101]⟩ ∧ BLine (P i) (P (i + 1)) (x :: l)
/-- A world's values are put into a box. -/
theorem InT.re {w w' : World} {tag : Nat → Nat} {t I s wb : Nat} {u : Value} {c : Nat × List Value} (h : InT w tag t I s u c) (ht : t ≠ 0) (h0 : tag wb = 0) (hk : Kp (fun k => k = wb) w w') : InT w' (fun k => if k = wb then 1 else tag k) t I s u c := by
 have ne : ∀ k, u.ownBlock = some k → k ≠ wb := fun k e f => ht (by rw [← h.2 k e, f, h0])
 exact ⟨own_kp h.1 hk ne, fun k e => (if_neg (ne k e)).trans (h.2 k e)⟩
theorem ListT.re {w w' : World} {tag : Nat → Nat} {t i O I s n wb : Nat} {v : Value} {cc : Nat → Nat × List Value} (h : ListT w tag t i O I s n v cc) (ht : t ≠ 0) (hi : i ≠ 0) (h0 : tag wb = 0) (hk : Kp (fun k => k = wb) w w') : ListT w' (fun k => if k = wb then 1 else tag k) t i O I s n v cc := by
 obtain ⟨g, us, h1, h2, h3, h4, h5⟩ := h
 have ne : g ≠ wb := fun f => ht (by rw [← h2, f, h0])
 refine ⟨g, us, h1, (if_neg ne).trans h2, h3, own_kp h4 hk (fun k e => ?_), fun j hj => (h5 j hj).re (by omega) h0 hk⟩
 have : g = k := by simpa [Value.ownBlock] using e
 rw [← this]
 exact ne
theorem WorldT.box {W : World} {tag : Nat → Nat} {X : Nat → Value} {p : PW} {wb : Nat} (h : WorldT W tag X p) (h0 : tag wb = 0) (ht : W.there wb 0 11) : BoxT (W.setCells wb 0 (arr11 X).toList) wb (fun k => if k = wb then 1 else tag k) X p := by
 have hk : Kp (fun k => k = wb) W (W.setCells wb 0 (arr11 X).toList) := Kp.setCells (T := fun k => k = wb) (.inl rfl) _ _ _ (Kp.refl _ _)
 exact ⟨World.rangeAt_setCells_same W wb 0 (arr11 X).toList ht, World.there_setCells ht _ _ _, if_pos rfl, ⟨h.ram.re (by decide) h0 hk, h.kinds.re (by decide) h0 hk, h.slots.re (by decide) h0 hk, h.tasks.re (by decide) h0 hk, h.lines.re (by decide) (by decide) h0 hk, h.bits.re (by decide) h0 hk, h.cores.re (by decide) h0 hk, h.ready.re (by decide) (by decide) h0 hk, h.tlbs.re (by decide) (by decide) h0 hk, h.doms.re (by decide) h0 hk, h.time⟩⟩
set_option maxRecDepth 100000 in
set_option maxHeartbeats 16000000 in
theorem readWorld_ref (s : ByteArray) (P : Nat → PW) (f c : Nat) (zs : List Int) (w : World) (hs : s.size ≤ 4000) (hr : Reads (Prs.linesB s) P f c zs) (hkn : KnW w) :
  Calls Tryz.prog 15 #[.string s] w fun r w' => ∃ X tag, r = .returned (.tuple #[.agg (arr11 X), .agg #[.int .i64 0, .int .i64 (-1)]]) ∧ WorldT w' tag X (P (Prs.linesB s).length) ∧ (∀ k, k < w.heap.size → tag k = 0) ∧ Below w.heap.size w w' := by
 have B0 := hid (bal (bal (Below.refl w.heap.size w) (.cells #[.slice none 0 0, .slice none 0 0, .slice none 0 0, .slice none 0 0, .slice none 0 0, .slice none 0 0, .slice none 0 0, .slice none 0 0, .slice none 0 0, .slice none 0 0, .int .i64 0] 28)) (.cells #[.int .i64 0, .int .i64 0] 48))
 have Z2 := hid (there_belowO (there_new w #[.slice none 0 0, .slice none 0 0, .slice none 0 0, .slice none 0 0, .slice none 0 0, .slice none 0 0, .slice none 0 0, .slice none 0 0, .slice none 0 0, .slice none 0 0, .int .i64 0] 28 w.heap.size 11 rfl (by decide)) (bal (Below.refl _ _) (.cells #[.int .i64 0, .int .i64 0] 48)))
 have Z3 := hid (there_new (w.alloc (.cells #[.slice none 0 0, .slice none 0 0, .slice none 0 0, .slice none 0 0, .slice none 0 0, .slice none 0 0, .slice none 0 0, .slice none 0 0, .slice none 0 0, .slice none 0 0, .int .i64 0] 28)) #[.int .i64 0, .int .i64 0] 48 (w.heap.size + 1) 2 (by simp) (by decide))
 have SZ := hid (show w.heap.size + 2 = ((w.alloc (.cells #[.slice none 0 0, .slice none 0 0, .slice none 0 0, .slice none 0 0, .slice none 0 0, .slice none 0 0, .slice none 0 0, .slice none 0 0, .slice none 0 0, .slice none 0 0, .int .i64 0] 28)).alloc (.cells #[.int .i64 0, .int .i64 0] 48)).heap.size by simp)
 have HL := hid (fun W : World => Prs.refLines_any s W (by omega))
 obtain ⟨ls, els⟩ : ∃ ls, Prs.linesB s = ls := ⟨_, rfl⟩
 rw [els] at HL hr ⊢
 clear els
 have HR := hid hr
 have HK := hid hkn
 have hs2 : (s.size : Int) ≤ 4000 := by omega
 clear hr hkn hs
 go_enter Tryz.func15, Tryz.ntmps15
 go_wp2_with fail
 refine (HL.out _).mono ?_
 rintro r w3 ⟨lb, lcap, rfl, hst, hb3⟩
 generalize World.alloc (World.alloc w _) _ = W0 at *
 have B3 := hid (btr B0.out hb3)
 have Z23 := hid (there_belowO Z2.out hb3)
 have Z33 := hid (there_belowO Z3.out hb3)
 have L3 := hid (show w.heap.size + 2 ≤ w3.heap.size by have := SZ.out; have := hb3.size; omega)
 have ST := hid hst
 clear hst hb3 Z2 Z3 B0 SZ HL
 have T5 := hid (there_new w3 #[.slice none 0 0, .slice none 0 0, .slice none 0 0, .slice none 0 0, .slice none 0 0, .slice none 0 0, .slice none 0 0, .slice none 0 0, .slice none 0 0, .slice none 0 0, .int .i64 0] 28 w3.heap.size 11 rfl (by decide))
 go_upto_region 7 with (first | ((with_reducible (show wpList _ _ _ (⟨_, Op.store 28 _ _, _, _, _, _⟩ :: _) _ _)); refine wpList_store_mid rfl 28 _ _ rfl w3.heap.size 0 #[.slice none 0 0, .slice none 0 0, .slice none 0 0, .slice none 0 0, .slice none 0 0, .slice none 0 0, .slice none 0 0, .slice none 0 0, .slice none 0 0, .slice none 0 0, .int .i64 0] rfl rfl T5.out infoW (by simp [Value.oneCell']) ?_))
 have T6 := hid (World.there_setCells T5.out w3.heap.size 0 [.slice none 0 0, .slice none 0 0, .slice none 0 0, .slice none 0 0, .slice none 0 0, .slice none 0 0, .slice none 0 0, .slice none 0 0, .slice none 0 0, .slice none 0 0, .int .i64 0])
 have KX := hid (show Kp (fun k => k = w3.heap.size) (w3.alloc (.cells #[.slice none 0 0, .slice none 0 0, .slice none 0 0, .slice none 0 0, .slice none 0 0, .slice none 0 0, .slice none 0 0, .slice none 0 0, .slice none 0 0, .slice none 0 0, .int .i64 0] 28)) ((w3.alloc (.cells #[.slice none 0 0, .slice none 0 0, .slice none 0 0, .slice none 0 0, .slice none 0 0, .slice none 0 0, .slice none 0 0, .slice none 0 0, .slice none 0 0, .slice none 0 0, .int .i64 0] 28)).setCells w3.heap.size 0 [.slice none 0 0, .slice none 0 0, .slice none 0 0, .slice none 0 0, .slice none 0 0, .slice none 0 0, .slice none 0 0, .slice none 0 0, .slice none 0 0, .slice none 0 0, .int .i64 0]) from Kp.setCells (T := fun k => k = w3.heap.size) (.inl rfl) _ _ _ (Kp.refl _ _))
 have B5 := hid (KX.out.below (bal (Below.refl w3.heap.size w3) (.cells #[.slice none 0 0, .slice none 0 0, .slice none 0 0, .slice none 0 0, .slice none 0 0, .slice none 0 0, .slice none 0 0, .slice none 0 0, .slice none 0 0, .slice none 0 0, .int .i64 0] 28)) (by simp) (fun k hk e => by omega))
 clear KX T5
 generalize World.setCells _ _ _ _ = W5 at T6 B5 ⊢
 generalize hwb : w3.heap.size = wb at T6 ⊢
 have HWB := hid hwb
 clear hwb
 have NN := hid HR.out.nn
 have nn2 : (ls.length : Int) ≤ 200 := by have := HR.out.nn; omega
 have LS := hid (fun W (h : Below w3.heap.size w3 W) k (hk : k < ls.length) => show W.cell? ⟨lb, k, none⟩ = some (.string ls[k]) from by have := ST.out k hk; rw [Nat.zero_add] at this; exact cupx h this)
 have CU := hid (fun W k (hk : k < ls.length) => cut_cap ls[k] 32 W (by have := HR.out.sz ls[k] (List.getElem_mem hk); omega))
 have KN := hid (fun W (h : Below w3.heap.size w3 W) => HK.out.below (btr B3.out h))
 go_loopw [6, 7] (fun g i wr => ∃ k : Nat, k ≤ ls.length ∧ i = .int .i64 (k : Int) ∧ ((k = 0 ∧ g = .bool false ∧ Hid (wr.there wb 0 11 ∧ Below w3.heap.size w3 wr)) ∨ (1 ≤ k ∧ g = .bool true ∧ ∃ tag V, Hid (Own w3 wr wb tag V (P k))))) (fun _ i _ => ls.length - (intOf i).toNat)
 case atStart => exact ⟨0, by omega, rfl, .inl ⟨rfl, rfl, hid ⟨T6.out, B5.out⟩⟩⟩
 case round =>
  clear T6 B5
  obtain ⟨k, hk, rfl, h2⟩ := hrel
  rcases h2 with ⟨rfl, rfl, HZ⟩ | ⟨hk1, rfl, tag, V, HO⟩
  ·have n0 := HR.out.n0
   have n0b : (0 : Int) < (ls.length : Int) := by omega
   obtain ⟨l, e1, hok, hl1, hm, eP⟩ := HR.out.one
   obtain ⟨f0, f1, c0, c1, z0, z1, hz⟩ := HR.out.num
   have CZ := hid (CU.out wr 0 n0)
   have cz := LS.out _ HZ.out.2 0 n0
   rw [show ls[0] = ls.getD 0 ByteArray.empty by rw [List.getD_eq_getElem?_getD, List.getElem?_eq_getElem n0]; rfl] at CZ cz
   rw [e1] at CZ
   have HL3 := hid (show 3 ≤ l.length by have := congrArg List.length hm; simp at this; omega)
   have WL := hid (fun xb cap W (h : StrsAt W xb 1 l) => worldLine_ref xb 1 cap f c zs l W h hok hl1 hm f0 f1 c0 c1 z0 z1 hz)
   have EP := hid eP
   clear e1 hok hm eP f0 f1 c0 c1 z0 z1 hz n0
   generalize ls.getD 0 ByteArray.empty = line at CZ cz
   have hl2 : (l.length : Int) ≤ 100 := by omega
   clear hl1
   go_wp2_with fail
   refine CZ.out.mono ?_
   rintro r w6 ⟨xb, xcap, rfl, hx, hb6, hle⟩
   obtain ⟨x0, hx1⟩ := strs_tail hx
   have HX1 := hid hx1
   have hcap : ¬ xcap = 1 := by have := HL3.out; simp at hle; omega
   have hone : (1 : Int) ≤ (l.length : Int) + 1 := by omega
   have T6 := hid (there_belowO HZ.out.1 hb6)
   have B6 := hid (btr HZ.out.2 hb6)
   clear hx hx1 hle hb6 cz CZ HZ
   go_wp2_with fail
   refine (WL.out xb (xcap - 1) w6 HX1.out).mono ?_
   rintro r w7 ⟨X, tag, rfl, hw, htz, hb7⟩
   have T7 := hid (there_belowO T6.out hb7)
   have B7 := hid (btr B6.out hb7)
   have LWB := hid (show wb < w6.heap.size from World.block_lt_of_cell? _ _ (Option.isSome_iff_exists.1 (T6.out 0 (by omega)).1).choose_spec)
   have OW := hid (show Own w3 (w7.setCells wb 0 [X 0, X 1, X 2, X 3, X 4, X 5, X 6, X 7, X 8, X 9, X 10]) wb (fun k => if k = wb then 1 else tag k) X (P 1) from ⟨by rw [EP.out]; exact hw.box (htz wb LWB.out) T7.out, fun k hk => by rw [if_neg (by have := HWB.out; omega)]; exact htz k (Nat.lt_of_lt_of_le hk B6.out.size), (Kp.setCells (T := fun k => k = wb) (.inl rfl) _ _ _ (Kp.refl _ _)).below B7.out B7.out.size (fun k hk e => by have := HWB.out; omega)⟩)
   have O7 := hid hw.ones
   clear hw htz hb7 x0 hcap hone WL HX1 T6 B6
   go_wp2_with (first | ((with_reducible (show wpList _ _ _ (⟨_, Op.store 28 _ _, _, _, _, _⟩ :: _) _ _)); refine wpList_store_mid rfl 28 _ _ rfl wb 0 (arr11 X) rfl rfl T7.out infoW O7.out ?_))
   exact ⟨⟨1, by omega, by go_num, .inr ⟨by omega, rfl, _, X, OW⟩⟩, by simp [intOf]; omega⟩
  by_cases hlt : k < ls.length
  ·have hlt2 : (k : Int) < (ls.length : Int) := by omega
   obtain ⟨x, l, e1, nw, nc, bl⟩ := HR.out.all k hk1 hlt
   have CZ := hid (CU.out wr k hlt)
   have cz := LS.out _ HO.out.e k hlt
   rw [show ls[k] = ls.getD k ByteArray.empty by rw [List.getD_eq_getElem?_getD, List.getElem?_eq_getElem hlt]; rfl] at CZ cz
   rw [e1] at CZ
   have BL := hid bl
   have nw2 : (x.toList == [119, 111, 114, 108, 100]) = false := by have := byte_ne nw; rw [ByteArray.toList_eq (bs := ⟨#[119, 111, 114, 108, 100]⟩)] at this; exact this
   have nc2 : (x.toList == [99, 111, 100, 101]) = false := by have := byte_ne nc; rw [ByteArray.toList_eq (bs := ⟨#[99, 111, 100, 101]⟩)] at this; exact this
   clear e1 nw nc bl
   generalize ls.getD k ByteArray.empty = line at CZ cz
   go_wp2_with fail
   refine CZ.out.mono ?_
   rintro r w6 ⟨xb, xcap, rfl, hx, hb6, hle⟩
   have x0 := (strs_tail hx).1
   have O6 := hid (HO.out.next hb6)
   have BC := hid (show Calls Tryz.prog 45 #[.pointer (some ⟨wb, 0, none⟩), .slice (some ⟨xb, 0, none⟩) (l.length + 1) xcap] w6 fun r w' => r = .returned (.int .i64 0) ∧ ∃ tag' V', BoxT w' wb tag' V' (P (k + 1)) ∧ Kt tag tag' w6 w' from BL.out w6 wb tag V xb xcap O6.out.b (KN.out _ O6.out.e) hx hle)
   clear hx hle hb6 cz CZ HO
   go_wp2_with fail
   refine BC.out.mono ?_
   rintro r w7 ⟨rfl, tag2, V2, hb7, hk7⟩
   have O7 := hid (O6.out.to hb7 hk7)
   clear hb7 hk7 BC O6 x0 nw2 nc2
   go_wp2_with fail
   exact ⟨⟨k + 1, by omega, by go_num, .inr ⟨by omega, rfl, tag2, V2, O7⟩⟩, by simp [intOf]; omega⟩
  obtain rfl : k = ls.length := by omega
  have hge : ¬ ((ls.length : Int) < (ls.length : Int)) := by omega
  clear hlt
  go_upto_region 26 with fail
  clear hge
  have L0 := hid (show w.heap.size < w3.heap.size by have := L3.out; omega)
  have L1 := hid (show w.heap.size + 1 < w3.heap.size by have := L3.out; omega)
  have WNE := hid (show w.heap.size ≠ wb ∧ w.heap.size + 1 ≠ wb by have := L3.out; have := HWB.out; omega)
  have BE : Hid (Below wr.heap.size wr wr.drew) := hid (below_drew wr 1)
  have OS := hid HO.out.b.o.ones
  have R5 := hid HO.out.b.r
  refine wp_region_held_drew (S := fun W => W.rangeAt wb 0 (arr11 V).toList) (by kernel_rfl) (range_below R5.out BE.out) (fun hH => ?_)
  refine tg 0 (.agg (arr11 V)) rfl (yieldsIf_load_mid (by rfl) _ _ rfl _ _ rfl (arr11 V).toList _ (fun _ h => h) Tryz.underlying28 rfl infoW) hH ?_
  simp only [jj]
  refine wpAnyH_ready (rs := [1]) (by kernel_rfl) (by simp) (AllReadyH.cons rfl (fun K hK => ?_) AllReadyH.nil)
  refine wnt (by rfl) ?_
  simp only [List.getElem_toArray, List.getElem_cons_succ, List.getElem_cons_zero]
  go_simp
  refine (fine_anyx _).mono ?_
  rintro e w6 ⟨rfl, hb⟩
  have O6 := hid (HO.out.next (btr BE.out hb))
  have Z2 := hid (there_belowO Z23.out O6.out.e)
  have Z3 := hid (there_belowO Z33.out O6.out.e)
  clear hb hH HO R5 BE
  refine hK.out _ _ O6.out.b.r (fun _ => ?_)
  clear hK K
  have kp7 : Kp (fun k => k = w.heap.size) w6 (w6.setCells w.heap.size 0 (arr11 V).toList) := Kp.setCells (T := fun k => k = w.heap.size) (.inl rfl) _ _ _ (Kp.refl _ _)
  have O7 := hid (O6.out.b.kp kp7 (fun k _ e => by rw [e]; exact O6.out.t _ L0.out) (fun _ _ => rfl))
  have TZ := hid O6.out.t
  have B7 := hid (show Below w.heap.size w (w6.setCells w.heap.size 0 (arr11 V).toList) from kp7.below (btr B3.out O6.out.e) (btr B3.out O6.out.e).size (fun k hk e => by omega))
  have Z37 := hid (there_kp Z3.out kp7 (by omega))
  have Q7 := hid (World.rangeAt_setCells_same w6 w.heap.size 0 (arr11 V).toList Z2.out)
  clear kp7
  refine wpAnyH_ready (rs := [2]) (by kernel_rfl) (by simp) (AllReadyH.cons rfl (fun K hK => ?_) AllReadyH.nil)
  refine wnt (by rfl) ?_
  simp only [List.getElem_toArray, List.getElem_cons_succ, List.getElem_cons_zero]
  refine wp_store_mid 28 _ _ rfl w.heap.size 0 (arr11 V) rfl rfl Z2.out infoW OS.out ?_
  generalize w6.setCells w.heap.size 0 (arr11 V).toList = W7 at O7 B7 Z37 Q7 ⊢
  refine hK.out _ _ O7.out.r (fun _ => ?_)
  clear hK K O6
  have kp8 : Kp (fun k => k = w.heap.size + 1) W7 (W7.setCells (w.heap.size + 1) 0 [.int .i64 0, .int .i64 (-1)]) := Kp.setCells (T := fun k => k = w.heap.size + 1) (.inl rfl) _ _ _ (Kp.refl _ _)
  have O8 := hid (O7.out.kp kp8 (fun k _ e => by rw [e]; exact TZ.out _ L1.out) (fun _ _ => rfl))
  have B8 := hid (show Below w.heap.size w (W7.setCells (w.heap.size + 1) 0 [.int .i64 0, .int .i64 (-1)]) from kp8.below B7.out B7.out.size (fun k hk e => by omega))
  have Q8 := hid (range_kp Q7.out kp8 (by omega))
  have P8 := hid (World.rangeAt_setCells_same W7 (w.heap.size + 1) 0 [.int .i64 0, .int .i64 (-1)] Z37.out)
  clear kp8
  refine wpAnyH_ready (rs := [3]) (by kernel_rfl) (by simp) (AllReadyH.cons rfl (fun K hK => ?_) AllReadyH.nil)
  refine wnt (by rfl) ?_
  simp only [List.getElem_toArray, List.getElem_cons_succ, List.getElem_cons_zero]
  refine wp_stBad rfl (w.heap.size + 1) rfl rfl Z37.out ?_
  generalize W7.setCells (w.heap.size + 1) 0 [.int .i64 0, .int .i64 (-1)] = W8 at O8 B8 Q8 P8 ⊢
  refine hK.out _ _ O8.out.r (fun _ => ?_)
  clear hK K
  refine wpAnyH_done (by kernel_rfl) ?_ _
  go_wp2_with fail
  exact bodyPost_ret (v := .tuple #[.agg (arr11 V), .agg #[.int .i64 0, .int .i64 (-1)]]) (results_ccx rfl rfl (run_loadVar_mid _ w.heap.size 0 28 (arr11 V).toList _ Q8.out Tryz.underlying28 rfl infoW) rfl (run_loadVar_mid _ (w.heap.size + 1) 0 48 [.int .i64 0, .int .i64 (-1)] _ P8.out Tryz.underlying48 rfl infoBadx)) rfl ⟨V, rfl, tag, O8.out.o, fun k hk => TZ.out k (by have := L0.out; omega), B8.out⟩
end Go.Proofs.YtakmaeohhclngaaGreatDoor.Wd
namespace Go.Proofs.YtakmaeohhclngaaGreatDoor.Wd
open Go.RowKit Go.Proofs.YtakmaeohhclngaaGreatDoor.Mem Go.Proofs.YtakmaeohhclngaaGreatDoor.Bw Go.Proofs.YtakmaeohhclngaaGreatDoor.Nums Go.Proofs.YtakmaeohhclngaaGreatDoor.Mmu Go.Proofs.YtakmaeohhclngaaGreatDoor.Hex
/-- Its lists are not huge. -/
def fitB (p : PW) : Bool := decide (p.ram.length ≤ 1000) && (decide (p.kinds.length ≤ 1000) && (decide (p.slots.length ≤ 1000) && (decide (p.tasks.length ≤ 1000) && (decide (p.lines.length ≤ 1000) && (p.lines.all (fun l => decide (l.length ≤ 1000)) && (decide (p.bits.length ≤ 1000) && (decide (p.cores.length ≤ 1000) && (decide (p.ready.length ≤ 1000) && (p.ready.all (fun l => decide (l.length ≤ 1000)) && (decide (p.tlbs.length ≤ 1000) && (decide (p.doms.length ≤ 1000) && p.tlbs.all (fun l => decide (l.length ≤ 100)))))))))))))
theorem fit_of {p : PW} (h : fitB p = true) : p.Fits ∧ ∀ l ∈ p.tlbs, l.length ≤ 100 := by
 unfold fitB at h
 simp only [Bool.and_eq_true, decide_eq_true_eq, List.all_eq_true] at h
 obtain ⟨h1, h2, h3, h4, h5, h6, h7, h8, h9, h10, h11, h12, h13⟩ := h
 exact ⟨⟨h1, h2, h3, h4, h5, h6, h7, h8, h9, h10, h11, h12⟩, h13⟩
def same (a b : ByteArray) : Bool := a.data.toList == b.data.toList
theorem same_eq {a b : ByteArray} (h : same a b = true) : a = b := bytes_ext (by unfold same at h; simpa using h)
theorem same_ne {a b : ByteArray} (h : same a b = false) : a ≠ b := fun e => by subst e; unfold same at h; simp at h
/-- The numbers of some words. -/
def nat (t : ByteArray) : Nat := (Prs.decV t).toNat
def numN (t : ByteArray) : Bool := decide (0 ≤ Prs.decV t)
theorem numN_of {t : ByteArray} (h : numN t = true) : numOk t = true ∧ Prs.decV t = (nat t : Int) := by
 unfold numN at h
 have := of_decide_eq_true h
 refine ⟨?_, by unfold nat; omega⟩
 unfold numOk
 rw [Bool.or_eq_true]
 exact .inr h
def clC (p : PW) (s b n : Nat) : Bool := fitB p && (decide (p.slots.length = p.kinds.length * 16) && (decide (s < p.slots.length) && (decide (opE p s = 0) && (decide (1 ≤ n) && (decide (b + n ≤ p.kinds.length) && ((List.range n).all (fun d => p.kinds.getD (b + d) 0 == 0) && p.slots.all (fun s => s 0 != 1)))))))
theorem clC_ok {p : PW} {t1 t2 t3 : ByteArray} (h1 : numN t1 = true) (h2 : numN t2 = true) (h3 : numN t3 = true) (h : clC p (nat t1) (nat t2) (nat t3) = true) : BLine p { p with slots := p.slots.set (nat t1) (clk (nat t2) (nat t3)) } [⟨#[99, 108, 97, 121]⟩, t1, t2, t3] := by
 unfold clC at h
 simp only [Bool.and_eq_true, decide_eq_true_eq, List.all_eq_true, List.mem_range, beq_iff_eq, bne_iff_ne] at h
 obtain ⟨a1, a2, a3, a4, a5, a6, a7, a8⟩ := h
 obtain ⟨hp, hl⟩ := fit_of a1
 refine bClay hp hl (fun t ht => ?_) (by simp only [List.map_cons, List.map_nil, (numN_of h1).2, (numN_of h2).2, (numN_of h3).2]) a2 a3 a4 a5 a6 (fun f hf b1 b2 => ?_) (fun i hi => a8 _ (List.getElem_mem hi))
 ·simp only [List.mem_cons, List.not_mem_nil, or_false] at ht
  rcases ht with rfl | rfl | rfl
  ·exact (numN_of h1).1
  ·exact (numN_of h2).1
  ·exact (numN_of h3).1
 ·have := a7 (f - nat t2) (by omega)
  rw [show nat t2 + (f - nat t2) = f by omega, List.getD_eq_getElem?_getD, List.getElem?_eq_getElem hf] at this
  exact this
def mkC (p : PW) (kk : Nat) (xk : ByteArray) (n m t : Int) : Bool := fitB p && (sndB p && (decide (kk < knB.length) && (same (knB.getD kk ByteArray.empty) xk && ((List.range kk).all (fun j => !same (knB.getD j ByteArray.empty) xk) && decide (mkE p n (2 + (kk : Int)) m t = 0)))))
theorem mkC_ok {p : PW} {kk : Nat} {xk t1 t2 t3 : ByteArray} (h1 : numOk t1 = true) (h2 : numOk t2 = true) (h3 : numOk t3 = true) (h : mkC p kk xk (Prs.decV t1) (Prs.decV t2) (Prs.decV t3) = true) : BLine p (mkP p (Prs.decV t1) (2 + (kk : Int)) (Prs.decV t2) (Prs.decV t3)) [⟨#[109, 97, 107, 101]⟩, xk, t1, t2, t3] := by
 unfold mkC at h
 simp only [Bool.and_eq_true, decide_eq_true_eq, List.all_eq_true, List.mem_range, Bool.not_eq_true'] at h
 obtain ⟨a1, a2, a3, a4, a5, a6⟩ := h
 obtain ⟨hp, hl⟩ := fit_of a1
 refine bMake hp hl (snd_of a2) a3 ?_ (fun j hj hjk => ?_) (fun t ht => ?_) rfl a6
 ·have := same_eq a4
  rw [List.getD_eq_getElem?_getD, List.getElem?_eq_getElem a3] at this
  exact this
 ·have := same_ne (a5 j hjk)
  rw [List.getD_eq_getElem?_getD, List.getElem?_eq_getElem hj] at this
  exact this
 ·simp only [List.mem_cons, List.not_mem_nil, or_false] at ht
  rcases ht with rfl | rfl | rfl
  ·exact h1
  ·exact h2
  ·exact h3
def cpC (p : PW) (i j r g : Nat) (s : Nat → Int) : Bool := fitB p && (decide (p.slots.length = p.kinds.length * 16) && (decide (boE p i j = 0) && (decide (i < p.slots.length) && (decide (j < p.slots.length) && (decide (s 0 ≠ 1) && (decide (r ≤ 7) && (decide (g ≤ 65535) && ((decide (g = 0) || (decide (0 < g) && ((decide (s 0 = 7) || decide (s 0 = 8)) && decide (s 5 = 0)))) && (decide (0 ≤ s 4) && decide (s 4 ≤ 7))))))))))
theorem cpC_ok {p : PW} {t1 t2 t3 t4 : ByteArray} (h1 : numN t1 = true) (h2 : numN t2 = true) (h3 : numN t3 = true) (h4 : numN t4 = true) (h : cpC p (nat t1) (nat t2) (nat t3) (nat t4) (p.slots.getD (nat t1) nkey) = true) :
  BLine p { p with slots := p.slots.set (nat t2) (kpS (p.slots.getD (nat t1) nkey) (Bw.bw 6 ((p.slots.getD (nat t1) nkey) 4).toNat (nat t3) : Nat) (nat t4) (nat t1)) } [⟨#[99, 111, 112, 121]⟩, t1, t2, t3, t4] := by
 unfold cpC at h
 simp only [Bool.and_eq_true, Bool.or_eq_true, decide_eq_true_eq] at h
 obtain ⟨a1, a2, a3, a4, a5, a6, a7, a8, a9, a10, a11⟩ := h
 obtain ⟨hp, hl⟩ := fit_of a1
 refine bCopy hp hl (fun t ht => ?_) (by simp only [List.map_cons, List.map_nil, (numN_of h1).2, (numN_of h2).2, (numN_of h3).2, (numN_of h4).2]) a2 a3 a4 a5 (by rw [List.getD_eq_getElem?_getD, List.getElem?_eq_getElem a4]; rfl) a6 a7 a8 a9 (by omega) (by omega)
 simp only [List.mem_cons, List.not_mem_nil, or_false] at ht
 rcases ht with rfl | rfl | rfl | rfl
 ·exact (numN_of h1).1
 ·exact (numN_of h2).1
 ·exact (numN_of h3).1
 ·exact (numN_of h4).1
def etC (p : PW) (s g f wr : Nat) : Bool := fitB p && (decide (fmE p s 4 = 0) && (decide (g ≤ 255) && (decide (wr ≤ 1) && (decide (f < p.kinds.length) && (decide (p.ram.length = p.kinds.length * 16) && (decide (p.kinds.getD f 0 = 3) && decide (p.ram.getD (s * 16 + g / 16) 0 = 0)))))))
theorem etC_ok {p : PW} {t1 t2 t3 t4 : ByteArray} (h1 : numN t1 = true) (h2 : numN t2 = true) (h3 : numN t3 = true) (h4 : numN t4 = true) (h : etC p (nat t1) (nat t2) (nat t3) (nat t4) = true) :
  BLine p { p with ram := p.ram.set (nat t1 * 16 + nat t2 / 16) (32768 + (nat t3 : Int)) } [⟨#[101, 110, 116, 101, 114]⟩, t1, t2, t3, t4] := by
 unfold etC at h
 simp only [Bool.and_eq_true, decide_eq_true_eq] at h
 obtain ⟨a1, a2, a3, a4, a5, a6, a7, a8⟩ := h
 obtain ⟨hp, hl⟩ := fit_of a1
 refine bEnterT hp hl (fun t ht => ?_) (by simp only [List.map_cons, List.map_nil, (numN_of h1).2, (numN_of h2).2, (numN_of h3).2, (numN_of h4).2]) a2 a3 a4 a5 a6 a7 a8
 simp only [List.mem_cons, List.not_mem_nil, or_false] at ht
 rcases ht with rfl | rfl | rfl | rfl
 ·exact (numN_of h1).1
 ·exact (numN_of h2).1
 ·exact (numN_of h3).1
 ·exact (numN_of h4).1
def epC (p : PW) (s g f wr ev : Nat) : Bool := fitB p && (decide (fmE p s 4 = 0) && (decide (g ≤ 255) && (decide (wr ≤ 1) && (decide (f < p.kinds.length) && (decide (p.ram.length = p.kinds.length * 16) && (decide (p.kinds.getD f 0 = 2) && (decide (p.ram.getD (s * 16 + g / 16) 0 = (ev : Int)) && (decide (0 < ev) && (decide (ev ≤ 65535) && (decide (ev % 1024 * 16 + g % 16 < p.ram.length) && decide (p.ram.getD (ev % 1024 * 16 + g % 16) 0 = 0)))))))))))
theorem epC_ok {p : PW} {t1 t2 t3 t4 : ByteArray} {ev : Nat} (h1 : numN t1 = true) (h2 : numN t2 = true) (h3 : numN t3 = true) (h4 : numN t4 = true) (h : epC p (nat t1) (nat t2) (nat t3) (nat t4) ev = true) :
  BLine p { p with ram := p.ram.set (ev % 1024 * 16 + nat t2 % 16) (32768 + (nat t4 : Int) * 16384 + (nat t3 : Int)) } [⟨#[101, 110, 116, 101, 114]⟩, t1, t2, t3, t4] := by
 unfold epC at h
 simp only [Bool.and_eq_true, decide_eq_true_eq] at h
 obtain ⟨a1, a2, a3, a4, a5, a6, a7, a8, a9, a10, a11, a12⟩ := h
 obtain ⟨hp, hl⟩ := fit_of a1
 refine bEnterP hp hl (fun t ht => ?_) (by simp only [List.map_cons, List.map_nil, (numN_of h1).2, (numN_of h2).2, (numN_of h3).2, (numN_of h4).2]) a2 a3 a4 a5 a6 a7 a8 a9 a10 a11 a12
 simp only [List.mem_cons, List.not_mem_nil, or_false] at ht
 rcases ht with rfl | rfl | rfl | rfl
 ·exact (numN_of h1).1
 ·exact (numN_of h2).1
 ·exact (numN_of h3).1
 ·exact (numN_of h4).1
/-- The numbers of six words, from 1 on. -/
def six (a b c d e f : ByteArray) (k : Nat) : Int := [0, Prs.decV a, Prs.decV b, Prs.decV c, Prs.decV d, Prs.decV e, Prs.decV f].getD k 0
def eqC (p : PW) (t : Nat) (N : Nat → Int) : Bool := fitB p && (decide (fmE p t 6 = 0) && (decide (t < p.tasks.length) && ((decide (N 1 = -1) || decide (fmE p (N 1) (eqK 1) = 0)) && ((decide (N 2 = -1) || decide (fmE p (N 2) (eqK 2) = 0)) && ((decide (N 3 = -1) || decide (fmE p (N 3) (eqK 3) = 0)) && (decide (0 ≤ N 4) && (decide (N 4 < p.cores.length) && (decide (0 ≤ N 5) && (decide (N 5 ≤ 3) && (decide (0 ≤ N 6) && (decide (N 6 ≤ 3) && decide ((p.tasks.getD t bl) 9 = 0))))))))))))
theorem eqC_ok {p : PW} {t1 t2 t3 t4 t5 t6 t7 : ByteArray} (h1 : numN t1 = true) (h2 : numOk t2 = true) (h3 : numOk t3 = true) (h4 : numOk t4 = true) (h5 : numOk t5 = true) (h6 : numOk t6 = true) (h7 : numOk t7 = true) (h : eqC p (nat t1) (six t2 t3 t4 t5 t6 t7) = true) :
  BLine p (eqP p (nat t1) (six t2 t3 t4 t5 t6 t7)) [⟨#[101, 113, 117, 105, 112]⟩, t1, t2, t3, t4, t5, t6, t7] := by
 unfold eqC at h
 simp only [Bool.and_eq_true, Bool.or_eq_true, decide_eq_true_eq] at h
 obtain ⟨a1, a2, a3, a4, a5, a6, a7, a8, a9, a10, a11, a12, a13⟩ := h
 obtain ⟨hp, hl⟩ := fit_of a1
 refine bEquip hp hl (fun t ht => ?_) (by simp only [List.map_cons, List.map_nil, (numN_of h1).2]; rfl) a2 a3 (fun k k1 k4 kn => ?_) a7 a8 a9 a10 a11 a12 (by rw [List.getD_eq_getElem?_getD, List.getElem?_eq_getElem a3] at a13; exact a13)
 ·simp only [List.mem_cons, List.not_mem_nil, or_false] at ht
  rcases ht with rfl | rfl | rfl | rfl | rfl | rfl | rfl
  ·exact (numN_of h1).1
  ·exact h2
  ·exact h3
  ·exact h4
  ·exact h5
  ·exact h6
  ·exact h7
 ·have hkk : k = 1 ∨ k = 2 ∨ k = 3 := by omega
  rcases hkk with rfl | rfl | rfl
  ·exact a4.resolve_left kn
  ·exact a5.resolve_left kn
  ·exact a6.resolve_left kn
/-- Which kind a name is. -/
def kIdx (x : ByteArray) : Nat := (knB.map (same x)).idxOf true
/-- What a line does, if all is well. -/
def stepL (p : PW) : List ByteArray → Option PW
 | [x, a, b, c] => if same ⟨#[99, 108, 97, 121]⟩ x && (numN a && (numN b && (numN c && clC p (nat a) (nat b) (nat c)))) then some { p with slots := p.slots.set (nat a) (clk (nat b) (nat c)) } else none
 | [x, a, b, c, d] =>
  if same ⟨#[109, 97, 107, 101]⟩ x then (if numOk b && (numOk c && (numOk d && mkC p (kIdx a) a (Prs.decV b) (Prs.decV c) (Prs.decV d))) then some (mkP p (Prs.decV b) (2 + (kIdx a : Int)) (Prs.decV c) (Prs.decV d)) else none)
  else if numN a && (numN b && (numN c && numN d)) then
   (if same ⟨#[99, 111, 112, 121]⟩ x then (if cpC p (nat a) (nat b) (nat c) (nat d) (p.slots.getD (nat a) nkey) then some { p with slots := p.slots.set (nat b) (kpS (p.slots.getD (nat a) nkey) (Bw.bw 6 ((p.slots.getD (nat a) nkey) 4).toNat (nat c) : Nat) (nat d) (nat a)) } else none)
   else if same ⟨#[101, 110, 116, 101, 114]⟩ x then
    (if etC p (nat a) (nat b) (nat c) (nat d) then some { p with ram := p.ram.set (nat a * 16 + nat b / 16) (32768 + (nat c : Int)) }
    else if epC p (nat a) (nat b) (nat c) (nat d) (p.ram.getD (nat a * 16 + nat b / 16) 0).toNat then some { p with ram := p.ram.set ((p.ram.getD (nat a * 16 + nat b / 16) 0).toNat % 1024 * 16 + nat b % 16) (32768 + (nat d : Int) * 16384 + (nat c : Int)) } else none)
   else none)
  else none
 | [x, a, b, c, d, e, f, g] => if same ⟨#[101, 113, 117, 105, 112]⟩ x && (numN a && (numOk b && (numOk c && (numOk d && (numOk e && (numOk f && (numOk g && eqC p (nat a) (six b c d e f g)))))))) then some (eqP p (nat a) (six b c d e f g)) else none
 | _ => none
theorem stepL_ok {p p' : PW} : ∀ {xs : List ByteArray}, stepL p xs = some p' → BLine p p' xs
 | [x, a, b, c], h => by
  rw [stepL] at h
  split at h
  ·rename_i hc
   simp only [Bool.and_eq_true] at hc
   obtain ⟨h1, h2, h3, h4, h5⟩ := hc
   cases h
   rw [← same_eq h1]
   exact clC_ok h2 h3 h4 h5
  ·cases h
 | [x, a, b, c, d], h => by
  rw [stepL] at h
  split at h
  ·rename_i hx
   split at h
   ·rename_i hc
    simp only [Bool.and_eq_true] at hc
    obtain ⟨h1, h2, h3, h4⟩ := hc
    cases h
    rw [← same_eq hx]
    exact mkC_ok h1 h2 h3 h4
   ·cases h
  ·split at h
   ·rename_i hn
    simp only [Bool.and_eq_true] at hn
    obtain ⟨h1, h2, h3, h4⟩ := hn
    split at h
    ·rename_i hx
     split at h
     ·rename_i hc
      cases h
      rw [← same_eq hx]
      exact cpC_ok h1 h2 h3 h4 hc
     ·cases h
    ·split at h
     ·rename_i hx
      split at h
      ·rename_i hc
       cases h
       rw [← same_eq hx]
       exact etC_ok h1 h2 h3 h4 hc
      ·split at h
       ·rename_i hc
        cases h
        rw [← same_eq hx]
        exact epC_ok h1 h2 h3 h4 hc
       ·cases h
     ·cases h
   ·cases h
 | [x, a, b, c, d, e, f, g], h => by
  rw [stepL] at h
  split at h
  ·rename_i hc
   simp only [Bool.and_eq_true] at hc
   obtain ⟨h1, h2, h3, h4, h5, h6, h7, h8, h9⟩ := hc
   cases h
   rw [← same_eq h1]
   exact eqC_ok h2 h3 h4 h5 h6 h7 h8 h9
  ·cases h
 | [], h => by cases h
 | [_], h => by cases h
 | [_, _], h => by cases h
 | [_, _, _], h => by cases h
 | [_, _, _, _, _, _], h => by cases h
 | [_, _, _, _, _, _, _], h => by cases h
 | _ :: _ :: _ :: _ :: _ :: _ :: _ :: _ :: _ :: _, h => by cases h
/-- The lines behind the first one, done one behind the other. -/
def runL : List (List ByteArray) → PW → Nat → Option PW
 | [], p, _ => some p
 | _ :: _, p, 0 => some p
 | xs :: r, p, n + 1 => match stepL p xs with
  | some q => runL r q n
  | none => none
theorem runL_step : ∀ {xss : List (List ByteArray)} {p p' : PW} {n : Nat} {xs : List ByteArray}, xss[n]? = some xs → runL xss p (n + 1) = some p' → ∃ q, runL xss p n = some q ∧ stepL q xs = some p'
 | [], _, _, _, _, h, _ => by simp at h
 | ys :: r, p, p', 0, xs, h, hr => by
  simp at h
  subst h
  unfold runL at hr
  split at hr
  ·rename_i q hq
   have : q = p' := by cases r <;> (unfold runL at hr; cases hr; rfl)
   subst this
   exact ⟨p, by unfold runL; rfl, hq⟩
  ·cases hr
 | ys :: r, p, p', n + 1, xs, h, hr => by
  simp only [List.getElem?_cons_succ] at h
  unfold runL at hr
  split at hr
  ·rename_i q hq
   obtain ⟨q2, h1, h2⟩ := runL_step h hr
   refine ⟨q2, ?_, h2⟩
   unfold runL
   rw [hq]
   exact h1
  ·cases hr
end Go.Proofs.YtakmaeohhclngaaGreatDoor.Wd
