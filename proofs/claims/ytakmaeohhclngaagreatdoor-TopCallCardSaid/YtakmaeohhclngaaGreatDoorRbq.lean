/- TopCall's worlds, plain: nine takes and eight calls, either first; the answer; all are sound, whatever the letters. · Worlds in boxes; what TopBell and TopCall both use. · TopCall's calls, at sound worlds. -/
import Derived.Test.YtakmaeohhclngaaGreatDoorRbm
import Derived.Test.YtakmaeohhclngaaGreatDoorRbo
import Derived.Test.YtakmaeohhclngaaGreatDoorRbp
import Derived.Test.YtakmaeohhclngaaGreatDoorRau
namespace Go.Proofs.YtakmaeohhclngaaGreatDoor.Wd
open Go.RowKit Go.Proofs.YtakmaeohhclngaaGreatDoor.Mem Go.Proofs.YtakmaeohhclngaaGreatDoor.Bw Go.Proofs.YtakmaeohhclngaaGreatDoor.Nums Go.Proofs.YtakmaeohhclngaaGreatDoor.Mmu Go.Proofs.YtakmaeohhclngaaGreatDoor.Hex Go.Proofs.YtakmaeohhclngaaGreatDoor.Mad
theorem ram_of {L : Nat → Int} {r : List Int} (e : r = ramL L) (h : ∀ i, i < 32 → 0 ≤ L i ∧ L i ≤ 65535) : ∀ x ∈ r, 0 ≤ x ∧ x ≤ 65535 := by rw [e]; exact ramL_in h
/-- A task some of whose numbers are letters. -/
theorem task_let {p : PW} {n : Nat} (f : Nat → Int) (ls : List Nat) (e0 : p.kinds.getD n 0 = 6) (ef : p.tasks.getD n bl = f) (hl : ∀ k ∈ ls, wB (f k) = true) (e3 : (List.range 8).all (fun k => ls.contains k || wB (f k)) = true) (e4 : (wB (f 8) && (ls.contains 15 || wB (f 15)) && (ls.contains 16 || wB (f 16)) && within 0 6 (f 9) && within 0 3 (f 10) && within 0 ((p.cores.length : Int) - 1) (f 18) && within 0 3 (f 19)) = true) (e5 : (ffB p f && dbB p n f && srB p n f && rrB p n f) = true) : btB p (n : Nat) (p.kinds.getD n 0) (p.tasks.getD n bl) = false := by
 have hw : ∀ k, (ls.contains k || wB (f k)) = true → wB (f k) = true := fun k h => by
  rw [Bool.or_eq_true, List.contains_iff_mem] at h
  rcases h with h | h
  ·exact hl k h
  ·exact h
 have hr : regB f = true := reg_yes (fun k hk => hw k (List.all_eq_true.1 e3 k (List.mem_range.2 hk)))
 rw [e0, ef]
 have hn : nfB p f = true := by
  unfold nfB
  simp only [Bool.and_eq_true] at e4 ⊢
  exact ⟨⟨⟨⟨⟨⟨⟨hr, e4.1.1.1.1.1.1⟩, hw 15 e4.1.1.1.1.1.2⟩, hw 16 e4.1.1.1.1.2⟩, e4.1.1.1.2⟩, e4.1.1.2⟩, e4.1.2⟩, e4.2⟩
 simp only [Bool.and_eq_true] at e5
 unfold btB
 rw [if_pos rfl, hn, e5.1.1.1, e5.1.1.2, e5.1.2, e5.2]
 rfl
/-- Tasks 8 and 9 by hand. -/
theorem snd_two {p : PW} (ls ms : List Nat) (h1 : ∀ x ∈ p.ram, 0 ≤ x ∧ x ≤ 65535) (hl : ∀ k ∈ ls, wB (p.tasks.getD 8 bl k) = true) (hm : ∀ k ∈ ms, wB (p.tasks.getD 9 bl k) = true)
  (a0 : p.kinds.getD 8 0 = 6) (a3 : (List.range 8).all (fun k => ls.contains k || wB (p.tasks.getD 8 bl k)) = true) (a4 : (wB (p.tasks.getD 8 bl 8) && (ls.contains 15 || wB (p.tasks.getD 8 bl 15)) && (ls.contains 16 || wB (p.tasks.getD 8 bl 16)) && within 0 6 (p.tasks.getD 8 bl 9) && within 0 3 (p.tasks.getD 8 bl 10) && within 0 ((p.cores.length : Int) - 1) (p.tasks.getD 8 bl 18) && within 0 3 (p.tasks.getD 8 bl 19)) = true) (a5 : (ffB p (p.tasks.getD 8 bl) && dbB p (8 : Nat) (p.tasks.getD 8 bl) && srB p (8 : Nat) (p.tasks.getD 8 bl) && rrB p (8 : Nat) (p.tasks.getD 8 bl)) = true)
  (b0 : p.kinds.getD 9 0 = 6) (b3 : (List.range 8).all (fun k => ms.contains k || wB (p.tasks.getD 9 bl k)) = true) (b4 : (wB (p.tasks.getD 9 bl 8) && (ms.contains 15 || wB (p.tasks.getD 9 bl 15)) && (ms.contains 16 || wB (p.tasks.getD 9 bl 16)) && within 0 6 (p.tasks.getD 9 bl 9) && within 0 3 (p.tasks.getD 9 bl 10) && within 0 ((p.cores.length : Int) - 1) (p.tasks.getD 9 bl 18) && within 0 3 (p.tasks.getD 9 bl 19)) = true) (b5 : (ffB p (p.tasks.getD 9 bl) && dbB p (9 : Nat) (p.tasks.getD 9 bl) && srB p (9 : Nat) (p.tasks.getD 9 bl) && rrB p (9 : Nat) (p.tasks.getD 9 bl)) = true)
  (ht : lk (fun k x => if k = 9 then false else if k = 8 then false else btB p k (p.kinds.getD k 0) x) p.tasks = none) (h3 : lk (fun k l => blB p k (p.kinds.getD k 0) (p.bits.getD k 0) l) p.lines = none) (h : sndT p = true) : sndB p = true := by
 refine snd_hand h1 (lk_but 8 bl (task_let _ ls a0 rfl hl a3 a4 a5) (lk_but 9 bl ?_ ht)) h3 h
 rw [if_neg (by decide)]
 exact task_let _ ms b0 rfl hm b3 b4 b5
/-- Core 1 has picked, too. -/
def c1 (L : Nat → Int) : PW := slP (p3 L) 1
/-- Nine takes first, then eight calls. -/
def cT (L : Nat → Int) : PW := tkP (c1 L) 9 10
def dT (L : Nat → Int) (b v : Int) : PW := snP (cT L) 8 10 b v true
/-- Eight calls first, then nine takes. -/
def cF (L : Nat → Int) (b v : Int) : PW := snP (c1 L) 8 10 b v true
def dF (L : Nat → Int) (b v : Int) : PW := tkP (cF L b v) 9 10
theorem c1_snd (L : Nat → Int) (h : ∀ i, i < 32 → 0 ≤ L i ∧ L i ≤ 65535) : sndB (c1 L) = true := snd_ram (ram_of (by kernel_rfl) h) (by kernel_rfl)
theorem cT_snd (L : Nat → Int) (h : ∀ i, i < 32 → 0 ≤ L i ∧ L i ≤ 65535) : sndB (cT L) = true := snd_ram (ram_of (by kernel_rfl) h) (by kernel_rfl)
theorem c_plain (L : Nat → Int) (b v : Int) : pkE (p3 L) 1 = 0 ∧ (c1 L).cores.getD 0 0 = 8 ∧ (c1 L).cores.getD 1 0 = 9 ∧ fitB (c1 L) = true ∧ fitB (cT L) = true ∧ fitB (cF L b v) = true ∧ tkE (c1 L) 9 10 = 0 ∧ tkE (cF L b v) 9 10 = 0 ∧ mtE (c1 L) 8 10 7 = 0 ∧ mtE (cT L) 8 10 7 = 0 ∧ (c1 L).kinds.length = 24 ∧ (cT L).kinds.length = 24 ∧ (cF L b v).kinds.length = 24 ∧ (c1 L).cores.length = 2 ∧ (cT L).cores.length = 2 ∧ (cF L b v).cores.length = 2 :=
 ⟨by kernel_rfl, by kernel_rfl, by kernel_rfl, by kernel_rfl, by kernel_rfl, by kernel_rfl, by kernel_rfl, by kernel_rfl, by kernel_rfl, by kernel_rfl, by kernel_rfl, by kernel_rfl, by kernel_rfl, by kernel_rfl, by kernel_rfl, by kernel_rfl⟩
theorem let_wB {f : Nat → Int} {ls : List Nat} {x y : Int} {i j : Nat} (hx : 0 ≤ x ∧ x ≤ 65535) (hy : 0 ≤ y ∧ y ≤ 65535) (hs : ls = [i, j]) (ei : f i = x) (ej : f j = y) : ∀ k ∈ ls, wB (f k) = true := fun k hk => by
 rw [hs, List.mem_cons, List.mem_singleton] at hk
 rcases hk with rfl | rfl
 ·rw [ei]; exact wB_of hx
 ·rw [ej]; exact wB_of hy
theorem cF_snd (L : Nat → Int) (h : ∀ i, i < 32 → 0 ≤ L i ∧ L i ≤ 65535) (b v : Int) (hb : 0 ≤ b ∧ b ≤ 65535) (hv : 0 ≤ v ∧ v ≤ 65535) : sndB (cF L b v) = true :=
 snd_two [15, 16] [] (ram_of (by kernel_rfl) h) (let_wB hv hb rfl (by kernel_rfl) (by kernel_rfl)) (fun _ h => by cases h) (by kernel_rfl) (by kernel_rfl) (by kernel_rfl) (by kernel_rfl) (by kernel_rfl) (by kernel_rfl) (by kernel_rfl) (by kernel_rfl) (by kernel_rfl) (by kernel_rfl) (by kernel_rfl)
/-- What is so behind both, whoever came first: and what comes of it. -/
structure CallD (d : PW) (b v : Int) : Prop where
 fit : fitB d = true
 snd : sndB d = true
 lens : d.kinds.length = 24 ∧ d.cores.length = 2 ∧ d.tasks.length = 24
 is : d.tasks.getD 9 bl 1 = b ∧ d.tasks.getD 9 bl 2 = v ∧ d.tasks.getD 9 bl 17 = 8 ∧ d.tasks.getD 8 bl 9 = 5
 pick : pkE d 1 = 0
 ready : d.ready.all (fun l => decide (l.length ≤ 50)) = true
 gfit : fitB (slP d 1) = true
 gsnd : sndB (slP d 1) = true
 busy : tkE (slP d 1) 9 10 = 7
 gmay : mtE (slP d 1) 9 9 6 = 0
 gowes : (slP d 1).tasks.getD 9 bl 17 = 8
 hfit : ∀ a, fitB (anP (slP d 1) 9 a) = true
 hsnd : ∀ a, 0 ≤ a ∧ a ≤ 65535 → sndB (anP (slP d 1) 9 a) = true
 hlens : ∀ a, (anP (slP d 1) 9 a).kinds.length = 24 ∧ (anP (slP d 1) 9 a).cores.length = 2 ∧ (anP (slP d 1) 9 a).tasks.length = 24
 hmay : ∀ a, mtE (anP (slP d 1) 9 a) 9 9 6 = 0
 his : ∀ a, (anP (slP d 1) 9 a).tasks.getD 8 bl 9 = 1 ∧ (anP (slP d 1) 9 a).tasks.getD 8 bl 1 = 0 ∧ (anP (slP d 1) 9 a).tasks.getD 8 bl 2 = a ∧ (anP (slP d 1) 9 a).tasks.getD 9 bl 17 = -1
theorem dT_is (L : Nat → Int) (h : ∀ i, i < 32 → 0 ≤ L i ∧ L i ≤ 65535) (b v : Int) (hb : 0 ≤ b ∧ b ≤ 65535) (hv : 0 ≤ v ∧ v ≤ 65535) : CallD (dT L b v) b v where
 fit := by kernel_rfl
 snd := snd_two [] [1, 2] (ram_of (by kernel_rfl) h) (fun _ h => by cases h) (let_wB hb hv rfl (by kernel_rfl) (by kernel_rfl)) (by kernel_rfl) (by kernel_rfl) (by kernel_rfl) (by kernel_rfl) (by kernel_rfl) (by kernel_rfl) (by kernel_rfl) (by kernel_rfl) (by kernel_rfl) (by kernel_rfl) (by kernel_rfl)
 lens := ⟨by kernel_rfl, by kernel_rfl, by kernel_rfl⟩
 is := ⟨by kernel_rfl, by kernel_rfl, by kernel_rfl, by kernel_rfl⟩
 pick := by kernel_rfl
 ready := by kernel_rfl
 gfit := by kernel_rfl
 gsnd := snd_two [] [1, 2] (ram_of (by kernel_rfl) h) (fun _ h => by cases h) (let_wB hb hv rfl (by kernel_rfl) (by kernel_rfl)) (by kernel_rfl) (by kernel_rfl) (by kernel_rfl) (by kernel_rfl) (by kernel_rfl) (by kernel_rfl) (by kernel_rfl) (by kernel_rfl) (by kernel_rfl) (by kernel_rfl) (by kernel_rfl)
 busy := by kernel_rfl
 gmay := by kernel_rfl
 gowes := by kernel_rfl
 hfit a := by kernel_rfl
 hsnd a ha := snd_two [1, 2] [1, 2] (ram_of (by kernel_rfl) h) (let_wB (x := 0) (by decide) ha rfl (by kernel_rfl) (by kernel_rfl)) (let_wB hb hv rfl (by kernel_rfl) (by kernel_rfl)) (by kernel_rfl) (by kernel_rfl) (by kernel_rfl) (by kernel_rfl) (by kernel_rfl) (by kernel_rfl) (by kernel_rfl) (by kernel_rfl) (by kernel_rfl) (by kernel_rfl) (by kernel_rfl)
 hlens a := ⟨by kernel_rfl, by kernel_rfl, by kernel_rfl⟩
 hmay a := by kernel_rfl
 his a := ⟨by kernel_rfl, by kernel_rfl, by kernel_rfl, by kernel_rfl⟩
theorem dF_is (L : Nat → Int) (h : ∀ i, i < 32 → 0 ≤ L i ∧ L i ≤ 65535) (b v : Int) (hb : 0 ≤ b ∧ b ≤ 65535) (hv : 0 ≤ v ∧ v ≤ 65535) : CallD (dF L b v) b v where
 fit := by kernel_rfl
 snd := snd_two [] [1, 2] (ram_of (by kernel_rfl) h) (fun _ h => by cases h) (let_wB hb hv rfl (by kernel_rfl) (by kernel_rfl)) (by kernel_rfl) (by kernel_rfl) (by kernel_rfl) (by kernel_rfl) (by kernel_rfl) (by kernel_rfl) (by kernel_rfl) (by kernel_rfl) (by kernel_rfl) (by kernel_rfl) (by kernel_rfl)
 lens := ⟨by kernel_rfl, by kernel_rfl, by kernel_rfl⟩
 is := ⟨by kernel_rfl, by kernel_rfl, by kernel_rfl, by kernel_rfl⟩
 pick := by kernel_rfl
 ready := by kernel_rfl
 gfit := by kernel_rfl
 gsnd := snd_two [] [1, 2] (ram_of (by kernel_rfl) h) (fun _ h => by cases h) (let_wB hb hv rfl (by kernel_rfl) (by kernel_rfl)) (by kernel_rfl) (by kernel_rfl) (by kernel_rfl) (by kernel_rfl) (by kernel_rfl) (by kernel_rfl) (by kernel_rfl) (by kernel_rfl) (by kernel_rfl) (by kernel_rfl) (by kernel_rfl)
 busy := by kernel_rfl
 gmay := by kernel_rfl
 gowes := by kernel_rfl
 hfit a := by kernel_rfl
 hsnd a ha := snd_two [1, 2] [1, 2] (ram_of (by kernel_rfl) h) (let_wB (x := 0) (by decide) ha rfl (by kernel_rfl) (by kernel_rfl)) (let_wB hb hv rfl (by kernel_rfl) (by kernel_rfl)) (by kernel_rfl) (by kernel_rfl) (by kernel_rfl) (by kernel_rfl) (by kernel_rfl) (by kernel_rfl) (by kernel_rfl) (by kernel_rfl) (by kernel_rfl) (by kernel_rfl) (by kernel_rfl)
 hlens a := ⟨by kernel_rfl, by kernel_rfl, by kernel_rfl⟩
 hmay a := by kernel_rfl
 his a := ⟨by kernel_rfl, by kernel_rfl, by kernel_rfl, by kernel_rfl⟩
end Go.Proofs.YtakmaeohhclngaaGreatDoor.Wd
namespace Go.Proofs.YtakmaeohhclngaaGreatDoor.Wd
open Go.RowKit Go.Proofs.YtakmaeohhclngaaGreatDoor.Mem Go.Proofs.YtakmaeohhclngaaGreatDoor.Bw Go.Proofs.YtakmaeohhclngaaGreatDoor.Nums Go.Proofs.YtakmaeohhclngaaGreatDoor.Mmu Go.Proofs.YtakmaeohhclngaaGreatDoor.Hex Go.Proofs.YtakmaeohhclngaaGreatDoor.Mad
def In16 (x : Int) : Prop := 0 ≤ x ∧ x ≤ 65535
theorem dE_0 {p : PW} {e : Int} (hs : sndB p = true) (he : e = 0) : dE p e = 0 := by unfold dE; rw [hs, if_pos rfl, he]
theorem dP_0 {p q : PW} {e : Int} (hs : sndB p = true) (he : e = 0) : dP p q e = q := by unfold dP; rw [dE_0 hs he, if_pos rfl]
theorem WorldV.taskG {w : World} {V : Nat → Value} {p : PW} (h : WorldV w V p) (hl : p.tasks.length = 24) : ∃ b o cap, V 3 = .slice (some ⟨b, o, none⟩) 24 cap ∧ ∀ n k, n < 24 → k < 20 → w.cell? ⟨b, o + n * 20 + k, none⟩ = some (.int .i64 (p.tasks.getD n bl k)) := by
 obtain ⟨q, b, o, cap, e, hq, hr⟩ := h.tasks
 rw [hl] at e hq
 obtain rfl := hq (by decide)
 refine ⟨b, o, cap, e, fun n k hn hk => ?_⟩
 have r := hr n (by omega) k _ (cf_at 20 _ k hk)
 rw [List.getD_eq_getElem?_getD, List.getElem?_eq_getElem (by omega)]
 exact r
/-- A world's values in a variable that was just made. -/
theorem box_new {w : World} {X : Nat → Value} {p : PW} (hv : WorldV w X p) : Below w.heap.size w ((w.alloc (.cells #[.slice none 0 0, .slice none 0 0, .slice none 0 0, .slice none 0 0, .slice none 0 0, .slice none 0 0, .slice none 0 0, .slice none 0 0, .slice none 0 0, .slice none 0 0, .int .i64 0] 28)).setCells w.heap.size 0 [X 0, X 1, X 2, X 3, X 4, X 5, X 6, X 7, X 8, X 9, X 10]) ∧ ((w.alloc (.cells #[.slice none 0 0, .slice none 0 0, .slice none 0 0, .slice none 0 0, .slice none 0 0, .slice none 0 0, .slice none 0 0, .slice none 0 0, .slice none 0 0, .slice none 0 0, .int .i64 0] 28)).setCells w.heap.size 0 [X 0, X 1, X 2, X 3, X 4, X 5, X 6, X 7, X 8, X 9, X 10]).rangeAt w.heap.size 0 (arr11 X).toList ∧ ((w.alloc (.cells #[.slice none 0 0, .slice none 0 0, .slice none 0 0, .slice none 0 0, .slice none 0 0, .slice none 0 0, .slice none 0 0, .slice none 0 0, .slice none 0 0, .slice none 0 0, .int .i64 0] 28)).setCells w.heap.size 0 [X 0, X 1, X 2, X 3, X 4, X 5, X 6, X 7, X 8, X 9, X 10]).there w.heap.size 0 11 ∧ WorldV ((w.alloc (.cells #[.slice none 0 0, .slice none 0 0, .slice none 0 0, .slice none 0 0, .slice none 0 0, .slice none 0 0, .slice none 0 0, .slice none 0 0, .slice none 0 0, .slice none 0 0, .int .i64 0] 28)).setCells w.heap.size 0 [X 0, X 1, X 2, X 3, X 4, X 5, X 6, X 7, X 8, X 9, X 10]) X p := by
 have t := there_new w #[.slice none 0 0, .slice none 0 0, .slice none 0 0, .slice none 0 0, .slice none 0 0, .slice none 0 0, .slice none 0 0, .slice none 0 0, .slice none 0 0, .slice none 0 0, .int .i64 0] 28 w.heap.size 11 rfl (by decide)
 have b0 := bal (Below.refl w.heap.size w) (.cells #[.slice none 0 0, .slice none 0 0, .slice none 0 0, .slice none 0 0, .slice none 0 0, .slice none 0 0, .slice none 0 0, .slice none 0 0, .slice none 0 0, .slice none 0 0, .int .i64 0] 28)
 have k : Kp (fun k => k = w.heap.size) (w.alloc (.cells #[.slice none 0 0, .slice none 0 0, .slice none 0 0, .slice none 0 0, .slice none 0 0, .slice none 0 0, .slice none 0 0, .slice none 0 0, .slice none 0 0, .slice none 0 0, .int .i64 0] 28)) ((w.alloc (.cells #[.slice none 0 0, .slice none 0 0, .slice none 0 0, .slice none 0 0, .slice none 0 0, .slice none 0 0, .slice none 0 0, .slice none 0 0, .slice none 0 0, .slice none 0 0, .int .i64 0] 28)).setCells w.heap.size 0 [X 0, X 1, X 2, X 3, X 4, X 5, X 6, X 7, X 8, X 9, X 10]) := Kp.setCells (T := fun k => k = w.heap.size) (.inl rfl) _ _ _ (Kp.refl _ _)
 have b1 := k.below b0 b0.size (fun k hk e => by omega)
 exact ⟨b1, World.rangeAt_setCells_same _ w.heap.size 0 (arr11 X).toList t, World.there_setCells t _ _ _, hv.below b1⟩
theorem WorldV.ones {w : World} {X : Nat → Value} {p : PW} (h : WorldV w X p) : (arr11 X).all (·.oneCell') = true := by
 simp only [List.all_toArray, List.all_cons, List.all_nil, Bool.and_true, h.ram.one, h.kinds.one, h.slots.one, h.tasks.one, h.lines.one, h.bits.one, h.cores.one, h.ready.one, h.tlbs.one, h.doms.one, Bool.true_and]
 rw [h.time]; rfl
/-- A world in the box b8, behind w3. -/
structure BS (w3 : World) (b8 : Nat) (w : World) (V : Nat → Value) (M : PW) : Prop where
 v : WorldV w V M
 r : w.rangeAt b8 0 (arr11 V).toList
 t : w.there b8 0 11
 e : Below b8 w3 w
theorem BS.lt {w3 w : World} {b8 : Nat} {V : Nat → Value} {M : PW} (h : BS w3 b8 w V M) : b8 < w.heap.size := World.block_lt_of_cell? _ ⟨b8, 0, none⟩ (range_cell h.r (k := 0) rfl)
theorem BS.next {w3 w W W2 : World} {b8 : Nat} {V X : Nat → Value} {M M' : PW} (h : BS w3 b8 w V M) (hf : FarV W w.heap.size X M') (hb : Below w.heap.size w W) (hb2 : Below W.heap.size W W2) : BS w3 b8 (W2.setCells b8 0 [X 0, X 1, X 2, X 3, X 4, X 5, X 6, X 7, X 8, X 9, X 10]) X M' := by
 have b := btr hb hb2
 have t := there_belowO h.t b
 have hl := h.lt
 have k : Kp (fun k => k = b8) W2 (W2.setCells b8 0 [X 0, X 1, X 2, X 3, X 4, X 5, X 6, X 7, X 8, X 9, X 10]) := Kp.setCells (T := fun k => k = b8) (.inl rfl) _ _ _ (Kp.refl _ _)
 have e := h.e.trans (b.mono (Nat.le_of_lt hl))
 exact ⟨((hf.below hb2).put b8 0 _ hl).v0, World.rangeAt_setCells_same _ b8 0 (arr11 X).toList t, World.there_setCells t _ _ _, k.below e (Nat.le_of_lt (Nat.lt_of_lt_of_le hl b.size)) (fun k hk e => by omega)⟩
theorem stepPick (V : Nat → Value) (L : Nat → Int) (w : World) (hv : WorldV w V (p2 L)) (h : ∀ i, i < 32 → 0 ≤ L i ∧ L i ≤ 65535) :
  Calls Tryz.prog 7 #[.agg (arr11 V), .int .i64 0] w fun x w' => ∃ X, x = .returned (.tuple #[.agg (arr11 X), .int .i64 8, .nilIface]) ∧ WorldV w' X (p3 L) ∧ Below w.heap.size w w' := by
 have hr : (p2 L).ready.all (fun l => decide (l.length ≤ 50)) = true := by kernel_rfl
 refine (pick_any V (p2 L) 0 w hv (fit_of (p2_fit L)).1 (fun l hl => of_decide_eq_true (List.all_eq_true.1 hr l hl))).mono ?_
 rintro x w' ⟨X, rfl, h1, h2⟩
 rw [dP_0 (p2_snd L h) (p2_pick L)] at h1
 refine ⟨X, ?_, h1, h2⟩
 unfold pkV
 rw [dE_0 (p2_snd L h) (p2_pick L), if_pos rfl]
 rw [show (slP (p2 L) (0 : Int).toNat).cores.getD (0 : Int).toNat 0 = 8 from p3_core L]
 rfl
end Go.Proofs.YtakmaeohhclngaaGreatDoor.Wd
namespace Go.Proofs.YtakmaeohhclngaaGreatDoor.Wd
open Go.RowKit Go.Proofs.YtakmaeohhclngaaGreatDoor.Mem Go.Proofs.YtakmaeohhclngaaGreatDoor.Bw Go.Proofs.YtakmaeohhclngaaGreatDoor.Nums Go.Proofs.YtakmaeohhclngaaGreatDoor.Mmu Go.Proofs.YtakmaeohhclngaaGreatDoor.Hex Go.Proofs.YtakmaeohhclngaaGreatDoor.Mad
def cW (L : Nat → Int) (b v : Int) (first : Bool) : PW := cond first (cT L) (cF L b v)
def dW (L : Nat → Int) (b v : Int) (first : Bool) : PW := cond first (dT L b v) (dF L b v)
theorem cW_f (L : Nat → Int) (b v : Int) : cW L b v false = cF L b v := by unfold cW; rw [cond_false]
theorem cW_t (L : Nat → Int) (b v : Int) : cW L b v true = cT L := by unfold cW; rw [cond_true]
theorem dW_f (L : Nat → Int) (b v : Int) : dW L b v false = dF L b v := by unfold dW; rw [cond_false]
theorem dW_t (L : Nat → Int) (b v : Int) : dW L b v true = dT L b v := by unfold dW; rw [cond_true]
theorem cW_is (L : Nat → Int) (h : ∀ i, i < 32 → 0 ≤ L i ∧ L i ≤ 65535) (b v : Int) (hb : In16 b) (hv : In16 v) (first : Bool) : fitB (cW L b v first) = true ∧ sndB (cW L b v first) = true ∧ (cW L b v first).kinds.length = 24 ∧ (cW L b v first).cores.length = 2 := by
 obtain ⟨_, _, _, _, h5, h6, _, _, _, _, _, k2, k3, _, c2, c3⟩ := c_plain L b v
 cases first
 ·rw [cW_f]; exact ⟨h6, cF_snd L h b v hb hv, k3, c3⟩
 ·rw [cW_t]; exact ⟨h5, cT_snd L h, k2, c2⟩
theorem dW_is (L : Nat → Int) (h : ∀ i, i < 32 → 0 ≤ L i ∧ L i ≤ 65535) (b v : Int) (hb : In16 b) (hv : In16 v) (first : Bool) : CallD (dW L b v first) b v := by
 cases first
 ·rw [dW_f]; exact dF_is L h b v hb hv
 ·rw [dW_t]; exact dT_is L h b v hb hv
theorem all50 {ls : List (List Int)} (h : ls.all (fun l => decide (l.length ≤ 50)) = true) : ∀ l ∈ ls, l.length ≤ 50 := fun l hl => of_decide_eq_true (List.all_eq_true.1 h l hl)
theorem stepPick1 (V : Nat → Value) (p : PW) (w : World) (hv : WorldV w V p) (hf : fitB p = true) (hs : sndB p = true) (he : pkE p 1 = 0) (hr : p.ready.all (fun l => decide (l.length ≤ 50)) = true) :
  Calls Tryz.prog 7 #[.agg (arr11 V), .int .i64 1] w fun x w' => ∃ X n, x = .returned (.tuple #[.agg (arr11 X), .int .i64 n, .nilIface]) ∧ WorldV w' X (slP p 1) ∧ Below w.heap.size w w' := by
 refine (pick_any V p 1 w hv (fit_of hf).1 (all50 hr)).mono ?_
 rintro x w' ⟨X, rfl, h1, h2⟩
 rw [dP_0 hs he] at h1
 exact ⟨X, _, by rw [dE_0 hs he]; rfl, h1, h2⟩
theorem stepSend (V : Nat → Value) (p : PW) (b v : Int) (w : World) (hv : WorldV w V p) (hf : fitB p = true) (hs : sndB p = true) (hr : p.ready.all (fun l => decide (l.length ≤ 50)) = true) (ht : mtE p 8 10 7 = 0) (hb : In16 b) (hw : In16 v) :
  Calls Tryz.prog 10 #[.agg (arr11 V), .int .i64 8, .int .i64 10, .int .i64 b, .int .i64 v, .bool true] w fun x w' => ∃ X, x = .returned (.tuple #[.agg (arr11 X), .nilIface]) ∧ FarV w' w.heap.size X (snP p 8 10 b v true) ∧ Below w.heap.size w w' := by
 have he : snE p 8 10 b v = 0 := by unfold snE; rw [ht, if_pos rfl, wB_of hb, wB_of hw]; rfl
 refine (mailSend_any V p 8 10 b v true w hv (fit_of hf).1 (all50 hr)).mono ?_
 rintro x w' ⟨X, rfl, h1, h2⟩
 rw [dP_0 hs he] at h1
 exact ⟨X, by rw [dE_0 hs he]; rfl, h1, h2⟩
theorem stepTake (V : Nat → Value) (p : PW) (w : World) (hv : WorldV w V p) (hf : fitB p = true) (hs : sndB p = true) (he : tkE p 9 10 = 0) :
  Calls Tryz.prog 9 #[.agg (arr11 V), .int .i64 9, .int .i64 10] w fun x w' => ∃ X, x = .returned (.tuple #[.agg (arr11 X), .nilIface]) ∧ FarV w' w.heap.size X (tkP p 9 10) ∧ Below w.heap.size w w' := by
 refine (mailTake_any V p 9 10 w hv (fit_of hf).1).mono ?_
 rintro x w' ⟨X, rfl, h1, h2⟩
 rw [dP_0 hs he] at h1
 exact ⟨X, by rw [dE_0 hs he]; rfl, h1, h2⟩
theorem stepBusy (V : Nat → Value) (p : PW) (w : World) (hv : WorldV w V p) (hf : fitB p = true) (hs : sndB p = true) (he : tkE p 9 10 = 7) :
  Calls Tryz.prog 9 #[.agg (arr11 V), .int .i64 9, .int .i64 10] w fun x w' => ∃ X, x = .returned (.tuple #[.agg (arr11 X), .iface 42 (.int .i64 7)]) ∧ Below w.heap.size w w' := by
 refine (mailTake_any V p 9 10 w hv (fit_of hf).1).mono ?_
 rintro x w' ⟨X, rfl, h1, h2⟩
 exact ⟨X, by rw [dE_eq hs, he]; rfl, h2⟩
theorem stepAnswer (V : Nat → Value) (p : PW) (a : Int) (w : World) (hv : WorldV w V p) (hf : fitB p = true) (hs : sndB p = true) (hm : mtE p 9 9 6 = 0) (ho : p.tasks.getD 9 bl 17 = 8) (ha : In16 a) :
  Calls Tryz.prog 12 #[.agg (arr11 V), .int .i64 9, .int .i64 a] w fun x w' => ∃ X, x = .returned (.tuple #[.agg (arr11 X), .nilIface]) ∧ WorldV w' X (anP p 9 a) ∧ Below w.heap.size w w' := by
 have he : anE p 9 a = 0 := by unfold anE; rw [hm, if_pos rfl, wB_of ha, if_pos rfl]; show (if p.tasks.getD 9 bl 17 = -1 then (6 : Int) else 0) = 0; rw [ho]; rfl
 refine (mailAnswer_any V p 9 a w hv (fit_of hf).1).mono ?_
 rintro x w' ⟨X, rfl, h1, h2⟩
 rw [dP_0 hs he] at h1
 exact ⟨X, by rw [dE_0 hs he]; rfl, h1.v0, h2⟩
theorem stepEmpty (V : Nat → Value) (p : PW) (a : Int) (w : World) (hv : WorldV w V p) (hf : fitB p = true) (hs : sndB p = true) (hm : mtE p 9 9 6 = 0) (ho : p.tasks.getD 9 bl 17 = -1) (ha : In16 a) :
  Calls Tryz.prog 12 #[.agg (arr11 V), .int .i64 9, .int .i64 a] w fun x w' => ∃ X, x = .returned (.tuple #[.agg (arr11 X), .iface 42 (.int .i64 6)]) ∧ Below w.heap.size w w' := by
 have he : anE p 9 a = 6 := by unfold anE; rw [hm, if_pos rfl, wB_of ha, if_pos rfl]; show (if p.tasks.getD 9 bl 17 = -1 then (6 : Int) else 0) = 6; rw [ho]; rfl
 refine (mailAnswer_any V p 9 a w hv (fit_of hf).1).mono ?_
 rintro x w' ⟨X, rfl, h1, h2⟩
 exact ⟨X, by rw [dE_eq hs, he]; rfl, h2⟩
/-- A world in a box. -/
structure BX (w : World) (b : Nat) (V : Nat → Value) (M : PW) : Prop where
 v : WorldV w V M
 r : w.rangeAt b 0 (arr11 V).toList
theorem BX.below {w w' : World} {b : Nat} {V : Nat → Value} {M : PW} (h : BX w b V M) (hb : Below w.heap.size w w') : BX w' b V M := ⟨h.v.below hb, range_below h.r hb⟩
theorem BS.x {w3 w : World} {b : Nat} {V : Nat → Value} {M : PW} (h : BS w3 b w V M) : BX w b V M := ⟨h.v, h.r⟩
theorem BS.up {w3 w w' : World} {b : Nat} {V : Nat → Value} {M : PW} (h : BS w3 b w V M) (hb : Below w.heap.size w w') : BS w3 b w' V M := ⟨h.v.below hb, range_below h.r hb, there_belowO h.t hb, h.e.trans (hb.mono (Nat.le_of_lt h.lt))⟩
theorem c1_ready (L : Nat → Int) : (p3 L).ready.all (fun l => decide (l.length ≤ 50)) = true ∧ (c1 L).ready.all (fun l => decide (l.length ≤ 50)) = true ∧ (cT L).ready.all (fun l => decide (l.length ≤ 50)) = true := ⟨by kernel_rfl, by kernel_rfl, by kernel_rfl⟩
end Go.Proofs.YtakmaeohhclngaaGreatDoor.Wd
