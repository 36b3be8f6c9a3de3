/- Parts: a view, as it lies; parts.See; walked. · Parts: what the walk of keyholdlaw.seen wants. (Written by mk_psr.py.) · Parts: keyholdlaw.seen, walked. (Written by mk_psr.py.) · In every world, the parts, and what one of them sees: keyholdlaw.PartsSay; walked. (Written by mk_pst.py.) -/
import Derived.Test.YtacpjedncjpmpaaGreatDoorPsLook
import Derived.Test.YtacpjedncjpmpaaGreatDoorGLook
import Derived.BigGuard
import Derived.BigQuiet
import Derived.Test.YtacpjedncjpmpaaGreatDoorGLex
import Derived.Test.YtacpjedncjpmpaaGreatDoorPsRef
import Derived.Test.YtacpjedncjpmpaaGreatDoorGOpenW
import Derived.Test.YtacpjedncjpmpaaGreatDoorGTell
import Derived.Test.YtacpjedncjpmpaaGreatDoorWdCheck
namespace Go.Proofs.YtacpjedncjpmpaaGreatDoor.Wd
open Go.RowKit Go.Proofs.YtacpjedncjpmpaaGreatDoor.Mem Go.Proofs.YtacpjedncjpmpaaGreatDoor.Bw Go.Proofs.YtacpjedncjpmpaaGreatDoor.Nums Go.Proofs.YtacpjedncjpmpaaGreatDoor.Mmu Go.Proofs.YtacpjedncjpmpaaGreatDoor.Rf
theorem eval_gete (a : Act) (t : Nat) : a.eval (.tmp t) = a.tmps[t]?.getD undef := by simp [Act.eval, Array.getD_eq_getD_getElem?]
theorem results_e1 {fn : Func} {p u : Tmp} {ty : TypeId} (h : fn.results = #[.cell p ty, .tmp u]) {a : Act} {P : Program} {w : World} {b : Nat} {x y : Value} (hp : a.eval (.tmp p) = .pointer (some ⟨b, 0, none⟩)) (hl : (loadVar ty ⟨b, 0, none⟩).run P w = .ok x w) (hu : a.eval (.tmp u) = y) :
  (results fn a.tmps).run P w = .ok (.tuple #[x, y]) w := by
 rw [eval_gete] at hp hu
 simp only [results, h]
 simp [Result.andThen, asAddr, hp, hu, hl]
theorem results_e2 {fn : Func} {p u : Tmp} {ty : TypeId} (h : fn.results = #[.cell p ty, .tmp u]) {tmps : Array Value} {P : Program} {w : World} {b : Nat} {x y : Value} (hp : tmps.getD p undef = .pointer (some ⟨b, 0, none⟩)) (hl : (loadVar ty ⟨b, 0, none⟩).run P w = .ok x w) (hu : tmps.getD u undef = y) :
  (results fn tmps).run P w = .ok (.tuple #[x, y]) w := results_e1 (a := ⟨tmps, []⟩) h hp hl hu
/-- A view, as it lies in memory. -/
structure Vw (W : World) (X : Nat → Value) (p : PW) (fr : List Nat) (ts : List (List Int)) (rs : List Int) : Prop where
 ram : IntsIn W (X 0) (fr.flatMap fun f => (p.ram.drop (f * 16)).take 16)
 slots : RowsIn 7 W (X 1) (fr.flatMap fun f => (p.slots.drop (f * 16)).take 16)
 tasks : RowsIn 20 W (X 2) (fr.map fun f => p.tasks.getD f z0)
 kinds : IntsIn W (X 3) (fr.map fun f => p.kinds.getD f 0)
 lines : ListsIn W (X 4) (fr.map fun f => p.lines.getD f [])
 bits : IntsIn W (X 5) (fr.map fun f => p.bits.getD f 0)
 turns : ListsIn W (X 6) ts
 runs : IntsIn W (X 7) rs
theorem Vw.below {W W' : World} {X : Nat → Value} {p : PW} {fr : List Nat} {ts : List (List Int)} {rs : List Int} (h : Vw W X p fr ts rs) (hb : Below W.heap.size W W') : Vw W' X p fr ts rs :=
 ⟨h.ram.below hb, h.slots.below hb, h.tasks.below hb, h.kinds.below hb, h.lines.below hb, h.bits.below hb, h.turns.below hb, h.runs.below hb⟩
theorem cfs_at (n : Nat) : ∀ (fs : List (Nat → Int)) (i k : Nat) (h : i < fs.length), k < n → (fs.flatMap (cf n))[i * n + k]? = some (.int .i64 (fs[i] k))
 | [], _, _, h, _ => by simp at h
 | f :: r, i, k, h, hk => by
  rw [List.flatMap_cons]
  match i, h with
  | 0, _ =>
   rw [List.getElem?_append_left (by rw [cf_len]; omega), Nat.zero_mul, Nat.zero_add, cf_at n f k hk]
   rfl
  | i + 1, h =>
   rw [List.getElem?_append_right (by rw [cf_len, Nat.succ_mul]; omega), cf_len, show (i + 1) * n + k - n = i * n + k by rw [Nat.succ_mul]; omega, cfs_at n r i k (by simpa using h) hk]
   rfl
theorem own_cfs {n E B : Nat} {w : World} {v : Value} {fs : List (Nat → Int)} (h : w.ownsRow B E n v fs.length (fs.flatMap (cf n))) : RowsIn n w v fs := by
 rcases h.2 with ⟨rfl, h1⟩ | ⟨g, cap, cur, rfl, h1, _⟩
 ·exact ⟨none, 0, 0, 0, by rw [h1], fun h => by omega, fun j hj => by omega⟩
 ·refine ⟨some ⟨g, 0, none⟩, g, 0, cap, rfl, fun _ => rfl, fun j hj k u hu => ?_⟩
  have hk : k < n := by
   have := (List.getElem?_eq_some_iff.1 hu).1
   rwa [cf_len] at this
  rw [cf_at n _ k hk] at hu
  rw [Nat.zero_add, h.cellAt (j * n + k) (by
   have : (j + 1) * n ≤ fs.length * n := Nat.mul_le_mul_right n hj
   rw [Nat.succ_mul] at this
   omega), cfs_at n fs j k hj hk]
  exact hu
theorem own_lists {E B : Nat} {w : World} {v : Value} {us : List Value} {ls : List (List Int)} (h : w.ownsRow B E 1 v ls.length us) (hl : us.length = ls.length) (hi : ∀ (j : Nat) (u : Value) (l : List Int), us[j]? = some u → ls[j]? = some l → IntsIn w u l) : ListsIn w v ls := by
 rcases h.2 with ⟨rfl, h1⟩ | ⟨g, cap, cur, rfl, h1, _⟩
 ·exact ⟨none, 0, 0, 0, by rw [h1], fun h => by omega, fun j hj => by omega⟩
 ·refine ⟨some ⟨g, 0, none⟩, g, 0, cap, rfl, fun _ => rfl, fun j hj => ?_⟩
  have hj2 : j < us.length := by omega
  refine ⟨us[j], ?_, hi j _ _ (List.getElem?_eq_getElem hj2) (List.getElem?_eq_getElem hj)⟩
  rw [Nat.zero_add, h.cellAt j (by omega), List.getElem?_eq_getElem hj2]
theorem fm_len {α : Type} {fr : List Nat} {g : Nat → List α} (h : ∀ f ∈ fr, (g f).length = 16) : (fr.flatMap g).length = fr.length * 16 := by
 induction fr with
 | nil => rfl
 | cons a r ih =>
  rw [List.flatMap_cons, List.length_append, h a (by simp), ih fun f hf => h f (by simp [hf]), List.length_cons, Nat.succ_mul, Nat.add_comm]
/-- What look answers, behind a store into what lies ahead of it. -/
theorem vw_of {w1 W W' : World} {vb B x b : Nat} {V X : Nat → Value} {p : PW} {fr : List Nat} {us tv : List Value} {ts : List (List Int)} {rs : List Int} (h : Vf w1 vb V p B x X (nV fr ts.length rs.length) (cV p fr us tv rs) (fr.map fun f => p.lines.getD f []) ts W) (hl : LF p) (hf : ∀ f ∈ fr, f < p.kinds.length) (hk : Kq (fun k => k = b) W W') (hb : b < B) : Vw W' X p fr ts rs := by
 have own := fun i (hi : i < 8) => own_kq (h.b.r.own i hi) hk (fun k e hkk => by have := ((h.b.r.own i hi).lt k e).1; omega)
 have lo := h.b.r.lo
 have inn : ∀ u l, Inn W x X u l → IntsIn W' u l := fun u l h => by
  obtain ⟨q, b', off, cap, e1, e2, e3⟩ := h
  rcases Nat.eq_zero_or_pos l.length with h0 | h0
  ·exact ⟨q, b', off, cap, e1, fun h => by omega, fun j hj => by omega⟩
  ·obtain ⟨f1, f2, f3, -⟩ := e2 h0
   exact ⟨q, b', off, cap, e1, fun _ => f1, fun j hj => (hk.cell (p := ⟨b', off + j, none⟩) f2 (by show ¬ b' = _; omega)).trans (e3 j hj)⟩
 have e0 : (fr.flatMap fun f => (p.ram.drop (f * 16)).take 16).length = fr.length * 16 := fm_len fun f hh => by have := hf f hh; have := hl.ram; simp; omega
 have e1 : (fr.flatMap fun f => (p.slots.drop (f * 16)).take 16).length = fr.length * 16 := fm_len fun f hh => by have := hf f hh; have := hl.slots; simp; omega
 have o0 := own 0 (by omega)
 have o1 := own 1 (by omega)
 have o2 := own 2 (by omega)
 have o3 := own 3 (by omega)
 have o5 := own 5 (by omega)
 refine ⟨own_ints (B := B) ?_, own_cfs (E := vE 1) (B := B) ?_, own_cfs (E := vE 2) (B := B) ?_, own_ints (B := B) ?_, own_lists (E := vE 4) (B := B) (us := us) ?_ h.l.1 fun j u l h1 h2 => inn u l (h.l.2 j u l h1 h2), own_ints (B := B) ?_, own_lists (E := vE 6) (B := B) (us := tv) (own 6 (by omega)) h.t.1 fun j u l h1 h2 => inn u l (h.t.2 j u l h1 h2), own_ints (B := B) (own 7 (by omega))⟩
 ·rw [e0]; exact o0
 ·rw [e1]; exact o1
 ·rw [List.length_map]; exact o2
 ·rw [List.length_map]; exact o3
 ·rw [List.length_map]; exact own 4 (by omega)
 ·rw [List.length_map]; exact o5
theorem frL_in {L : List Int} {part : Int} {n : Nat} : ∀ f ∈ frL L part n, f < n := fun f hf => by
 unfold frL at hf
 exact List.mem_range.1 (List.mem_filter.1 hf).1
def nilX : Nat → Value := fun _ => .slice none 0 0
theorem info_v : (Tryz.prog.info? 43).map (·.size) = some 8 := by kernel_rfl
theorem info_v2 (X : Nat → Value) : (Tryz.prog.info? 43).map (·.size) = some (eight X).toArray.size := info_v
theorem info_v3 (X : Nat → Value) : (Tryz.prog.info? 43).map (·.size) = some (eight X).length := info_v
theorem nil_one : (eight nilX).toArray.all (·.oneCell') = true := by simp [eight, nilX, Value.oneCell']
def okP (p : PW) (part : Int) : Bool := frB p part && (lv (ptL p) part.toNat == part)
def seE (p : PW) (part : Int) : Int := if sndB p = true then if okP p part = true then 0 else 2 else 8
/-- A view's cells are stored, and read as the result. -/
theorem ret_v {W : World} {b : Nat} (X : Nat → Value) (ht : W.there b 0 8) : (loadVar 43 ⟨b, 0, none⟩).run Tryz.prog (W.setCells b 0 (eight X)) = .ok (.agg (eight X).toArray) (W.setCells b 0 (eight X)) :=
 run_loadVar_mid _ b 0 43 (eight X) _ (World.rangeAt_setCells_same W b 0 (eight X) ht) Tryz.underlying43 rfl (info_v3 X)
theorem there_bl {W W' : World} {b o n : Nat} (h : W.there b o n) (hb : Below W.heap.size W W') : W'.there b o n := fun j hj => by
 obtain ⟨h1, h2⟩ := h j hj
 obtain ⟨u, hu⟩ := Option.isSome_iff_exists.1 h1
 have hl := World.block_lt_of_cell? _ _ hu
 exact ⟨by rw [hb.cell hl]; exact h1, by rw [hb.frozen hl]; exact h2⟩
set_option maxRecDepth 100000 in
set_option maxHeartbeats 8000000 in
theorem see_any (V : Nat → Value) (p : PW) (part : Int) (w : World) (hv : WorldV w V p) (hp : p.Fits) (r0 : RoomV (V 0)) (r2 : RoomV (V 2)) :
  Calls Tryz.prog 12 #[.agg (arr11 V), .int .i64 part] w fun x w' => ∃ X, x = .returned (.tuple #[.agg (eight X).toArray, eV (seE p part)]) ∧ (seE p part ≠ 0 → X = nilX) ∧ (seE p part = 0 → Vw w' X p (frL (ptL p) part p.kinds.length) (p.ready.map (thL (ptL p) part)) (p.cores.map (rnV (ptL p) part))) ∧ Below w.heap.size w w' := by
 have s1 : (w.alloc (.cells (arr11 V) 28)).heap.size = w.heap.size + 1 := by simp
 have s2 : ((w.alloc (.cells (arr11 V) 28)).alloc (.cells #[.int .i64 part] 3)).heap.size = w.heap.size + 2 := by simp
 have B0 := hid (bal (bal (bal (Below.refl w.heap.size w) (.cells (arr11 V) 28)) (.cells #[.int .i64 part] 3)) (.cells #[.slice none 0 0, .slice none 0 0, .slice none 0 0, .slice none 0 0, .slice none 0 0, .slice none 0 0, .slice none 0 0, .slice none 0 0] 43))
 have RG := hid (range_below (boxed w V 28) (bal (bal (Below.refl _ (w.alloc (.cells (arr11 V) 28))) (.cells #[.int .i64 part] 3)) (.cells #[.slice none 0 0, .slice none 0 0, .slice none 0 0, .slice none 0 0, .slice none 0 0, .slice none 0 0, .slice none 0 0, .slice none 0 0] 43)))
 have c3 : (((w.alloc (.cells (arr11 V) 28)).alloc (.cells #[.int .i64 part] 3)).alloc (.cells #[.slice none 0 0, .slice none 0 0, .slice none 0 0, .slice none 0 0, .slice none 0 0, .slice none 0 0, .slice none 0 0, .slice none 0 0] 43)).cell? ⟨w.heap.size + 1, 0, none⟩ = some (.int .i64 part) := by
  exact (cells_alloc (cells_at (w.alloc (.cells (arr11 V) 28)) #[.int .i64 part] 3 (w.heap.size + 1) s1.symm) (by rw [s2]; omega) _ 0).trans rfl
 have T0 := hid (there_new ((w.alloc (.cells (arr11 V) 28)).alloc (.cells #[.int .i64 part] 3)) #[.slice none 0 0, .slice none 0 0, .slice none 0 0, .slice none 0 0, .slice none 0 0, .slice none 0 0, .slice none 0 0, .slice none 0 0] 43 (w.heap.size + 1 + 1) 8 s2.symm (by decide))
 have SZ := hid (show (((w.alloc (.cells (arr11 V) 28)).alloc (.cells #[.int .i64 part] 3)).alloc (.cells #[.slice none 0 0, .slice none 0 0, .slice none 0 0, .slice none 0 0, .slice none 0 0, .slice none 0 0, .slice none 0 0, .slice none 0 0] 43)).heap.size = w.heap.size + 3 by simp)
 have HV := hid (hv.below B0.out)
 have HO := hid (of_any V p _ HV.out hp r0)
 have HP := hid hp
 have HR := hid (show RoomV (V 0) ∧ RoomV (V 2) from ⟨r0, r2⟩)
 have C3 := hid c3
 clear hv hp r0 r2 s1 s2 c3
 go_enter Tryz.func12, Tryz.ntmps12
 go_wp2_with (first | ((with_reducible (show wpList _ _ _ (⟨_, Op.load 28 _, _, _, _, _⟩ :: _) _ _)); refine wp_ldWg (by rfl) _ rfl _ rfl V RG.out ?_))
 generalize ((w.alloc (.cells (arr11 V) 28)).alloc (.cells #[.int .i64 part] 3)).alloc (.cells #[.slice none 0 0, .slice none 0 0, .slice none 0 0, .slice none 0 0, .slice none 0 0, .slice none 0 0, .slice none 0 0, .slice none 0 0] 43) = W0 at *
 refine HO.out.mono ?_
 rintro r w1 ⟨h8, h0, hb⟩
 have B1 := hid hb
 clear HO hb
 cases hs : sndB p with
 | false =>
  obtain rfl := h8 hs
  have HE := hid (show seE p part = 8 by unfold seE; rw [hs]; rfl)
  have BX := hid (show Below W0.heap.size W0 (w1.alloc (.cells #[.slice none 0 0] 22)) from bal B1.out _)
  rw [show eV 8 = .iface 30 (.int .i64 8) from rfl]
  clear h8 h0 hs
  have T1 := hid (there_bl T0.out BX.out)
  go_wp2_with (first | ((with_reducible (show wpList _ _ _ (⟨_, Op.store 43 _ _, _, _, _, _⟩ :: _) _ _)); refine wpList_store_mid rfl 43 _ _ rfl (w.heap.size + 1 + 1) 0 (eight nilX).toArray rfl rfl T1.out (info_v2 nilX) nil_one ?_))
  refine bodyPost_ret (v := .tuple #[.agg (eight nilX).toArray, .iface 30 (.int .i64 8)]) (results_e2 rfl rfl (ret_v nilX T1.out) rfl) rfl ⟨nilX, by rw [HE.out]; rfl, fun _ => rfl, (fun h => by rw [HE.out] at h; cases h), ?_⟩
  exact below_setCells (btr B0.out BX.out) (by omega) _ _
 | true =>
 obtain ⟨g, rfl, hm, hg⟩ := h0 hs
 have HS := hid (snd_of hs)
 have HB := hid hs
 have BX := hid (show Below W0.heap.size W0 (w1.alloc (.cells #[.slice (some ⟨g, 0, none⟩) p.kinds.length p.kinds.length] 22)) from bal B1.out _)
 have MX := hid (hm.next (show Below w1.heap.size w1 (w1.alloc (.cells #[.slice (some ⟨g, 0, none⟩) p.kinds.length p.kinds.length] 22)) from bal (Below.refl _ _) _))
 have c6 : (w1.alloc (.cells #[.slice (some ⟨g, 0, none⟩) p.kinds.length p.kinds.length] 22)).cell? ⟨w1.heap.size, 0, none⟩ = some (.slice (some ⟨g, 0, none⟩) p.kinds.length p.kinds.length) := cells_new w1 #[.slice (some ⟨g, 0, none⟩) p.kinds.length p.kinds.length] 22 0
 have c3 := (BX.out.cell (p := ⟨w.heap.size + 1, 0, none⟩) (World.block_lt_of_cell? _ _ C3.out)).trans C3.out
 have CP := hid (show Cp _ w1.heap.size (w.heap.size + 1) g p.kinds.length part (ptL p) from ⟨c6, c3, fun j hj => by rw [Nat.zero_add, MX.out.c j]; unfold ints; rw [List.getElem?_map, List.getElem?_eq_getElem hj]; rfl, (lb_pt (eg_of HS.out)).len⟩)
 have VX := hid (show ViewAt _ w.heap.size V p from ⟨range_below RG.out BX.out, HV.out.below BX.out, HP.out⟩)
 have LN := hid (lb_pt (eg_of HS.out)).len
 have T1 := hid (there_bl T0.out BX.out)
 have hk24 : (p.kinds.length : Int) ≤ 24 := by have := HS.out.lf.k2; omega
 clear h8 h0 hs hm hg C3 T0 RG HV B1
 go_wp2_with fail
 generalize w1.alloc (.cells #[.slice (some ⟨g, 0, none⟩) p.kinds.length p.kinds.length] 22) = w2 at *
 have HF := hid (fun nq => (pisFrame_any w.heap.size V p part (w2.drewN nq) (VX.out.below (below_drewN (Below.refl _ _) nq))).mono fun _ _ h => (⟨h.1, h.2.symm⟩ : _ ∧ _))
 cases hf : frB p part with
 | false =>
  rw [hf] at HF
  have HE := hid (show seE p part = 2 by unfold seE okP; rw [HB.out, hf]; rfl)
  clear hf
  go_quiet (first | (go_at_call 24; refine Calls.quiet_of_same (HF.out _)))
  have B2 := hid (below_drewN BX.out nq)
  have T2 := hid (there_bl T1.out (below_drewN (Below.refl _ _) nq))
  go_wp2_with (first | ((with_reducible (show wpList _ _ _ (⟨_, Op.store 43 _ _, _, _, _, _⟩ :: _) _ _)); refine wpList_store_mid rfl 43 _ _ rfl (w.heap.size + 1 + 1) 0 (eight nilX).toArray rfl rfl T2.out (info_v2 nilX) nil_one ?_))
  refine bodyPost_ret (v := .tuple #[.agg (eight nilX).toArray, .iface 30 (.int .i64 2)]) (results_e2 rfl rfl (ret_v nilX T2.out) rfl) rfl ⟨nilX, by rw [HE.out]; rfl, fun _ => rfl, (fun h => by rw [HE.out] at h; cases h), ?_⟩
  exact below_setCells (btr B0.out B2.out) (by omega) _ _
 | true =>
 rw [hf] at HF
 obtain ⟨f, rfl, hf2⟩ : ∃ f : Nat, part = f ∧ f < p.kinds.length := by
  unfold frB at hf
  have := of_decide_eq_true hf
  exact ⟨part.toNat, by omega, by omega⟩
 have hf3 : (f : Int) < (p.kinds.length : Int) := by omega
 have cg := MX.out.at (i := f) (by rw [LN.out]; exact hf2)
 have HLV := hid (show okP p f = (lv (ptL p) f == (f : Int)) by unfold okP; rw [hf, Int.toNat_natCast]; rfl)
 clear hf MX
 generalize hx : lv (ptL p) f = x at cg HLV
 by_cases hxf : x = (f : Int)
 rotate_left
 ·have hne : (x == (f : Int)) = false := by simpa using hxf
  have HE := hid (show seE p f = 2 by unfold seE; rw [HB.out, HLV.out, hne]; rfl)
  clear hxf hx
  go_quiet (first | (go_at_call 24; refine Calls.quiet_of_same (HF.out _)))
  have B2 := hid (below_drewN BX.out nq)
  have T2 := hid (there_bl T1.out (below_drewN (Below.refl _ _) nq))
  go_wp2_with (first | ((with_reducible (show wpList _ _ _ (⟨_, Op.store 43 _ _, _, _, _, _⟩ :: _) _ _)); refine wpList_store_mid rfl 43 _ _ rfl (w.heap.size + 1 + 1) 0 (eight nilX).toArray rfl rfl T2.out (info_v2 nilX) nil_one ?_))
  refine bodyPost_ret (v := .tuple #[.agg (eight nilX).toArray, .iface 30 (.int .i64 2)]) (results_e2 rfl rfl (ret_v nilX T2.out) rfl) rfl ⟨nilX, by rw [HE.out]; rfl, fun _ => rfl, (fun h => by rw [HE.out] at h; cases h), ?_⟩
  exact below_setCells (btr B0.out B2.out) (by omega) _ _
 subst hxf
 have HE := hid (show seE p f = 0 by unfold seE; rw [HB.out, HLV.out]; simp)
 clear hx
 go_quiet (first | (go_at_call 24; refine Calls.quiet_of_same (HF.out _)))
 have B2 := hid (below_drewN BX.out nq)
 have BN := hid (below_drewN (Below.refl w2.heap.size w2) nq)
 have T2 := hid (there_bl T1.out BN.out)
 have HK := hid (look_any w.heap.size V p w1.heap.size (w.heap.size + 1) g f (w2.drewN nq) (VX.out.below BN.out) HS.out HR.out.1 HR.out.2 (CP.out.below BN.out))
 clear c6 c3 cg HF
 go_wp2_with fail
 refine HK.out.mono ?_
 rintro r w3 ⟨X, us, tv, rfl, hvf, hb⟩
 have T3 := hid (there_bl T2.out hb)
 have B3 := hid (btr B2.out hb)
 have VF := hid hvf
 have ONE := hid (show (eight X).toArray.all (·.oneCell') = true by
  have f : ∀ i, i < 8 → (X i).oneCell' = true := fun i hi => by obtain ⟨q, cp, e⟩ := own_formP (hvf.b.r.own i hi); rw [e]; rfl
  simp [eight, f 0 (by omega), f 1 (by omega), f 2 (by omega), f 3 (by omega), f 4 (by omega), f 5 (by omega), f 6 (by omega), f 7 (by omega)])
 clear hvf hb HK
 go_wp2_with (first | ((with_reducible (show wpList _ _ _ (⟨_, Op.store 43 _ _, _, _, _, _⟩ :: _) _ _)); refine wpList_store_mid rfl 43 _ _ rfl (w.heap.size + 1 + 1) 0 (eight X).toArray rfl rfl T3.out (info_v2 X) ONE.out ?_))
 refine bodyPost_ret (v := .tuple #[.agg (eight X).toArray, .nilIface]) (results_e2 rfl rfl (ret_v X T3.out) rfl) rfl ⟨X, by rw [HE.out]; rfl, (fun h => absurd HE.out h), (fun _ => ?_), ?_⟩
 ·exact vw_of (by rw [List.length_map, List.length_map]; exact VF.out) HS.out.lf (fun f hf => frL_in f hf) (kq_cells w3 (w.heap.size + 1 + 1) (eight X) 0) (by have := SZ.out; have := B2.out.size; omega)
 ·exact below_setCells (btr B0.out B3.out) (by omega) _ _
theorem sn_n : (regF Tryz.f13 9).size = 55 := by kernel_rfl
theorem sn_s : Region.noSelect (regF Tryz.f13 9) = true := by kernel_rfl
theorem sn_0 : (List.range' 0 11).all (lexAt (regF Tryz.f13 9)) = true := by kernel_rfl
theorem sn_11 : (List.range' 11 11).all (lexAt (regF Tryz.f13 9)) = true := by kernel_rfl
theorem sn_22 : (List.range' 22 11).all (lexAt (regF Tryz.f13 9)) = true := by kernel_rfl
theorem sn_33 : (List.range' 33 11).all (lexAt (regF Tryz.f13 9)) = true := by kernel_rfl
theorem sn_44 : (List.range' 44 11).all (lexAt (regF Tryz.f13 9)) = true := by kernel_rfl
theorem sn_lex : Region.lexB .any (regF Tryz.f13 9) = true := lexB_of sn_s fun k hk => by
 rw [sn_n] at hk
 by_cases h0 : k < 11
 ·exact all_at sn_0 k (by omega) (by omega)
 by_cases h11 : k < 22
 ·exact all_at sn_11 k (by omega) (by omega)
 by_cases h22 : k < 33
 ·exact all_at sn_22 k (by omega) (by omega)
 by_cases h33 : k < 44
 ·exact all_at sn_33 k (by omega) (by omega)
 exact all_at sn_44 k (by omega) (by omega)
theorem exec_neU {ρ : Operand → Value} {o : Oper} (x y : Operand) (ty : TypeId) (ho : o.op = .binOp .neq 61 x y ty) (f g : Nat → Int) (hx : ρ x = .agg (cf 20 f).toArray) (hy : ρ y = .agg (cf 20 g).toArray) {b : Bool} (hb : (!eqB 20 f g) = b) (W : World) : (execOp ρ o).run Tryz.prog W = .ok (.value (.bool b)) W := by
 have hm : Tryz.prog.eqGuardType Tryz.prog.depth 61 = false := by kernel_rfl
 have hn : (binOp .neq 61 (.agg (cf 20 f).toArray) (.agg (cf 20 g).toArray)).run Tryz.prog W = .ok (.bool b) W := by rw [run_neq_struct, task_two, ← hb]; rfl
 unfold execOp
 simp only [ho, hx, hy, Sem.run_bind, run_eqGuard_agg (P := Tryz.prog) W .neq 61 x y (cf 20 f).toArray (cf 20 g).toArray hm, hn, Result.andThen_ok, Sem.run_pure]
theorem eqB_self (n : Nat) (f : Nat → Int) : (!eqB n f f) = false := by
 have : eqB n f f = true := by unfold eqB; simp
 rw [this]; rfl
theorem frL_split {L : List Int} {part : Int} {k : Nat} (hk : (lv L k == part) = true) : ∀ n, k < n → ∃ r, frL L part n = frL L part k ++ k :: r
 | 0, h => by omega
 | n + 1, h => by
  rw [frL_succ]
  by_cases e : k = n
  ·subst e
   rw [if_pos hk]
   exact ⟨[], rfl⟩
  ·obtain ⟨r, hr⟩ := frL_split hk n (by omega)
   exact ⟨_, by rw [hr, List.append_assoc, List.cons_append]⟩
theorem fm_at {α : Type} {a r : List Nat} {k i : Nat} {g : Nat → List α} (h : ∀ f ∈ a, (g f).length = 16) (hk : (g k).length = 16) (hi : i < 16) : ((a ++ k :: r).flatMap g)[a.length * 16 + i]? = (g k)[i]? := by
 rw [List.flatMap_append, List.flatMap_cons, List.getElem?_append_right (by rw [fm_len h]; omega), fm_len h, show a.length * 16 + i - a.length * 16 = i by omega, List.getElem?_append_left (by omega)]
theorem map_at {α β : Type} {a r : List α} {k : α} {g : α → β} : ((a ++ k :: r).map g)[a.length]? = some (g k) := by
 rw [List.map_append, List.map_cons, List.getElem?_append_right (by rw [List.length_map]; omega), List.length_map, Nat.sub_self]
 rfl
theorem pt_at {α : Type} {l : List α} {k i : Nat} (hi : i < 16) : ((l.drop (k * 16)).take 16)[i]? = l[k * 16 + i]? := by
 rw [List.getElem?_take_of_lt hi, List.getElem?_drop]
theorem ia_at {W : World} {b off j : Nat} {zs : List Int} {v : Int} (h : IntsAt W b off zs) (e : zs[j]? = some v) : W.cell? ⟨b, off + j, none⟩ = some (.int .i64 v) := by
 obtain ⟨hj, rfl⟩ := List.getElem?_eq_some_iff.1 e
 exact h j hj
theorem ra_at {n : Nat} {W : World} {b off j : Nat} {fs : List (Nat → Int)} {f : Nat → Int} (h : ∀ j (h : j < fs.length), W.rangeAt b (off + j * n) (cf n fs[j])) (e : fs[j]? = some f) : W.rangeAt b (off + j * n) (cf n f) := by
 obtain ⟨hj, rfl⟩ := List.getElem?_eq_some_iff.1 e
 exact h j hj
theorem la_at {W : World} {b off j : Nat} {ls : List (List Int)} {l : List Int} (h : ∀ j (h : j < ls.length), ∃ x, W.cell? ⟨b, off + j, none⟩ = some x ∧ IntsIn W x ls[j]) (e : ls[j]? = some l) : ∃ x, W.cell? ⟨b, off + j, none⟩ = some x ∧ IntsIn W x l := by
 obtain ⟨hj, rfl⟩ := List.getElem?_eq_some_iff.1 e
 exact h j hj
theorem cup {W0 W : World} (h : Below W0.heap.size W0 W) {a : Addr} {v : Value} (e : W0.cell? a = some v) : W.cell? a = some v := (h.cell (World.block_lt_of_cell? _ _ e)).trans e
set_option maxRecDepth 100000 in
set_option maxHeartbeats 16000000 in
theorem seen_any (V X : Nat → Value) (p : PW) (L : List Int) (part : Int) (g n m : Nat) (w : World) (hv : WorldV w V p) (hp : p.Fits) (hs : Snd p) (hn : p.kinds.length = n) (hL : L.length = n) (hg : IntsAt w g 0 L) (hm : (frL L part n).length = m) (hm0 : 0 < m) (hx : Vw w X p (frL L part n) (p.ready.map (thL L part)) (p.cores.map (rnV L part))) :
  Calls Tryz.prog 13 #[.agg (arr11 V), .slice (some ⟨g, 0, none⟩) n n, .int .i64 part, .agg (eight X).toArray] w fun r w' => r = .returned (.bool true) ∧ Below w.heap.size w w' := by
 have s1 : (w.alloc (.cells (arr11 V) 28)).heap.size = w.heap.size + 1 := by simp
 have B0 := hid (bal (bal (Below.refl w.heap.size w) (.cells (arr11 V) 28)) (.cells (eight X).toArray 43))
 have ra := range_below (boxed w V 28) (bal (Below.refl _ (w.alloc (.cells (arr11 V) 28))) (.cells (eight X).toArray 43))
 have rb : ((w.alloc (.cells (arr11 V) 28)).alloc (.cells (eight X).toArray 43)).rangeAt (w.heap.size + 1) 0 (eight X) := range_cells fun o => by rw [cells_at _ (eight X).toArray 43 _ s1.symm o, List.getElem?_toArray]
 have va := hv.below B0.out
 have vx := hx.below B0.out
 have hgw := hg.below B0.out
 have hlf := hs.lf
 have hmn : m ≤ n := hm ▸ frL_len L part n
 have hn24 : n ≤ 24 := hn ▸ hlf.k2
 obtain ⟨n16, hn16⟩ : ∃ x, x = n * 16 := ⟨_, rfl⟩
 obtain ⟨m16, hm16⟩ : ∃ x, x = m * 16 := ⟨_, rfl⟩
 have hfi : ∀ f ∈ frL L part n, f < n := frL_in
 have g0 : ∀ f, f < n → ((p.ram.drop (f * 16)).take 16).length = 16 := fun f h => by have := hlf.ram; rw [hn] at this; simp; omega
 have g1 : ∀ f, f < n → ((p.slots.drop (f * 16)).take 16).length = 16 := fun f h => by have := hlf.slots; rw [hn] at this; simp; omega
 have l0 : p.ram.length = n16 := by rw [hlf.ram, hn, hn16]
 have l1 := hn
 have l2 : p.slots.length = n16 := by rw [hlf.slots, hn, hn16]
 have l3 : p.tasks.length = n := by rw [hlf.tasks, hn]
 have l4 : p.lines.length = n := by rw [hlf.lines, hn]
 have l5 : p.bits.length = n := by rw [hlf.bits, hn]
 obtain ⟨cn, l6⟩ : ∃ x, p.cores.length = x := ⟨_, rfl⟩
 obtain ⟨rn, l7⟩ : ∃ x, p.ready.length = x := ⟨_, rfl⟩
 have hrn : rn ≤ 16 := by have := hlf.ready; have := hlf.c2; omega
 have hcn : cn ≤ 4 := by have := hlf.c2; omega
 have hrn0 : 0 < rn := by have := hlf.ready; have := hlf.c1; omega
 have hcn0 : 0 < cn := by have := hlf.c1; omega
 have k0 : ((frL L part n).flatMap fun f => (p.ram.drop (f * 16)).take 16).length = m16 := by rw [fm_len fun f hf => g0 f (hfi f hf), hm, hm16]
 have k1 : ((frL L part n).flatMap fun f => (p.slots.drop (f * 16)).take 16).length = m16 := by rw [fm_len fun f hf => g1 f (hfi f hf), hm, hm16]
 have k2 : ((frL L part n).map fun f => p.tasks.getD f z0).length = m := by rw [List.length_map, hm]
 have k3 : ((frL L part n).map fun f => p.kinds.getD f 0).length = m := by rw [List.length_map, hm]
 have k4 : ((frL L part n).map fun f => p.lines.getD f []).length = m := by rw [List.length_map, hm]
 have k5 : ((frL L part n).map fun f => p.bits.getD f 0).length = m := by rw [List.length_map, hm]
 have k6 : (p.ready.map (thL L part)).length = rn := by rw [List.length_map, l7]
 have k7 : (p.cores.map (rnV L part)).length = cn := by rw [List.length_map, l6]
 obtain ⟨qa0, a0, oa0, ca0, ea0, hqa0, hza0⟩ := va.ram
 have ac0 := range_cell (k := 0) (v := V 0) ra rfl
 rw [ea0, l0] at ac0
 obtain rfl := hqa0 (by omega)
 obtain ⟨qa1, a1, oa1, ca1, ea1, hqa1, hza1⟩ := va.kinds
 have ac1 := range_cell (k := 1) (v := V 1) ra rfl
 rw [ea1, l1] at ac1
 obtain rfl := hqa1 (by omega)
 obtain ⟨qa2, a2, oa2, ca2, ea2, hqa2, hza2⟩ := va.slots
 have ac2 := range_cell (k := 2) (v := V 2) ra rfl
 rw [ea2, l2] at ac2
 obtain rfl := hqa2 (by omega)
 obtain ⟨qa3, a3, oa3, ca3, ea3, hqa3, hza3⟩ := va.tasks
 have ac3 := range_cell (k := 3) (v := V 3) ra rfl
 rw [ea3, l3] at ac3
 obtain rfl := hqa3 (by omega)
 obtain ⟨qa4, a4, oa4, ca4, ea4, hqa4, hza4⟩ := va.lines
 have ac4 := range_cell (k := 4) (v := V 4) ra rfl
 rw [ea4, l4] at ac4
 obtain rfl := hqa4 (by omega)
 obtain ⟨qa5, a5, oa5, ca5, ea5, hqa5, hza5⟩ := va.bits
 have ac5 := range_cell (k := 5) (v := V 5) ra rfl
 rw [ea5, l5] at ac5
 obtain rfl := hqa5 (by omega)
 obtain ⟨qa6, a6, oa6, ca6, ea6, hqa6, hza6⟩ := va.cores
 have ac6 := range_cell (k := 6) (v := V 6) ra rfl
 rw [ea6, l6] at ac6
 obtain rfl := hqa6 (by omega)
 obtain ⟨qa7, a7, oa7, ca7, ea7, hqa7, hza7⟩ := va.ready
 have ac7 := range_cell (k := 7) (v := V 7) ra rfl
 rw [ea7, l7] at ac7
 obtain rfl := hqa7 (by omega)
 obtain ⟨qb0, b0, ob0, cb0, eb0, hqb0, hzb0⟩ := vx.ram
 have bc0 := range_cell (k := 0) (v := X 0) rb rfl
 rw [eb0, k0] at bc0
 obtain rfl := hqb0 (by omega)
 obtain ⟨qb1, b1, ob1, cb1, eb1, hqb1, hzb1⟩ := vx.slots
 have bc1 := range_cell (k := 1) (v := X 1) rb rfl
 rw [eb1, k1] at bc1
 obtain rfl := hqb1 (by omega)
 obtain ⟨qb2, b2, ob2, cb2, eb2, hqb2, hzb2⟩ := vx.tasks
 have bc2 := range_cell (k := 2) (v := X 2) rb rfl
 rw [eb2, k2] at bc2
 obtain rfl := hqb2 (by omega)
 obtain ⟨qb3, b3, ob3, cb3, eb3, hqb3, hzb3⟩ := vx.kinds
 have bc3 := range_cell (k := 3) (v := X 3) rb rfl
 rw [eb3, k3] at bc3
 obtain rfl := hqb3 (by omega)
 obtain ⟨qb4, b4, ob4, cb4, eb4, hqb4, hzb4⟩ := vx.lines
 have bc4 := range_cell (k := 4) (v := X 4) rb rfl
 rw [eb4, k4] at bc4
 obtain rfl := hqb4 (by omega)
 obtain ⟨qb5, b5, ob5, cb5, eb5, hqb5, hzb5⟩ := vx.bits
 have bc5 := range_cell (k := 5) (v := X 5) rb rfl
 rw [eb5, k5] at bc5
 obtain rfl := hqb5 (by omega)
 obtain ⟨qb6, b6, ob6, cb6, eb6, hqb6, hzb6⟩ := vx.turns
 have bc6 := range_cell (k := 6) (v := X 6) rb rfl
 rw [eb6, k6] at bc6
 obtain rfl := hqb6 (by omega)
 obtain ⟨qb7, b7, ob7, cb7, eb7, hqb7, hzb7⟩ := vx.runs
 have bc7 := range_cell (k := 7) (v := X 7) rb rfl
 rw [eb7, k7] at bc7
 obtain rfl := hqb7 (by omega)
 have KC := hid (fun W (h : Below ((w.alloc (.cells (arr11 V) 28)).alloc (.cells (eight X).toArray 43)).heap.size ((w.alloc (.cells (arr11 V) 28)).alloc (.cells (eight X).toArray 43)) W) => (⟨cup h ac0, cup h ac1, cup h ac2, cup h ac3, cup h ac4, cup h ac5, cup h ac6, cup h ac7, cup h bc0, cup h bc1, cup h bc2, cup h bc3, cup h bc4, cup h bc5, cup h bc6, cup h bc7⟩ : _ ∧ _ ∧ _ ∧ _ ∧ _ ∧ _ ∧ _ ∧ _ ∧ _ ∧ _ ∧ _ ∧ _ ∧ _ ∧ _ ∧ _ ∧ _))
 have GC := hid (fun W (h : Below ((w.alloc (.cells (arr11 V) 28)).alloc (.cells (eight X).toArray 43)).heap.size ((w.alloc (.cells (arr11 V) 28)).alloc (.cells (eight X).toArray 43)) W) (k : Nat) (hk : k < n) => (show W.cell? ⟨g, k, none⟩ = some (.int .i64 (lv L k)) from by
  have := cup h (hgw k (by omega))
  rw [Nat.zero_add] at this
  rw [this]
  unfold lv
  rw [getD_i (by omega)]))
 have FR := hid (fun W (h : Below ((w.alloc (.cells (arr11 V) 28)).alloc (.cells (eight X).toArray 43)).heap.size ((w.alloc (.cells (arr11 V) 28)).alloc (.cells (eight X).toArray 43)) W) (k : Nat) (hk : (lv L k == part) = true) (hlt : k < n) => (show ∃ (f1 : Nat → Int) (x1 t1 : Int) (l : List Int) (ya yb : Value), (frL L part k).length < m ∧ W.rangeAt a3 (oa3 + k * 20) (cf 20 f1) ∧ W.rangeAt b2 (ob2 + (frL L part k).length * 20) (cf 20 f1) ∧ W.cell? ⟨a1, oa1 + k, none⟩ = some (.int .i64 x1) ∧ W.cell? ⟨b3, ob3 + (frL L part k).length, none⟩ = some (.int .i64 x1) ∧ W.cell? ⟨a5, oa5 + k, none⟩ = some (.int .i64 t1) ∧ W.cell? ⟨b5, ob5 + (frL L part k).length, none⟩ = some (.int .i64 t1) ∧ W.cell? ⟨a4, oa4 + k, none⟩ = some ya ∧ W.cell? ⟨b4, ob4 + (frL L part k).length, none⟩ = some yb ∧ IntsIn W ya l ∧ IntsIn W yb l ∧ l.length ≤ 1000 from by
  obtain ⟨r, hr⟩ := frL_split hk n hlt
  obtain ⟨ya, y1, y2⟩ := hza4 k (by omega)
  obtain ⟨yb, z1, z2⟩ := la_at (j := (frL L part k).length) (l := p.lines[k]'(by omega)) hzb4 (by rw [hr, map_at, getD_l (by omega)])
  refine ⟨p.tasks[k]'(by omega), p.kinds[k]'(by omega), p.bits[k]'(by omega), p.lines[k]'(by omega), ya, yb, ?_, range_belowO (hza3 k (by omega)) h, range_belowO (ra_at hzb2 (by rw [hr, map_at, getD_z (by omega)])) h, cup h (hza1 k (by omega)), cup h (ia_at hzb3 (by rw [hr, map_at, getD_i (by omega)])), cup h (hza5 k (by omega)), cup h (ia_at hzb5 (by rw [hr, map_at, getD_i (by omega)])), cup h y1, cup h z1, y2.below h, z2.below h, hp.line _ (List.getElem_mem _)⟩
  rw [← hm, hr, List.length_append, List.length_cons]
  omega))
 have WD := hid (fun W (h : Below ((w.alloc (.cells (arr11 V) 28)).alloc (.cells (eight X).toArray 43)).heap.size ((w.alloc (.cells (arr11 V) 28)).alloc (.cells (eight X).toArray 43)) W) (k : Nat) (hk : (lv L k == part) = true) (hlt : k < n) (i : Nat) (hi : i < 16) => (show ∃ (x : Int) (f : Nat → Int), W.cell? ⟨a0, oa0 + (k * 16 + i), none⟩ = some (.int .i64 x) ∧ W.cell? ⟨b0, ob0 + ((frL L part k).length * 16 + i), none⟩ = some (.int .i64 x) ∧ W.rangeAt a2 (oa2 + (k * 16 + i) * 7) (cf 7 f) ∧ W.rangeAt b1 (ob1 + ((frL L part k).length * 16 + i) * 7) (cf 7 f) from by
  obtain ⟨r, hr⟩ := frL_split hk n hlt
  have hk2 : ∀ f ∈ frL L part k, f < n := fun f hf => Nat.lt_trans (frL_in f hf) hlt
  exact ⟨p.ram[k * 16 + i]'(by omega), p.slots[k * 16 + i]'(by omega), cup h (hza0 _ (by omega)), cup h (ia_at hzb0 (by rw [hr, fm_at (fun f hf => g0 f (hk2 f hf)) (g0 k hlt) hi, pt_at hi, List.getElem?_eq_getElem])), range_belowO (hza2 _ (by omega)) h, range_belowO (ra_at hzb1 (by rw [hr, fm_at (fun f hf => g1 f (hk2 f hf)) (g1 k hlt) hi, pt_at hi, List.getElem?_eq_getElem])) h⟩))
 have RD := hid (fun W (h : Below ((w.alloc (.cells (arr11 V) 28)).alloc (.cells (eight X).toArray 43)).heap.size ((w.alloc (.cells (arr11 V) 28)).alloc (.cells (eight X).toArray 43)) W) (j : Nat) (hj : j < rn) => (show ∃ (l : List Int) (u v : Value), W.cell? ⟨a7, oa7 + j, none⟩ = some u ∧ W.cell? ⟨b6, ob6 + j, none⟩ = some v ∧ IntsIn W u l ∧ IntsIn W v (thL L part l) ∧ l.length ≤ 1000 ∧ ∀ z ∈ l, ∃ f : Nat, f < n ∧ z = f from by
  obtain ⟨u, u1, u2⟩ := hza7 j (by omega)
  obtain ⟨v, v1, v2⟩ := la_at (j := j) (l := thL L part (p.ready[j]'(by omega))) hzb6 (by rw [List.getElem?_map, List.getElem?_eq_getElem (by omega)]; rfl)
  exact ⟨p.ready[j]'(by omega), u, v, cup h u1, cup h v1, u2.below h, v2.below h, hp.next _ (List.getElem_mem _), fun z hz => hn ▸ ready_fr hs (by omega) z hz⟩))
 have CD := hid (fun W (h : Below ((w.alloc (.cells (arr11 V) 28)).alloc (.cells (eight X).toArray 43)).heap.size ((w.alloc (.cells (arr11 V) 28)).alloc (.cells (eight X).toArray 43)) W) (j : Nat) (hj : j < cn) => (show ∃ t : Int, W.cell? ⟨a6, oa6 + j, none⟩ = some (.int .i64 t) ∧ W.cell? ⟨b7, ob7 + j, none⟩ = some (.int .i64 (rnV L part t)) ∧ (t = -1 ∨ ∃ f : Nat, f < n ∧ t = f) from by
  exact ⟨p.cores[j]'(by omega), cup h (hza6 j (by omega)), cup h (ia_at hzb7 (by rw [List.getElem?_map, List.getElem?_eq_getElem (by omega)]; rfl)), hn ▸ cores_fr hs (by omega)⟩))
 have hm24 : (m : Int) ≤ 24 := by omega
 have hn24' : (n : Int) ≤ 24 := by omega
 have hrn' : (rn : Int) ≤ 16 := by omega
 have hcn' : (cn : Int) ≤ 4 := by omega
 have EN16 := hid (show (n16 : Int) = (n : Int) * 16 by omega)
 have EM16 := hid (show (m16 : Int) = (m : Int) * 16 by omega)
 have HM := hid hm
 clear hv hp hs hn hL hg hm hx s1 ra rb va vx hgw hlf hfi g0 g1 l0 l1 l2 l3 l4 l5 l6 l7 k0 k1 k2 k3 k4 k5 k6 k7 hn16 hm16 ea0 hqa0 hza0 ac0 eb0 hqb0 hzb0 bc0 ea1 hqa1 hza1 ac1 eb1 hqb1 hzb1 bc1 ea2 hqa2 hza2 ac2 eb2 hqb2 hzb2 bc2 ea3 hqa3 hza3 ac3 eb3 hqb3 hzb3 bc3 ea4 hqa4 hza4 ac4 eb4 hqb4 hzb4 bc4 ea5 hqa5 hza5 ac5 eb5 hqb5 hzb5 bc5 ea6 hqa6 hza6 ac6 eb6 hqb6 hzb6 bc6 ea7 hqa7 hza7 ac7 eb7 hqb7 hzb7 bc7
 go_enter Tryz.func13, Tryz.ntmps13
 go_wp2_with fail
 generalize ((w.alloc (.cells (arr11 V) 28)).alloc (.cells (eight X).toArray 43)) = W0 at *
 go_loopw [9, 10] (fun c i wr => ∃ k : Nat, k ≤ n ∧ i = .int .i64 k ∧ c = .int .i64 (frL L part k).length ∧ Hid (Below W0.heap.size W0 wr)) (fun _ i _ => n - (intOf i).toNat)
 case atStart => exact ⟨0, by omega, rfl, rfl, hid (Below.refl _ _)⟩
 case round =>
  obtain ⟨k, hk, rfl, rfl, HB⟩ := hrel
  by_cases hlt : k < n
  ·have hlt2 : (k : Int) < (n : Int) := by omega
   have cg := GC.out wr HB.out k hlt
   have HS := hid (frL_succ L part k)
   cases hx : lv L k == part with
   | false =>
    rw [hx, if_neg (by decide), List.append_nil] at HS
    generalize lv L k = x at *
    go_wp2_with fail
    exact ⟨⟨k + 1, by omega, by go_num, by rw [HS.out], HB⟩, by simp [intOf]; omega⟩
   | true =>
    have HX := hid hx
    rw [hx, if_pos rfl] at HS
    have HS2 := hid (show (frL L part (k + 1)).length = (frL L part k).length + 1 by rw [HS.out, List.length_append]; rfl)
    have hxp : lv L k = part := by simpa using hx
    rw [hxp] at cg
    clear hx hxp HS
    obtain ⟨f1, x1, t1, l, ya, yb, hidx, XA, XB, ka, kb, ta, tb, ya1, yb1, YA, YB, YL⟩ := FR.out wr HB.out k HX.out hlt
    have WE := hid (fun W (h : Below W0.heap.size W0 W) => WD.out W h k HX.out hlt)
    generalize (frL L part k).length = idx at *
    obtain ⟨ac0, ac1, ac2, ac3, ac4, ac5, -, -, bc0, bc1, bc2, bc3, bc4, bc5, -, -⟩ := KC.out wr HB.out
    have hid2 : (idx : Int) < (m : Int) := by omega
    have q16 : ¬ ((m16 : Int) < ((idx : Int) + 1) * 16) := by have := EM16.out; omega
    have q1 : ¬ ((m : Int) < (idx : Int) + 1) := by omega
    replace XA := hid XA
    replace XB := hid XB
    replace YA := hid (fun W (h : Dr wr W) => YA.below h.below)
    replace YB := hid (fun W (h : Dr wr W) => YB.below h.below)
    replace YL := hid YL
    go_upto_region 9 with fail
    refine wp_region_quiet_lit (by kernel_rfl) (lex_eq (by kernel_rfl) sn_lex) ?_
    repeat (first | go_big_quiet_skip | ((with_reducible (show wpQuiet _ _ _ _ (⟨_, Op.load 61 _, _, _, _, _⟩ :: _) _)); refine q_ld (by rfl) _ _ rfl a3 _ rfl 20 f1 _ Tryz.underlying61 rfl info20 XA.out ?_; simp only [Act.put, jD, jE, jF]) | ((with_reducible (show wpQuiet _ _ _ _ (⟨_, Op.load 61 _, _, _, _, _⟩ :: _) _)); refine q_ld (by rfl) _ _ rfl b2 _ rfl 20 f1 _ Tryz.underlying61 rfl info20 XB.out ?_; simp only [Act.put, jD, jE, jF]) | ((with_reducible (show wpQuiet _ _ _ _ (⟨_, Op.binOp .neq 61 _ _ _, _, _, _, _⟩ :: _) _)); refine q_do (by rfl) _ (fun W _ => exec_neU _ _ _ rfl f1 f1 rfl rfl (eqB_self 20 f1) W) ?_; simp only [Act.put, jD, jE, jF]) | (go_big_quiet_want; go_big_quiet_op; first | go_big_quiet_on | go_big_quiet_call (first | ((with_reducible (show Calls _ 11 _ _ _)); refine Calls.quiet_of (same_b _ _ l l _ (YB.out _ (dr1 (dr0 _))) (YA.out _ (dr1 (dr0 _))) YL.out YL.out (decide_eq_true rfl))))))
    refine wpQuiet_nil ?_
    intro _ hw'
    obtain ⟨nq, hw''⟩ := hw'
    subst hw''
    have HB5 := hid (below_drewN HB.out nq)
    generalize wr.drewN nq = w5 at *
    clear XA XB ka kb ta tb ya1 yb1 YA YB YL ac0 ac1 ac2 ac3 ac4 ac5 bc0 bc1 bc2 bc3 bc4 bc5 cg HB
    go_wp2_with fail
    go_loopw [11] (fun i w6 => ∃ j : Nat, j ≤ 16 ∧ i = .int .i64 j ∧ Hid (Below W0.heap.size W0 w6)) (fun i _ => 16 - (intOf i).toNat)
    case atStart => exact ⟨0, by omega, rfl, HB5⟩
    case round =>
     obtain ⟨j, hj, rfl, HB6⟩ := hrel
     by_cases hj2 : j < 16
     rotate_left
     ·obtain rfl : j = 16 := by omega
      go_wp2_with fail
      exact ⟨⟨k + 1, by omega, by go_num, by rw [HS2.out]; go_num, HB6⟩, by simp [intOf]; omega⟩
     have hj3 : (j : Int) < 16 := by omega
     obtain ⟨x0, s1, ra1, ra2, SA, SB⟩ := WE.out wr HB6.out j hj2
     obtain ⟨ac0, -, ac2, -, -, -, -, -, bc0, bc1, -⟩ := KC.out wr HB6.out
     have i1 : (k : Int) * 16 + (j : Int) < (n16 : Int) := by have := EN16.out; omega
     have i2 : (idx : Int) * 16 + (j : Int) < (m16 : Int) := by have := EM16.out; omega
     replace SA := hid SA
     replace SB := hid SB
     clear HB5
     go_upto_region 14 with fail
     refine wp_region_quiet_lit (by kernel_rfl) (by kernel_rfl) ?_
     repeat (first | go_big_quiet_skip | ((with_reducible (show wpQuiet _ _ _ _ (⟨_, Op.load 58 _, _, _, _, _⟩ :: _) _)); refine q_ld (by rfl) _ _ rfl a2 _ rfl 7 s1 _ Tryz.underlying58 rfl info7 SA.out ?_; simp only [Act.put, jD, jE, jF]) | ((with_reducible (show wpQuiet _ _ _ _ (⟨_, Op.load 58 _, _, _, _, _⟩ :: _) _)); refine q_ld (by rfl) _ _ rfl b1 _ rfl 7 s1 _ Tryz.underlying58 rfl info7 SB.out ?_; simp only [Act.put, jD, jE, jF]) | ((with_reducible (show wpQuiet _ _ _ _ (⟨_, Op.binOp .neq 58 _ _ _, _, _, _, _⟩ :: _) _)); refine q_do (by rfl) _ (fun W _ => exec_neS _ _ _ rfl s1 s1 rfl rfl (eqB_self 7 s1) W) ?_; simp only [Act.put, jD, jE, jF]) | (go_big_quiet_want; go_big_quiet_op; first | go_big_quiet_on | go_big_quiet_call (fail)))
     refine wpQuiet_nil ?_
     intro _ hw'
     obtain ⟨nq, hw''⟩ := hw'
     subst hw''
     have HB7 := hid (below_drewN HB6.out nq)
     clear SA SB ra1 ra2 ac0 ac2 bc0 bc1 HB6
     go_wp2_with fail
     exact ⟨⟨j + 1, by omega, by go_num, HB7⟩, by simp [intOf]; omega⟩
  ·obtain rfl : n = k := by omega
   have hge : ¬ ((n : Int) < (n : Int)) := by omega
   rw [HM.out]
   have e16 : ((m16 : Int) == (m : Int) * 16) = true := by have := EM16.out; simp; exact this
   obtain ⟨-, -, -, -, -, -, ac6, ac7, bc0, bc1, bc2, bc3, bc4, bc5, bc6, bc7⟩ := KC.out wr HB.out
   go_wp2_with fail
   clear ac6 ac7 bc0 bc1 bc2 bc3 bc4 bc5 bc6 bc7
   go_loopw [12] (fun i w6 => ∃ j : Nat, j ≤ rn ∧ i = .int .i64 j ∧ Hid (Below W0.heap.size W0 w6)) (fun i _ => rn - (intOf i).toNat)
   case atStart => exact ⟨0, by omega, rfl, HB⟩
   case round =>
    clear HB
    obtain ⟨j, hj, rfl, HB6⟩ := hrel
    generalize wr = w5 at *
    obtain ⟨-, -, -, -, -, -, -, ac7, -, -, -, -, -, -, bc6, -⟩ := KC.out w5 HB6.out
    by_cases hj2 : j < rn
    ·have hj3 : (j : Int) < (rn : Int) := by omega
     obtain ⟨l, u, v, u1, v1, ul, vl, ll, lin⟩ := RD.out w5 HB6.out j hj2
     obtain ⟨qq, bq, oq, cq, rfl, hqq, hzq⟩ := ul
     have hll : (l.length : Int) ≤ 1000 := by omega
     have KQ := hid hqq
     have KZ := hid hzq
     have KV := hid vl
     have KI := hid lin
     have LL := hid ll
     have C7 := hid ac7
     have D6 := hid bc6
     have U1 := hid u1
     have V1 := hid v1
     clear hqq hzq vl lin ll bc6 u1 v1
     go_wp2_with fail
     clear ac7
     go_loopw [13, 14] (fun u i w6 => ∃ (k : Nat) (qu : Option Addr) (cu : Nat), k ≤ l.length ∧ i = .int .i64 k ∧ u = .slice qu (thL L part (l.take k)).length cu ∧ Hid (w6.ownsRow w5.heap.size 3 1 (.slice qu (thL L part (l.take k)).length cu) (thL L part (l.take k)).length (ints (thL L part (l.take k)))) ∧ Hid (Below w5.heap.size w5 w6)) (fun _ i _ => l.length - (intOf i).toNat)
     case atStart => exact ⟨0, none, 0, by omega, rfl, rfl, hid (World.ownsRow_nil _ _ _ _), hid (Below.refl _ _)⟩
     case round =>
      obtain ⟨k, qu, cu, hk, rfl, rfl, HO, HC⟩ := hrel
      have BB := hid (btr HB6.out HC.out)
      have c7 := cup HC.out C7.out
      have u1 := cup HC.out U1.out
      by_cases hlt : k < l.length
      rotate_left
      ·obtain rfl : l.length = k := by omega
       have hge : ¬ ((l.length : Int) < (l.length : Int)) := by omega
       have d6 := cup HC.out D6.out
       have v1 := cup HC.out V1.out
       have HO2 := HO.out
       have HLN := hid (show (thL L part l).length ≤ 1000 from Nat.le_trans (thL_len _ _ _) LL.out)
       rw [List.take_length] at HO2
       have HO3 := hid (own_ints HO2)
       clear HO HO2
       rw [List.take_length]
       go_wp2_with fail
       refine (same_in _ _ (thL L part l) wr (KV.out.below HC.out) HO3.out HLN.out).mono ?_
       rintro r w7 ⟨rfl, hb⟩
       have B7 := hid (btr BB.out hb)
       clear hb d6 v1 c7 u1 HO3
       go_wp2_with fail
       exact ⟨⟨j + 1, by omega, by go_num, B7⟩, by simp [intOf]; omega⟩
      have hlt2 : (k : Int) < (l.length : Int) := by omega
      obtain rfl := KQ.out (by omega)
      have cz := (KZ.out.below HC.out) k hlt
      have HS := hid (thL_succ L part l k hlt)
      have HLN := hid (show (thL L part (l.take k)).length ≤ 1000 from Nat.le_trans (thL_len _ _ _) (by rw [List.length_take]; omega))
      obtain ⟨f, hf, hfe⟩ := KI.out l[k] (List.getElem_mem hlt)
      have hf2 : (f : Int) < (n : Int) := by omega
      rw [hfe] at cz HS
      rw [Int.toNat_natCast] at HS
      have cg := GC.out wr BB.out f hf
      clear hfe
      generalize thL L part (l.take k) = zs at HO HS HLN ⊢
      generalize lv L f = y at cg HS
      cases hs : y == part with
      | false =>
       rw [hs, if_neg (by decide), List.append_nil] at HS
       go_wp2_with fail
       exact ⟨⟨k + 1, qu, cu, by omega, by go_num, by rw [HS.out], hid (by rw [HS.out]; exact HO.out), HC⟩, by simp [intOf]; omega⟩
      | true =>
       rw [hs, if_pos rfl] at HS
       obtain ⟨q', c', w', hr, h2, h3⟩ := app_i (y := (f : Int)) HC.out HLN.out HO.out
       have HR := hid hr
       have HNN := hid h2
       have HBB := hid h3
       clear hr h2 h3
       go_wp2_with (first | (at_builtin; refine wpList_appP rfl _ _ 22 rfl (.slice qu zs.length cu) (.slice (some ⟨wr.heap.size, 0, none⟩) 1 1) (.slice q' (zs.length + 1) c') rfl rfl HR.out ?_))
       exact ⟨⟨k + 1, q', c', by omega, by go_num, by rw [HS.out, List.length_append]; rfl, hid (by rw [HS.out]; have := HNN.out; rw [List.length_append] at this ⊢; exact this), HBB⟩, by simp [intOf]; omega⟩
    ·obtain rfl : rn = j := by omega
     have hge2 : ¬ ((rn : Int) < (rn : Int)) := by omega
     go_wp2_with fail
     clear ac7 bc6
     go_loopw [15] (fun i w6 => ∃ j : Nat, j ≤ cn ∧ i = .int .i64 j ∧ Hid (Below W0.heap.size W0 w6)) (fun i _ => cn - (intOf i).toNat)
     case atStart => exact ⟨0, by omega, rfl, HB6⟩
     case round =>
      clear HB6
      obtain ⟨j, hj, rfl, HB7⟩ := hrel
      obtain ⟨-, -, -, -, -, -, ac6, -, -, -, -, -, -, -, -, bc7⟩ := KC.out wr HB7.out
      by_cases hj2 : j < cn
      rotate_left
      ·obtain rfl : cn = j := by omega
       have hge3 : ¬ ((cn : Int) < (cn : Int)) := by omega
       go_wp2_with fail
       go_ret
       exact ⟨rfl, btr B0.out HB7.out⟩
      have hj3 : (j : Int) < (cn : Int) := by omega
      obtain ⟨t, t1, t2, ht⟩ := CD.out wr HB7.out j hj2
      rcases ht with rfl | ⟨f, hf, rfl⟩
      ·rw [show rnV L part (-1) = -1 from rfl] at t2
       go_wp2_with fail
       exact ⟨⟨j + 1, by omega, by go_num, HB7⟩, by simp [intOf]; omega⟩
      ·have hf2 : (f : Int) < (n : Int) := by omega
       have cg := GC.out wr HB7.out f hf
       have hrv : rnV L part (f : Int) = if (lv L f == part) = true then (f : Int) else -1 := by
        unfold rnV
        rw [if_neg (by omega), Int.toNat_natCast]
       rw [hrv] at t2
       generalize lv L f = y at cg t2
       clear hrv
       have hf0 : (0 : Int) ≤ (f : Int) := by omega
       cases hs : y == part with
       | false =>
        rw [hs, if_neg (by decide)] at t2
        go_wp2_with fail
        exact ⟨⟨j + 1, by omega, by go_num, HB7⟩, by simp [intOf]; omega⟩
       | true =>
        rw [hs, if_pos rfl] at t2
        go_wp2_with fail
        exact ⟨⟨j + 1, by omega, by go_num, HB7⟩, by simp [intOf]; omega⟩
theorem wp_ldVg {ops : Array Oper} {rest : List Oper} {op : Oper} {a : Act} {w : World} {Q : Exit → Act → World → Prop} (hw : Region.wanted op (yielded ops a.tmps) = true) (x : Operand) (ho : op.op = .load 43 x)
  (b : Nat) (hx : a.eval x = .pointer (some ⟨b, 0, none⟩)) (X : Nat → Value) (hc : w.rangeAt b 0 (eight X))
  (h : wpList Tryz.prog ops Q rest (a.put op.dst (.agg (eight X).toArray)) w) : wpList Tryz.prog ops Q (op :: rest) a w :=
 BigFrame.wpList_want hw fun _ hK => wp_load_mid 43 x ho b 0 hx (eight X) _ hc Tryz.underlying43 rfl (info_v3 X) (hK _ _ h)
theorem vw_one {W : World} {X : Nat → Value} {p : PW} {fr : List Nat} {ts : List (List Int)} {rs : List Int} (h : Vw W X p fr ts rs) : (eight X).toArray.all (·.oneCell') = true := by
 obtain ⟨_, _, _, _, e0, -⟩ := h.ram
 obtain ⟨_, _, _, _, e1, -⟩ := h.slots
 obtain ⟨_, _, _, _, e2, -⟩ := h.tasks
 obtain ⟨_, _, _, _, e3, -⟩ := h.kinds
 obtain ⟨_, _, _, _, e4, -⟩ := h.lines
 obtain ⟨_, _, _, _, e5, -⟩ := h.bits
 obtain ⟨_, _, _, _, e6, -⟩ := h.turns
 obtain ⟨_, _, _, _, e7, -⟩ := h.runs
 simp [eight, e0, e1, e2, e3, e4, e5, e6, e7, Value.oneCell']
theorem ok_fr {p : PW} {part : Int} (h : okP p part = true) : 0 ≤ part ∧ part < (p.kinds.length : Int) ∧ lv (ptL p) part.toNat = part := by
 unfold okP frB at h
 rw [Bool.and_eq_true] at h
 have := of_decide_eq_true h.1
 exact ⟨this.1, by omega, by simpa using h.2⟩
theorem ok_len {p : PW} {part : Int} (h : okP p part = true) : 0 < (frL (ptL p) part p.kinds.length).length := by
 obtain ⟨h1, h2, h3⟩ := ok_fr h
 have hm : part.toNat ∈ frL (ptL p) part p.kinds.length := by
  unfold frL
  rw [List.mem_filter]
  exact ⟨List.mem_range.2 (by omega), by rw [h3]; simp⟩
 exact List.length_pos_of_mem hm
theorem no_fr {p : PW} {part : Int} (h : okP p part = false) : part < 0 ∨ (¬ part < 0 ∧ (p.kinds.length : Int) ≤ part) ∨ (¬ part < 0 ∧ part < (p.kinds.length : Int) ∧ (lv (ptL p) part.toNat == part) = false) := by
 unfold okP frB at h
 by_cases h1 : part < 0
 ·exact .inl h1
 ·by_cases h2 : (p.kinds.length : Int) ≤ part
  ·exact .inr (.inl ⟨h1, h2⟩)
  ·refine .inr (.inr ⟨h1, by omega, ?_⟩)
   rw [decide_eq_true (by omega), Bool.true_and] at h
   exact h
set_option maxRecDepth 100000 in
set_option maxHeartbeats 8000000 in
theorem partsSay_any (V : Nat → Value) (p : PW) (part : Int) (w : World) (hv : WorldR w V p) (r0 : RoomV (V 0)) (r2 : RoomV (V 2)) (hg : ETok w) :
  Calls Tryz.prog 3 #[.agg (arr11 V), .int .i64 part] w fun x w' => x = .returned (.bool true) ∧ Below w.heap.size w w' := by
 have B0 := hid (bal (Below.refl w.heap.size w) (.cells (arr11 V) 28))
 have RA := hid (boxed w V 28)
 have HV := hid (hv.below B0.out)
 have HG := hid (hg.below B0.out)
 have HR := hid (show RoomV (V 0) ∧ RoomV (V 2) from ⟨r0, r2⟩)
 clear hv hg r0 r2
 go_enter Tryz.func3, Tryz.ntmps3
 go_wp2_with (first | go_skip | go_big_skip | ((with_reducible (show wpList _ _ _ (⟨_, Op.load 28 _, _, _, _, _⟩ :: _) _ _)); refine wp_ldWg (by rfl) _ rfl _ rfl V RA.out ?_))
 generalize w.alloc (.cells (arr11 V) 28) = W0 at *
 refine (hugeWorld_any V p W0 HV.out).mono ?_
 rintro r w1 ⟨rfl, hb⟩
 have B1 := hid hb
 have KA := hid (fun W (hb : Below W0.heap.size W0 W) => range_below RA.out hb)
 replace RA := hid (KA.out _ B1.out)
 clear hb
 by_cases hs : Small p
 rotate_left
 ·rw [huge_t hs]
  clear hs
  go_wp2_with (first | go_skip | go_big_skip | ((with_reducible (show wpList _ _ _ (⟨_, Op.load 28 _, _, _, _, _⟩ :: _) _ _)); refine wp_ldWg (by rfl) _ rfl _ rfl V RA.out ?_))
  go_ret
  exact ⟨rfl, btr B0.out B1.out⟩
 rw [huge_f hs]
 obtain ⟨hv, hp⟩ := small_world HV.out hs
 have HV2 := hid hv
 have HP := hid hp
 clear hv hp hs HV
 go_wp2_with (first | go_skip | go_big_skip | ((with_reducible (show wpList _ _ _ (⟨_, Op.load 28 _, _, _, _, _⟩ :: _) _ _)); refine wp_ldWg (by rfl) _ rfl _ rfl V RA.out ?_))
 refine (sound_law V p w1 (HV2.out.below B1.out) HP.out).mono ?_
 rintro r w2 ⟨rfl, hb⟩
 replace B1 := hid (btr B1.out hb)
 replace RA := hid (KA.out _ B1.out)
 clear hb
 have HO := hid (fun W (hb : Below W0.heap.size W0 W) => of_any V p W (HV2.out.below hb) HP.out HR.out.1)
 have HSE := hid (fun W (hb : Below W0.heap.size W0 W) => see_any V p part W (HV2.out.below hb) HP.out HR.out.1 HR.out.2)
 have HI := hid (fun (e : Int) W (hb : Below W0.heap.size W0 W) => is_yes (eV e) e (-1) W (HG.out.below hb) (eV_tells e))
 clear HR HG
 cases hs : sndB p with
 | false =>
  rw [show sndE p = 8 by unfold sndE; rw [hs]; rfl]
  have HSN := hid (show seE p part = 8 by unfold seE; rw [hs]; rfl)
  go_wp2_with (first | go_skip | go_big_skip | ((with_reducible (show wpList _ _ _ (⟨_, Op.load 28 _, _, _, _, _⟩ :: _) _ _)); refine wp_ldWg (by rfl) _ rfl _ rfl V RA.out ?_))
  refine (HO.out _ B1.out).mono ?_
  rintro r v1 ⟨h8, -, hb⟩
  obtain rfl := h8 hs
  replace B1 := hid (btr B1.out hb)
  clear h8 hb hs
  go_wp2_with fail
  refine (err_any _ _).mono ?_
  rintro r v2 ⟨rfl, hb⟩
  replace B1 := hid (btr B1.out hb)
  clear hb
  go_wp2_with fail
  refine (HI.out 8 v2 B1.out).mono ?_
  rintro r v3 ⟨rfl, hb⟩
  replace B1 := hid (btr B1.out hb)
  clear hb
  go_wp2_with fail
  refine (same_in _ _ [] v3 (ints_nil _) (ints_nil _) (by decide)).mono ?_
  rintro r v4 ⟨rfl, hb⟩
  replace B1 := hid (btr B1.out hb)
  replace RA := hid (KA.out _ B1.out)
  clear hb
  go_wp2_with (first | go_skip | go_big_skip | ((with_reducible (show wpList _ _ _ (⟨_, Op.load 28 _, _, _, _, _⟩ :: _) _ _)); refine wp_ldWg (by rfl) _ rfl _ rfl V RA.out ?_))
  refine (HSE.out _ B1.out).mono ?_
  rintro r v5 ⟨X, rfl, hX, -, hb⟩
  rw [HSN.out] at hX
  obtain rfl := hX (by decide)
  rw [HSN.out, show eV 8 = .iface 30 (.int .i64 8) from rfl]
  replace B1 := hid (btr B1.out hb)
  have TH := hid (there_new v5 #[.slice none 0 0, .slice none 0 0, .slice none 0 0, .slice none 0 0, .slice none 0 0, .slice none 0 0, .slice none 0 0, .slice none 0 0] 43 v5.heap.size 8 rfl (by decide))
  have B6 := hid (below_setCells (bal B1.out (.cells #[.slice none 0 0, .slice none 0 0, .slice none 0 0, .slice none 0 0, .slice none 0 0, .slice none 0 0, .slice none 0 0, .slice none 0 0] 43)) (show W0.heap.size ≤ v5.heap.size from B1.out.size) (eight nilX) 0)
  have R6 := World.rangeAt_setCells_same (v5.alloc (.cells #[.slice none 0 0, .slice none 0 0, .slice none 0 0, .slice none 0 0, .slice none 0 0, .slice none 0 0, .slice none 0 0, .slice none 0 0] 43)) v5.heap.size 0 (eight nilX) TH.out
  have K6 := hid R6
  clear hb hX R6
  go_wp2_with (first | ((with_reducible (show wpList _ _ _ (⟨_, Op.store 43 _ _, _, _, _, _⟩ :: _) _ _)); refine wpList_store_mid rfl 43 _ _ rfl v5.heap.size 0 (eight nilX).toArray rfl rfl TH.out (info_v2 nilX) nil_one ?_))
  generalize (v5.alloc (.cells #[.slice none 0 0, .slice none 0 0, .slice none 0 0, .slice none 0 0, .slice none 0 0, .slice none 0 0, .slice none 0 0, .slice none 0 0] 43)).setCells v5.heap.size 0 (eight nilX) = v6 at *
  replace B1 := B6
  refine (err_any _ _).mono ?_
  rintro r v2 ⟨rfl, hb⟩
  replace B1 := hid (btr B1.out hb)
  replace K6 := hid (range_below K6.out hb)
  clear hb
  go_wp2_with fail
  refine (HI.out 8 v2 B1.out).mono ?_
  rintro r v3 ⟨rfl, hb⟩
  replace B1 := hid (btr B1.out hb)
  have K7 := range_below K6.out hb
  have y0 := range_cell (k := 0) (v := .slice none 0 0) K7 rfl
  have y1 := range_cell (k := 1) (v := .slice none 0 0) K7 rfl
  have y2 := range_cell (k := 2) (v := .slice none 0 0) K7 rfl
  have y3 := range_cell (k := 3) (v := .slice none 0 0) K7 rfl
  have y4 := range_cell (k := 4) (v := .slice none 0 0) K7 rfl
  have y5 := range_cell (k := 5) (v := .slice none 0 0) K7 rfl
  have y6 := range_cell (k := 6) (v := .slice none 0 0) K7 rfl
  have y7 := range_cell (k := 7) (v := .slice none 0 0) K7 rfl
  clear hb K6 K7 B6 TH
  go_wp2_with fail
  go_ret
  exact ⟨rfl, btr B0.out B1.out⟩
 | true =>
 have HS := hid (snd_of hs)
 have HB := hid hs
 have hk24 : (p.kinds.length : Int) ≤ 24 := by have := HS.out.lf.k2; omega
 have HLN := hid (lb_pt (eg_of HS.out)).len
 rw [show sndE p = 0 by unfold sndE; rw [hs]; rfl]
 go_wp2_with (first | go_skip | go_big_skip | ((with_reducible (show wpList _ _ _ (⟨_, Op.load 28 _, _, _, _, _⟩ :: _) _ _)); refine wp_ldWg (by rfl) _ rfl _ rfl V RA.out ?_))
 refine (partsOf_ref V p w2 (HV2.out.below B1.out) HP.out (eg_of HS.out)).mono ?_
 rintro r w3 ⟨g, rfl, hm, hb⟩
 have HM := hid hm
 replace B1 := hid (btr B1.out hb)
 replace RA := hid (KA.out _ B1.out)
 clear hb hm
 go_wp2_with (first | go_skip | go_big_skip | ((with_reducible (show wpList _ _ _ (⟨_, Op.load 28 _, _, _, _, _⟩ :: _) _ _)); refine wp_ldWg (by rfl) _ rfl _ rfl V RA.out ?_))
 refine (HO.out _ B1.out).mono ?_
 rintro r v1 ⟨-, h0, hb⟩
 obtain ⟨g2, rfl, hm2, -⟩ := h0 hs
 have HM2 := hid hm2
 replace B1 := hid (btr B1.out hb)
 replace HM := hid (HM.out.next hb)
 clear h0 hb hs hm2
 go_wp2_with fail
 refine (err_any _ _).mono ?_
 rintro r v2 ⟨rfl, hb⟩
 replace B1 := hid (btr B1.out hb)
 replace HM := hid (HM.out.next hb)
 replace HM2 := hid (HM2.out.next hb)
 clear hb
 go_wp2_with fail
 refine (HI.out 0 v2 B1.out).mono ?_
 rintro r v3 ⟨rfl, hb⟩
 replace B1 := hid (btr B1.out hb)
 replace HM := hid (HM.out.next hb)
 replace HM2 := hid (HM2.out.next hb)
 clear hb
 go_wp2_with fail
 refine (same_in _ _ (ptL p) v3 (HLN.out ▸ HM2.out.sl) (HLN.out ▸ HM.out.sl) (by rw [HLN.out]; omega)).mono ?_
 rintro r v4 ⟨rfl, hb⟩
 replace B1 := hid (btr B1.out hb)
 replace RA := hid (KA.out _ B1.out)
 replace HM := hid (HM.out.next hb)
 clear hb HM2
 cases ho : okP p part with
 | false =>
  have HSN := hid (show seE p part = 2 by unfold seE; rw [HB.out, ho]; rfl)
  rcases no_fr ho with h1 | ⟨h1, h2⟩ | ⟨h1, h2, h3⟩
  rotate_left
  rotate_left
  ·have cg := HM.out.at (i := part.toNat) (by rw [HLN.out]; omega)
   generalize lv (ptL p) part.toNat = x at cg h3
   have h4 : decide ((p.kinds.length : Int) ≤ part) = false := decide_eq_false (by omega)
   have h5 : 0 ≤ part := by omega
   have h6 : (x != part) = true := by rw [bne, h3]; rfl
   replace h1 : decide (part < 0) = false := decide_eq_false h1
   clear ho
   go_wp2_with (first | go_skip | go_big_skip | ((with_reducible (show wpList _ _ _ (⟨_, Op.load 28 _, _, _, _, _⟩ :: _) _ _)); refine wp_ldWg (by rfl) _ rfl _ rfl V RA.out ?_))
   clear cg h3 h4 h5 h6 h1 h2
   refine (HSE.out _ B1.out).mono ?_
   rintro r v5 ⟨X, rfl, hX, -, hb⟩
   rw [HSN.out] at hX
   obtain rfl := hX (by decide)
   rw [HSN.out, show eV 2 = .iface 30 (.int .i64 2) from rfl]
   replace B1 := hid (btr B1.out hb)
   have TH := hid (there_new v5 #[.slice none 0 0, .slice none 0 0, .slice none 0 0, .slice none 0 0, .slice none 0 0, .slice none 0 0, .slice none 0 0, .slice none 0 0] 43 v5.heap.size 8 rfl (by decide))
   have B6 := hid (below_setCells (bal B1.out (.cells #[.slice none 0 0, .slice none 0 0, .slice none 0 0, .slice none 0 0, .slice none 0 0, .slice none 0 0, .slice none 0 0, .slice none 0 0] 43)) (show W0.heap.size ≤ v5.heap.size from B1.out.size) (eight nilX) 0)
   have R6 := World.rangeAt_setCells_same (v5.alloc (.cells #[.slice none 0 0, .slice none 0 0, .slice none 0 0, .slice none 0 0, .slice none 0 0, .slice none 0 0, .slice none 0 0, .slice none 0 0] 43)) v5.heap.size 0 (eight nilX) TH.out
   have K6 := hid R6
   clear hb hX R6
   go_wp2_with (first | ((with_reducible (show wpList _ _ _ (⟨_, Op.store 43 _ _, _, _, _, _⟩ :: _) _ _)); refine wpList_store_mid rfl 43 _ _ rfl v5.heap.size 0 (eight nilX).toArray rfl rfl TH.out (info_v2 nilX) nil_one ?_))
   generalize (v5.alloc (.cells #[.slice none 0 0, .slice none 0 0, .slice none 0 0, .slice none 0 0, .slice none 0 0, .slice none 0 0, .slice none 0 0, .slice none 0 0] 43)).setCells v5.heap.size 0 (eight nilX) = v6 at *
   replace B1 := B6
   refine (err_any _ _).mono ?_
   rintro r v2 ⟨rfl, hb⟩
   replace B1 := hid (btr B1.out hb)
   replace K6 := hid (range_below K6.out hb)
   clear hb
   go_wp2_with fail
   refine (HI.out 2 v2 B1.out).mono ?_
   rintro r v3 ⟨rfl, hb⟩
   replace B1 := hid (btr B1.out hb)
   have K7 := range_below K6.out hb
   have y0 := range_cell (k := 0) (v := .slice none 0 0) K7 rfl
   have y1 := range_cell (k := 1) (v := .slice none 0 0) K7 rfl
   have y2 := range_cell (k := 2) (v := .slice none 0 0) K7 rfl
   have y3 := range_cell (k := 3) (v := .slice none 0 0) K7 rfl
   have y4 := range_cell (k := 4) (v := .slice none 0 0) K7 rfl
   have y5 := range_cell (k := 5) (v := .slice none 0 0) K7 rfl
   have y6 := range_cell (k := 6) (v := .slice none 0 0) K7 rfl
   have y7 := range_cell (k := 7) (v := .slice none 0 0) K7 rfl
   clear hb K6 K7 B6 TH
   go_wp2_with fail
   go_ret
   exact ⟨rfl, btr B0.out B1.out⟩
  ·replace h1 : decide (part < 0) = true := decide_eq_true h1
   clear ho
   go_wp2_with (first | go_skip | go_big_skip | ((with_reducible (show wpList _ _ _ (⟨_, Op.load 28 _, _, _, _, _⟩ :: _) _ _)); refine wp_ldWg (by rfl) _ rfl _ rfl V RA.out ?_))
   refine (HSE.out _ B1.out).mono ?_
   rintro r v5 ⟨X, rfl, hX, -, hb⟩
   rw [HSN.out] at hX
   obtain rfl := hX (by decide)
   rw [HSN.out, show eV 2 = .iface 30 (.int .i64 2) from rfl]
   replace B1 := hid (btr B1.out hb)
   have TH := hid (there_new v5 #[.slice none 0 0, .slice none 0 0, .slice none 0 0, .slice none 0 0, .slice none 0 0, .slice none 0 0, .slice none 0 0, .slice none 0 0] 43 v5.heap.size 8 rfl (by decide))
   have B6 := hid (below_setCells (bal B1.out (.cells #[.slice none 0 0, .slice none 0 0, .slice none 0 0, .slice none 0 0, .slice none 0 0, .slice none 0 0, .slice none 0 0, .slice none 0 0] 43)) (show W0.heap.size ≤ v5.heap.size from B1.out.size) (eight nilX) 0)
   have R6 := World.rangeAt_setCells_same (v5.alloc (.cells #[.slice none 0 0, .slice none 0 0, .slice none 0 0, .slice none 0 0, .slice none 0 0, .slice none 0 0, .slice none 0 0, .slice none 0 0] 43)) v5.heap.size 0 (eight nilX) TH.out
   have K6 := hid R6
   clear hb hX R6
   go_wp2_with (first | ((with_reducible (show wpList _ _ _ (⟨_, Op.store 43 _ _, _, _, _, _⟩ :: _) _ _)); refine wpList_store_mid rfl 43 _ _ rfl v5.heap.size 0 (eight nilX).toArray rfl rfl TH.out (info_v2 nilX) nil_one ?_))
   generalize (v5.alloc (.cells #[.slice none 0 0, .slice none 0 0, .slice none 0 0, .slice none 0 0, .slice none 0 0, .slice none 0 0, .slice none 0 0, .slice none 0 0] 43)).setCells v5.heap.size 0 (eight nilX) = v6 at *
   replace B1 := B6
   refine (err_any _ _).mono ?_
   rintro r v2 ⟨rfl, hb⟩
   replace B1 := hid (btr B1.out hb)
   replace K6 := hid (range_below K6.out hb)
   clear hb
   go_wp2_with fail
   refine (HI.out 2 v2 B1.out).mono ?_
   rintro r v3 ⟨rfl, hb⟩
   replace B1 := hid (btr B1.out hb)
   have K7 := range_below K6.out hb
   have y0 := range_cell (k := 0) (v := .slice none 0 0) K7 rfl
   have y1 := range_cell (k := 1) (v := .slice none 0 0) K7 rfl
   have y2 := range_cell (k := 2) (v := .slice none 0 0) K7 rfl
   have y3 := range_cell (k := 3) (v := .slice none 0 0) K7 rfl
   have y4 := range_cell (k := 4) (v := .slice none 0 0) K7 rfl
   have y5 := range_cell (k := 5) (v := .slice none 0 0) K7 rfl
   have y6 := range_cell (k := 6) (v := .slice none 0 0) K7 rfl
   have y7 := range_cell (k := 7) (v := .slice none 0 0) K7 rfl
   clear hb K6 K7 B6 TH
   go_wp2_with fail
   go_ret
   exact ⟨rfl, btr B0.out B1.out⟩
  ·replace h1 : decide (part < 0) = false := decide_eq_false h1
   replace h2 : decide ((p.kinds.length : Int) ≤ part) = true := decide_eq_true h2
   clear ho
   go_wp2_with (first | go_skip | go_big_skip | ((with_reducible (show wpList _ _ _ (⟨_, Op.load 28 _, _, _, _, _⟩ :: _) _ _)); refine wp_ldWg (by rfl) _ rfl _ rfl V RA.out ?_))
   refine (HSE.out _ B1.out).mono ?_
   rintro r v5 ⟨X, rfl, hX, -, hb⟩
   rw [HSN.out] at hX
   obtain rfl := hX (by decide)
   rw [HSN.out, show eV 2 = .iface 30 (.int .i64 2) from rfl]
   replace B1 := hid (btr B1.out hb)
   have TH := hid (there_new v5 #[.slice none 0 0, .slice none 0 0, .slice none 0 0, .slice none 0 0, .slice none 0 0, .slice none 0 0, .slice none 0 0, .slice none 0 0] 43 v5.heap.size 8 rfl (by decide))
   have B6 := hid (below_setCells (bal B1.out (.cells #[.slice none 0 0, .slice none 0 0, .slice none 0 0, .slice none 0 0, .slice none 0 0, .slice none 0 0, .slice none 0 0, .slice none 0 0] 43)) (show W0.heap.size ≤ v5.heap.size from B1.out.size) (eight nilX) 0)
   have R6 := World.rangeAt_setCells_same (v5.alloc (.cells #[.slice none 0 0, .slice none 0 0, .slice none 0 0, .slice none 0 0, .slice none 0 0, .slice none 0 0, .slice none 0 0, .slice none 0 0] 43)) v5.heap.size 0 (eight nilX) TH.out
   have K6 := hid R6
   clear hb hX R6
   go_wp2_with (first | ((with_reducible (show wpList _ _ _ (⟨_, Op.store 43 _ _, _, _, _, _⟩ :: _) _ _)); refine wpList_store_mid rfl 43 _ _ rfl v5.heap.size 0 (eight nilX).toArray rfl rfl TH.out (info_v2 nilX) nil_one ?_))
   generalize (v5.alloc (.cells #[.slice none 0 0, .slice none 0 0, .slice none 0 0, .slice none 0 0, .slice none 0 0, .slice none 0 0, .slice none 0 0, .slice none 0 0] 43)).setCells v5.heap.size 0 (eight nilX) = v6 at *
   replace B1 := B6
   refine (err_any _ _).mono ?_
   rintro r v2 ⟨rfl, hb⟩
   replace B1 := hid (btr B1.out hb)
   replace K6 := hid (range_below K6.out hb)
   clear hb
   go_wp2_with fail
   refine (HI.out 2 v2 B1.out).mono ?_
   rintro r v3 ⟨rfl, hb⟩
   replace B1 := hid (btr B1.out hb)
   have K7 := range_below K6.out hb
   have y0 := range_cell (k := 0) (v := .slice none 0 0) K7 rfl
   have y1 := range_cell (k := 1) (v := .slice none 0 0) K7 rfl
   have y2 := range_cell (k := 2) (v := .slice none 0 0) K7 rfl
   have y3 := range_cell (k := 3) (v := .slice none 0 0) K7 rfl
   have y4 := range_cell (k := 4) (v := .slice none 0 0) K7 rfl
   have y5 := range_cell (k := 5) (v := .slice none 0 0) K7 rfl
   have y6 := range_cell (k := 6) (v := .slice none 0 0) K7 rfl
   have y7 := range_cell (k := 7) (v := .slice none 0 0) K7 rfl
   clear hb K6 K7 B6 TH
   go_wp2_with fail
   go_ret
   exact ⟨rfl, btr B0.out B1.out⟩
 | true =>
 have HSN := hid (show seE p part = 0 by unfold seE; rw [HB.out, ho]; rfl)
 have HLP := hid (ok_len ho)
 obtain ⟨h5, h2, h3⟩ := ok_fr ho
 have h1 : decide (part < 0) = false := decide_eq_false (by omega)
 have h4 : decide ((p.kinds.length : Int) ≤ part) = false := decide_eq_false (by omega)
 have cg := HM.out.at (i := part.toNat) (by rw [HLN.out]; omega)
 rw [h3] at cg
 clear ho h3
 go_wp2_with (first | go_skip | go_big_skip | ((with_reducible (show wpList _ _ _ (⟨_, Op.load 28 _, _, _, _, _⟩ :: _) _ _)); refine wp_ldWg (by rfl) _ rfl _ rfl V RA.out ?_))
 refine (HSE.out _ B1.out).mono ?_
 rintro r v5 ⟨X, rfl, -, hX, hb⟩
 rw [HSN.out, show eV 0 = .nilIface from rfl]
 have VX := hid (hX HSN.out)
 replace B1 := hid (btr B1.out hb)
 replace HM := hid (HM.out.next hb)
 have TH := hid (there_new v5 #[.slice none 0 0, .slice none 0 0, .slice none 0 0, .slice none 0 0, .slice none 0 0, .slice none 0 0, .slice none 0 0, .slice none 0 0] 43 v5.heap.size 8 rfl (by decide))
 have B6 := hid (below_setCells (bal (Below.refl v5.heap.size v5) (.cells #[.slice none 0 0, .slice none 0 0, .slice none 0 0, .slice none 0 0, .slice none 0 0, .slice none 0 0, .slice none 0 0, .slice none 0 0] 43)) (Nat.le_refl v5.heap.size) (eight X) 0)
 have R6 := hid (World.rangeAt_setCells_same (v5.alloc (.cells #[.slice none 0 0, .slice none 0 0, .slice none 0 0, .slice none 0 0, .slice none 0 0, .slice none 0 0, .slice none 0 0, .slice none 0 0] 43)) v5.heap.size 0 (eight X) TH.out)
 have ONE := hid (vw_one VX.out)
 clear hb hX h1 h2 h4 h5 cg
 replace RA := hid (KA.out _ (btr B1.out B6.out))
 go_wp2_with (first | go_skip | go_big_skip | ((with_reducible (show wpList _ _ _ (⟨_, Op.store 43 _ _, _, _, _, _⟩ :: _) _ _)); refine wpList_store_mid rfl 43 _ _ rfl v5.heap.size 0 (eight X).toArray rfl rfl TH.out (info_v2 X) ONE.out ?_) | ((with_reducible (show wpList _ _ _ (⟨_, Op.load 28 _, _, _, _, _⟩ :: _) _ _)); refine wp_ldWg (by rfl) _ rfl _ rfl V RA.out ?_) | ((with_reducible (show wpList _ _ _ (⟨_, Op.load 43 _, _, _, _, _⟩ :: _) _ _)); refine wp_ldVg (by rfl) _ rfl _ rfl X R6.out ?_))
 generalize (v5.alloc (.cells #[.slice none 0 0, .slice none 0 0, .slice none 0 0, .slice none 0 0, .slice none 0 0, .slice none 0 0, .slice none 0 0, .slice none 0 0] 43)).setCells v5.heap.size 0 (eight X) = v6 at *
 replace B1 := hid (btr B1.out B6.out)
 replace HM := hid (HM.out.next B6.out)
 replace VX := hid (VX.out.below B6.out)
 clear TH
 refine (seen_any V X p (ptL p) part g p.kinds.length _ v6 (HV2.out.below B1.out) HP.out HS.out rfl HLN.out (fun j hj => by rw [Nat.zero_add, HM.out.c j]; unfold ints; rw [List.getElem?_map, List.getElem?_eq_getElem hj]; rfl) rfl HLP.out VX.out).mono ?_
 rintro r v7 ⟨rfl, hb⟩
 replace B1 := hid (btr B1.out hb)
 clear hb
 go_wp2_with fail
 go_ret
 exact ⟨rfl, btr B0.out B1.out⟩
end Go.Proofs.YtacpjedncjpmpaaGreatDoor.Wd
