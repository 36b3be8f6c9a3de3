/- mmu.Look and keyholdref.Looked walked: one answer. -/
import Derived.Test.YtfpkbfhaipgibaaDoorMmuRecall
namespace Go.Proofs.YtfpkbfhaipgibaaDoor.Mmu
open Go.RowKit Go.Proofs.YtfpkbfhaipgibaaDoor.Mem Go.Proofs.YtfpkbfhaipgibaaDoor.Bw Go.Proofs.YtfpkbfhaipgibaaDoor.Nums

def lookV (z a : Int) : Int := wrap64 (wrap64 (z * 16) + a % 16)
/-- D3: the word, what is remembered then, and what is wrong (0: nothing). -/
def lookR (zs : List Int) (l : List Ent) (s a : Int) (wr : Bool) : Int × List Ent × Int :=
  if ¬ inb zs.length s a then (0, [], 2)
  else if (recR zs l s a).2.2 ≠ 0 then (0, [], (recR zs l s a).2.2)
  else if wr = true ∧ (recR zs l s a).1.2.2.2 = false then (0, [], 4)
  else (lookV (recR zs l s a).1.2.2.1 a, (recR zs l s a).2.1, 0)
theorem look_range {zs : List Int} {l : List Ent} {s a : Int} {wr : Bool} (h : ¬ inb zs.length s a) : lookR zs l s a wr = (0, [], 2) := by
  unfold lookR
  rw [if_pos h]
theorem look_err {zs : List Int} {l m : List Ent} {s a k : Int} {wr : Bool} {e : Ent} (h : inb zs.length s a) (hr : recR zs l s a = (e, m, k)) (hk : k ≠ 0) : lookR zs l s a wr = (0, [], k) := by
  unfold lookR
  rw [if_neg (fun c => c h), hr, if_pos hk]
theorem look_right {zs : List Int} {l m : List Ent} {s a x y z : Int} (h : inb zs.length s a) (hr : recR zs l s a = ((x, y, z, false), m, 0)) : lookR zs l s a true = (0, [], 4) := by
  unfold lookR
  rw [if_neg (fun c => c h), hr, if_neg (fun c => c rfl), if_pos ⟨rfl, rfl⟩]
theorem look_ok {zs : List Int} {l m : List Ent} {s a x y z : Int} {wr b : Bool} (h : inb zs.length s a) (hr : recR zs l s a = ((x, y, z, b), m, 0)) (hb : wr = false ∨ b = true) : lookR zs l s a wr = (lookV z a, m, 0) := by
  unfold lookR
  rw [if_neg (fun c => c h), hr, if_neg (fun c => c rfl), if_neg]
  rintro ⟨h1, h2⟩
  simp only at h2
  rcases hb with e | e
  · rw [e] at h1; cases h1
  · rw [e] at h2; cases h2
theorem errV0 : errV 0 = .nilIface := by unfold errV; rw [if_pos rfl]
theorem errVk {k : Int} (hk : k ≠ 0) : errV k = .iface 23 (.int .i64 k) := by unfold errV; rw [if_neg hk]
set_option maxRecDepth 100000 in
set_option maxHeartbeats 1000000 in
theorem look_any (vr v : Value) (zs : List Int) (l : List Ent) (s a : Int) (wr : Bool) (w : World) (hr : RamAt w vr zs) (hv : TlbIn w v l) :
    Calls Tryd.prog 24 #[vr, v, .int .i64 s, .int .i64 a, .bool wr] w fun r w' => ∃ u, r = .returned (.tuple #[.int .i64 (lookR zs l s a wr).1, u, errV (lookR zs l s a wr).2.2]) ∧ TlbIn w' u (lookR zs l s a wr).2.1 ∧ Below w.heap.size w w' := by
  have HV := hid hv
  have HR := hid hr
  clear hv hr
  by_cases hin : inb zs.length s a
  · have HI := hid hin
    have HD := hid (decide_eq_true hin)
    have a0 := hin.2.2.2.2.1
    have a1 := hin.2.2.2.2.2
    clear hin
    go_enter Tryd.func24, Tryd.ntmps24
    go_wp2_with fail
    refine (inBounds_any vr zs s a w HR.out).mono ?_
    rintro r w0 ⟨rfl, rfl⟩
    rw [HD.out]
    go_wp2_with fail
    refine (recall_any vr v zs l s a w HR.out HV.out HI.out.2.2.2.2.1 HI.out.2.2.2.2.2).mono ?_
    rintro r w1 ⟨u, rfl, hT, hb⟩
    have T1 := hid hT
    have B1 := hid hb
    clear hT hb
    obtain ⟨g, hg⟩ : ∃ g, recR zs l s a = g := ⟨_, rfl⟩
    rw [hg] at T1 ⊢
    obtain ⟨⟨x, y, z, b⟩, m, k⟩ := g
    unfold entV
    simp only
    by_cases hk : k = 0
    · subst hk
      rw [errV0]
      have T2 := hid (T1.out.below (bal (Below.refl w1.heap.size w1) (.cells #[.int .i64 x, .int .i64 y, .int .i64 z, .bool b] 39)))
      have B2 := hid (bal B1.out (.cells #[.int .i64 x, .int .i64 y, .int .i64 z, .bool b] 39))
      cases wr with
      | false =>
        have HG := hid (look_ok (wr := false) HI.out hg (Or.inl rfl))
        clear hg
        go_wp2_with fail
        refine bodyPost_ret (v := .tuple #[.int .i64 (lookV z a), u, errV 0]) (by simp [errV0, lookV, results, Tryd.results24, go_sem]) rfl ⟨u, by rw [HG.out], by rw [HG.out]; exact T2.out, B2.out⟩
      | true =>
        cases b with
        | false =>
          have HG := hid (look_right HI.out hg)
          clear hg
          go_wp2_with fail
          refine bodyPost_ret (v := .tuple #[.int .i64 0, .slice none 0 0, errV 4]) (by simp [errVk, results, Tryd.results24, go_sem]) rfl ⟨_, by rw [HG.out], by rw [HG.out]; exact tlb_nil _, B2.out⟩
        | true =>
          have HG := hid (look_ok (wr := true) HI.out hg (Or.inr rfl))
          clear hg
          go_wp2_with fail
          refine bodyPost_ret (v := .tuple #[.int .i64 (lookV z a), u, errV 0]) (by simp [errV0, lookV, results, Tryd.results24, go_sem]) rfl ⟨u, by rw [HG.out], by rw [HG.out]; exact T2.out, B2.out⟩
    · have HG := hid (look_err (wr := wr) HI.out hg hk)
      have HK := hid hk
      rw [errVk hk]
      have B2 := hid (bal B1.out (.cells #[.int .i64 x, .int .i64 y, .int .i64 z, .bool b] 39))
      clear hg hk
      go_wp2_with fail
      refine bodyPost_ret (v := .tuple #[.int .i64 0, .slice none 0 0, errV k]) (by simp [errVk HK.out, results, Tryd.results24, go_sem]) rfl ⟨_, by rw [HG.out], by rw [HG.out]; exact tlb_nil _, B2.out⟩
  · have HG := hid (look_range (l := l) (wr := wr) hin)
    have HD := hid (decide_eq_false hin)
    clear hin
    go_enter Tryd.func24, Tryd.ntmps24
    go_wp2_with fail
    refine (inBounds_any vr zs s a w HR.out).mono ?_
    rintro r w0 ⟨rfl, rfl⟩
    rw [HD.out]
    go_wp2_with fail
    refine bodyPost_ret (v := .tuple #[.int .i64 0, .slice none 0 0, errV 2]) (by simp [errVk, results, Tryd.results24, go_sem]) rfl ⟨_, by rw [HG.out], by rw [HG.out]; exact tlb_nil _, Below.refl _ _⟩
theorem walk_said {zs : List Int} {s a : Int} (h : inb zs.length s a) : (walkR zs s a).2.2 = 0 ∨ (walkR zs s a).2.2 = 9 := by
  unfold walkR
  rw [if_neg (fun c => c h)]
  split
  · exact .inr rfl
  · split
    · exact .inr rfl
    · exact .inl rfl
set_option maxRecDepth 100000 in
set_option maxHeartbeats 1000000 in
theorem looked_any (vr v : Value) (zs : List Int) (l : List Ent) (s a : Int) (wr : Bool) (w : World) (hr : RamAt w vr zs) (hv : TlbIn w v l) :
    Calls Tryd.prog 23 #[vr, v, .int .i64 s, .int .i64 a, .bool wr] w fun r w' => ∃ u, r = .returned (.tuple #[.int .i64 (lookR zs l s a wr).1, u, .int .i64 (lookR zs l s a wr).2.2]) ∧ TlbIn w' u (lookR zs l s a wr).2.1 ∧ Below w.heap.size w w' := by
  have HV := hid hv
  have HR := hid hr
  clear hv hr
  by_cases hin : inb zs.length s a
  · have HI := hid hin
    have a0 := hin.2.2.2.2.1
    have a1 := hin.2.2.2.2.2
    obtain ⟨g, hg⟩ : ∃ g, walkR zs s a = g := ⟨_, rfl⟩
    have hs := walk_said hin
    rw [hg] at hs
    obtain ⟨t, b, k⟩ := g
    simp only at hs
    clear hin
    go_enter Tryd.func23, Tryd.ntmps23
    go_wp2_with fail
    refine (walked_any vr zs s a w HR.out).mono ?_
    rintro r w0 ⟨rfl, rfl⟩
    rw [hg]
    simp only
    have hk2 : (k == 2) = false := by rcases hs with rfl | rfl <;> rfl
    go_wp2_with fail
    refine (found_any v l s (a / 16) w HV.out).mono ?_
    rintro r w1 ⟨rfl, hb⟩
    have B1 := hid hb
    clear hb
    obtain ⟨f, hf⟩ : ∃ f, findR l s (a / 16) = f := ⟨_, rfl⟩
    rw [hf]
    obtain ⟨⟨x, y, z, u⟩, ok⟩ := f
    unfold foundV
    have B2 := hid (bal B1.out (.cells #[.int .i64 x, .int .i64 y, .int .i64 z, .bool u] 39))
    cases ok with
    | true =>
      have T2 := hid (HV.out.below B2.out)
      have hrec := rec_found (zs := zs) hf
      clear hf hs hg
      cases wr with
      | false =>
        have HG := hid (look_ok (wr := false) HI.out hrec (Or.inl rfl))
        clear hrec
        go_wp2_with fail
        refine bodyPost_ret (v := .tuple #[.int .i64 (lookV z a), v, .int .i64 0]) (by simp [lookV, results, Tryd.results23, go_sem]) rfl ⟨v, by rw [HG.out], by rw [HG.out]; exact T2.out, B2.out⟩
      | true =>
        cases u with
        | false =>
          have HG := hid (look_right HI.out hrec)
          clear hrec
          go_wp2_with fail
          refine bodyPost_ret (v := .tuple #[.int .i64 0, .slice none 0 0, .int .i64 4]) (by simp [results, Tryd.results23, go_sem]) rfl ⟨_, by rw [HG.out], by rw [HG.out]; exact tlb_nil _, B2.out⟩
        | true =>
          have HG := hid (look_ok (wr := true) HI.out hrec (Or.inr rfl))
          clear hrec
          go_wp2_with fail
          refine bodyPost_ret (v := .tuple #[.int .i64 (lookV z a), v, .int .i64 0]) (by simp [lookV, results, Tryd.results23, go_sem]) rfl ⟨v, by rw [HG.out], by rw [HG.out]; exact T2.out, B2.out⟩
    | false =>
      rcases hs with rfl | rfl
      · have hrec := rec_yes hf hg
        clear hf hg
        have T2 := hid (HV.out.below B2.out)
        go_wp2_with fail
        generalize World.alloc _ _ = W2 at B2 T2 ⊢
        refine (filled_any v l s (a / 16) t b W2 T2.out).mono ?_
        rintro r w3 ⟨uu, rfl, hT, hb⟩
        have T3 := hid hT.tlb
        have B3 := hid (btr B2.out hb)
        clear hT hb T2
        cases wr with
        | false =>
          have HG := hid (look_ok (wr := false) HI.out hrec (Or.inl rfl))
          clear hrec
          go_wp2_with fail
          refine bodyPost_ret (v := .tuple #[.int .i64 (lookV t a), uu, .int .i64 0]) (by simp [lookV, results, Tryd.results23, go_sem]) rfl ⟨uu, by rw [HG.out], by rw [HG.out]; exact T3.out, B3.out⟩
        | true =>
          cases b with
          | false =>
            have HG := hid (look_right HI.out hrec)
            clear hrec
            go_wp2_with fail
            refine bodyPost_ret (v := .tuple #[.int .i64 0, .slice none 0 0, .int .i64 4]) (by simp [results, Tryd.results23, go_sem]) rfl ⟨_, by rw [HG.out], by rw [HG.out]; exact tlb_nil _, B3.out⟩
          | true =>
            have HG := hid (look_ok (wr := true) HI.out hrec (Or.inr rfl))
            clear hrec
            go_wp2_with fail
            refine bodyPost_ret (v := .tuple #[.int .i64 (lookV t a), uu, .int .i64 0]) (by simp [lookV, results, Tryd.results23, go_sem]) rfl ⟨uu, by rw [HG.out], by rw [HG.out]; exact T3.out, B3.out⟩
      · have HG := hid (look_err (wr := wr) HI.out (rec_no hf hg (by decide)) (by decide))
        clear hf hg
        go_wp2_with fail
        refine bodyPost_ret (v := .tuple #[.int .i64 0, .slice none 0 0, .int .i64 9]) (by simp [results, Tryd.results23, go_sem]) rfl ⟨_, by rw [HG.out], by rw [HG.out]; exact tlb_nil _, B2.out⟩
  · have HG := hid (look_range (l := l) (wr := wr) hin)
    have HW := hid (walkR_range hin)
    clear hin
    go_enter Tryd.func23, Tryd.ntmps23
    go_wp2_with fail
    refine (walked_any vr zs s a w HR.out).mono ?_
    rintro r w0 ⟨rfl, rfl⟩
    rw [HW.out]
    go_wp2_with fail
    refine bodyPost_ret (v := .tuple #[.int .i64 0, .slice none 0 0, .int .i64 2]) (by simp [results, Tryd.results23, go_sem]) rfl ⟨_, by rw [HG.out], by rw [HG.out]; exact tlb_nil _, Below.refl _ _⟩
end Go.Proofs.YtfpkbfhaipgibaaDoor.Mmu
