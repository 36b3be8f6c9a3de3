/- isa.Parse, walked. -/
import Derived.Test.YtfpkbfhaipgibaaDoorPrsRows
namespace Go.Proofs.YtfpkbfhaipgibaaDoor.Prs
open Go.RowKit Go.Maps Go.Proofs.YtfpkbfhaipgibaaDoor.Mem Go.Proofs.YtfpkbfhaipgibaaDoor.Hex Go.Proofs.YtfpkbfhaipgibaaDoor.Txt Go.Proofs.YtfpkbfhaipgibaaDoor.Isa

theorem four_new' (W : World) (n : Nat) (hn : n = W.heap.size) (a b c d : Value) (e : TypeId) : ∀ (j : Nat) (x : Value), [a, b, c, d][j]? = some x → (W.alloc (.cells #[a, b, c, d] e)).cell? ((⟨n, 0, none⟩ : Addr).add j) = some x := by
  subst hn
  exact four_new W a b c d e
theorem tells_fault {w : World} {ev : Value} {n : Int} {m : Nat} (h : Tells w ev n m) : ∃ b o, ev = .iface 95 (.pointer (some ⟨b, o, none⟩)) := by
  rcases h with ⟨_, _, h⟩ | ⟨_, h⟩ | ⟨b, o, h, _⟩
  · omega
  · omega
  · exact ⟨b, o, h⟩
theorem parse_long (s : ByteArray) (w : World) (h : 4000 < s.size) :
    Calls Tryd.prog 9 #[.string s] w fun e w' => e = .returned (.tuple #[.slice none 0 0, .iface 23 (.int .i64 2)]) ∧ Below w.heap.size w w' := by
  have h2 : 4000 < (s.size : Int) := by omega
  go_enter Tryd.func9, Tryd.ntmps9
  go_wp2_with fail
  go_ret2
  exact ⟨rfl, Below.refl _ _⟩
/-- What a text's lines come to: the first line that is not right as a label, then the first that is not right as an instruction. -/
structure Ends (ls : List ByteArray) (m m2 : Nat) : Prop where
  hm : m ≤ ls.length
  hv : ∀ j (h : j < ls.length), j < m → labE (upTo ls j).1 ls[j] = 0
  hx : ∀ h : m < ls.length, labE (upTo ls m).1 ls[m] ≠ 0
  hm2 : m2 ≤ ls.length
  hv2 : ∀ j (h : j < ls.length), j < m2 → lineE (upTo ls ls.length).1 ls[j] = 0
  hx2 : ∀ h : m2 < ls.length, lineE (upTo ls ls.length).1 ls[m2] ≠ 0
theorem lineE_zero {D : DataW Unit} {t : ByteArray} (h : lineE D t = 0) : labB t = true ∨ (labB t = false ∧ (insR D t).1 = 0) := by
  unfold lineE at h
  cases h1 : labB t with
  | true => exact .inl rfl
  | false => rw [h1, if_neg (by decide)] at h; exact .inr ⟨rfl, h⟩
theorem lineE_not {D : DataW Unit} {t : ByteArray} (h : lineE D t ≠ 0) : labB t = false ∧ (insR D t).1 ≠ 0 ∧ lineE D t = (insR D t).1 := by
  unfold lineE at h ⊢
  cases h1 : labB t with
  | true => rw [h1, if_pos rfl] at h; exact absurd rfl h
  | false => rw [h1, if_neg (by decide)] at h; exact ⟨rfl, h, by rw [if_neg (by decide)]⟩
/-- What isa.Parse answers. -/
def Parsed (ls : List ByteArray) (m m2 : Nat) (w' : World) (v ev : Value) : Prop :=
  (∃ h : m < ls.length, v = .slice none 0 0 ∧ Tells w' ev (labE (upTo ls m).1 ls[m]) m) ∨
  (m = ls.length ∧ 40 < (upTo ls ls.length).2 ∧ v = .slice none 0 0 ∧ Tells w' ev 2 (-1)) ∨
  (m = ls.length ∧ ¬ 40 < (upTo ls ls.length).2 ∧ ∃ h : m2 < ls.length, v = .slice none 0 0 ∧ Tells w' ev (lineE (upTo ls ls.length).1 ls[m2]) m2) ∨
  (m = ls.length ∧ ¬ 40 < (upTo ls ls.length).2 ∧ m2 = ls.length ∧ ev = .nilIface ∧ Rows4 w' v (codeL (upTo ls ls.length).1 ls))
set_option maxRecDepth 100000 in
set_option maxHeartbeats 8000000 in
theorem parse_some (s : ByteArray) (m m2 : Nat) (w : World) (hM : MLok w) (hN : NamesAt w) (h40 : s.size ≤ 4000) (hE : Ends (linesB s) m m2) (hl : (linesB s).length ≤ 100001) (hz : ∀ t ∈ linesB s, t.size ≤ 100000) :
    Calls Tryd.prog 9 #[.string s] w fun e w' => ∃ v ev, e = .returned (.tuple #[v, ev]) ∧ Below w.heap.size w w' ∧ Parsed (linesB s) m m2 w' v ev := by
  obtain ⟨i0, hi, hz0, hz1, hz2⟩ := info_parts infoIns
  have h4i : ¬ (4000 : Int) < (s.size : Int) := by omega
  have HM := hid hM
  have HN := hid hN
  have HE := hid hE
  have HZ := hid hz
  have HL := hid (linesOf_any s w (by omega) hM)
  clear hM hN hE hz h40
  generalize linesB s = ls at *
  go_enter Tryd.func9, Tryd.ntmps9
  go_wp2_with fail
  refine HL.out.mono ?_
  rintro e w1 ⟨lb, lc, rfl, hS, hb1⟩
  have S1 := hid hS
  have B1 := hid hb1
  clear hS hb1 HL
  go_wp2_with fail
  refine (findLabels_any ls lb lc m w1 S1.out hl HZ.out HE.out.hm HE.out.hv HE.out.hx).mono ?_
  rintro e w2 ⟨hb2, hd⟩
  have B2 := hid (btr B1.out hb2)
  have S2 := hid (S1.out.below hb2)
  have hw12 : w1.heap.size ≤ w2.heap.size := hb2.size
  clear hb2
  rcases hd with ⟨hmm, rfl, hD⟩ | ⟨hmm, ev, rfl, hT⟩
  · subst hmm
    have D2 := hid hD
    have hbm : w1.heap.size < w2.heap.size := hD.lt
    clear hD
    have hq : (upTo ls ls.length).2 ≤ ls.length := upTo_le ls ls.length
    by_cases hn : (40 : Int) < ((upTo ls ls.length).2 : Int)
    · have HQ := hid (show 40 < (upTo ls ls.length).2 by omega)
      go_wp2_with fail
      go_ret2
      exact ⟨_, _, rfl, B2.out, .inr (.inl ⟨rfl, HQ.out, rfl, .inr (.inl ⟨rfl, rfl⟩)⟩)⟩
    · have HQ := hid (show ¬ 40 < (upTo ls ls.length).2 by omega)
      have HV2 := hid HE.out.hv2
      have HX2 := hid HE.out.hx2
      have hm2 := HE.out.hm2
      clear HE
      go_wp2_with fail
      go_loopw [8, 33] (fun v i wr => ∃ k : Nat, k ≤ m2 ∧ i = .int .i64 k ∧ wr.ownsRow w2.heap.size 34 4 v (codeL (upTo ls ls.length).1 (ls.take k)).length (cells4 (codeL (upTo ls ls.length).1 (ls.take k))) ∧ Below w2.heap.size w2 wr) (fun _ i _ => ls.length - (intOf i).toNat)
      case atStart => exact ⟨0, by omega, rfl, by simpa [codeL, cells4] using World.ownsRow_nil w2 w2.heap.size 34 4, Below.refl _ _⟩
      case round =>
        obtain ⟨k, hk, rfl, hO, hB⟩ := hrel
        have HO := hid hO
        have HB := hid hB
        clear hO hB
        have hcl := codeL_len (upTo ls ls.length).1 ls k
        by_cases hlt : k < ls.length
        · have hlt2 : (k : Int) < (ls.length : Int) := by omega
          have hc := (S2.out.below HB.out) k hlt
          rw [Nat.zero_add] at hc
          have hts := HZ.out ls[k] (List.getElem_mem hlt)
          have HTK := hid (List.take_succ_eq_append_getElem hlt)
          have HV1 := hid (HV2.out k hlt)
          have HX1 := hid (show k = m2 → lineE (upTo ls ls.length).1 ls[k] ≠ 0 from fun e => by subst e; exact HX2.out hlt)
          have HE1 := hid (show ∀ e : k = m2, ∀ h : m2 < ls.length, lineE (upTo ls ls.length).1 ls[m2] = lineE (upTo ls ls.length).1 ls[k] from fun e h => by subst e; rfl)
          generalize ls[k] = t at hc hts HTK HV1 HX1 HE1
          go_wp2_with fail
          refine (isLabel_any t _ hts).mono ?_
          rintro e w3 ⟨rfl, hb3⟩
          have O3 := hid (Bld.own_below HO.out hb3)
          have B3 := hid (HB.out.trans (hb3.mono HB.out.size))
          clear hb3
          cases hL : labB t with
          | true =>
            have hkm : k < m2 := by
              by_cases h : k < m2
              · exact h
              · have := lineE_not (HX1.out (by omega))
                rw [hL] at this
                cases this.1
            go_wp2_with fail
            refine ⟨⟨k + 1, by omega, by go_num, ?_, B3.out⟩, by simp [intOf]; omega⟩
            rw [HTK.out, codeL_snoc, if_pos hL, List.append_nil]
            exact O3.out
          | false =>
            have HLB := hid hL
            clear hL
            go_wp2_with fail
            refine (parseLine_any t w1.heap.size ls.length (upTo ls ls.length).1 w3 (D2.out.keep B3.out hbm) (HM.out.below (B2.out.trans (B3.out.mono B2.out.size))) (HN.out.below (B2.out.trans (B3.out.mono B2.out.size))) hts).mono ?_
            rintro e w4 ⟨rfl, hb4⟩
            have O4 := hid (Bld.own_below O3.out hb4)
            have B4 := hid (B3.out.trans (hb4.mono B3.out.size))
            clear hb4
            generalize hqq : insR (upTo ls ls.length).1 t = qq
            obtain ⟨er, qo, qa, qb, qi⟩ := qq
            have HQQ := hid hqq
            clear hqq
            by_cases hkm : k < m2
            · have he : er = 0 := by
                rcases lineE_zero (HV1.out hkm) with h | ⟨_, h⟩
                · rw [HLB.out] at h; cases h
                · rw [HQQ.out] at h; exact h
              subst he
              rw [errV_zero]
              unfold insA
              go_wp2_with (at_builtin; refine wpList_append_own _ rfl _ _ 22 rfl w2.heap.size 34 i0 (.agg #[.int .i64 0, .int .i64 0, .int .i64 0, .int .i64 0]) 4 32 Tryd.underlying22 hi hz0 hz1 hz2 rfl (by decide) _ _ _ rfl ((O4.out.alloc _).alloc _) ⟨w4.heap.size + 1, 0, none⟩ 1 1 [.int .i64 qo, .int .i64 qa, .int .i64 qb, .int .i64 qi] rfl rfl ?c1 (four_cell _ _ _ _) ?c3 ?c4 ?c5 ?_)
              case c1 => exact four_new' _ _ (by simp) _ _ _ _ _
              case c3 => unfold maxLen; omega
              case c4 => omega
              case c5 => have := B4.out.size; simp; omega
              intro v' w5 hown' hgrow _
              have B5 := hid (((B4.out.alloc B4.out.size _).alloc (by have := B4.out.size; simp; omega) _).grown hgrow (by have := B4.out.size; simp; omega) (fun k hk => (O4.out.lt k hk).1))
              have O5 := hid hown'
              clear hown' hgrow
              go_wp2_with fail
              refine ⟨⟨k + 1, by omega, by go_num, ?_, B5.out⟩, by simp [intOf]; omega⟩
              rw [HTK.out, codeL_snoc, if_neg (by rw [HLB.out]; decide), HQQ.out, cells4_snoc, List.length_append]
              exact O5.out
            · obtain rfl : k = m2 := by omega
              have hx := lineE_not (HX1.out (by trivial))
              rw [HQQ.out] at hx
              have he : er ≠ 0 := hx.2.1
              have HEL := hid hx.2.2
              clear hx
              rw [errV_ne he]
              unfold insA
              go_wp2_with fail
              go_ret2
              refine ⟨_, _, rfl, B2.out.trans ((bal (bal (Below.refl _ _) _) _).mono ?_ |> fun h => (B4.out.mono B2.out.size).trans h), .inr (.inr (.inl ⟨rfl, HQ.out, hlt, rfl, ?_⟩))⟩
              · have := B4.out.size; have := B2.out.size; omega
              · rw [HE1.out (by trivial) hlt, HEL.out]
                refine .inr (.inr ⟨w4.heap.size + 1, 0, rfl, World.cell?_alloc_at _ _ _ _ (by simp), ?_⟩)
                rw [World.cell?_alloc_at _ _ _ _ (by simp)]
                rfl
        · obtain rfl : k = ls.length := by omega
          obtain rfl : m2 = ls.length := by omega
          have hge : ¬ ((ls.length : Int) < (ls.length : Int)) := by omega
          have O := HO.out
          rw [List.take_length] at O hcl
          have HR := hid (own_rows O (by omega)).1
          clear O
          go_wp2_with fail
          go_ret2
          exact ⟨_, _, rfl, B2.out.trans (HB.out.mono B2.out.size), .inr (.inr (.inr ⟨rfl, HQ.out, rfl, rfl, HR.out⟩))⟩
  · have HT := hid hT
    obtain ⟨fb, fo, rfl⟩ := tells_fault hT
    clear hT
    go_wp2_with fail
    go_ret2
    exact ⟨_, _, rfl, B2.out, .inl ⟨hmm, rfl, HT.out⟩⟩
end Go.Proofs.YtfpkbfhaipgibaaDoor.Prs
