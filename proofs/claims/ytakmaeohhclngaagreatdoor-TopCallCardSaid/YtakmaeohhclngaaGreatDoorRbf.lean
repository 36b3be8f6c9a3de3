/- The text 'one' of the statements is read: by computing. · Instructions out of raw numbers: keyholdref.Pick, Raw, CodeFrom (taken over from the texts of stage 1), CodeOf; walked. -/
import Derived.Test.YtakmaeohhclngaaGreatDoorRbe
import Derived.Test.YtakmaeohhclngaaGreatDoorRaj
import Derived.Test.YtakmaeohhclngaaGreatDoorRac
namespace Go.Proofs.YtakmaeohhclngaaGreatDoor.Wd
open Go.RowKit Go.Proofs.YtakmaeohhclngaaGreatDoor.Mem Go.Proofs.YtakmaeohhclngaaGreatDoor.Bw Go.Proofs.YtakmaeohhclngaaGreatDoor.Nums Go.Proofs.YtakmaeohhclngaaGreatDoor.Mmu Go.Proofs.YtakmaeohhclngaaGreatDoor.Hex
theorem runL_all {xss : List (List ByteArray)} {p : PW} : ∀ {n : Nat} {pf : PW}, n ≤ xss.length → runL xss p n = some pf → ∀ m, m ≤ n → ∃ q, runL xss p m = some q
 | 0, pf, _, h, m, hm => by
  obtain rfl : m = 0 := by omega
  exact ⟨pf, h⟩
 | n + 1, pf, hn, h, m, hm => by
  by_cases e : m = n + 1
  ·subst e; exact ⟨pf, h⟩
  ·obtain ⟨q, h1, _⟩ := runL_step (List.getElem?_eq_getElem (show n < xss.length by omega)) h
   exact runL_all (by omega) h1 m (by omega)
/-- Neither of two words. -/
def plainB : List ByteArray → Bool
 | x :: _ => !same x ⟨#[119, 111, 114, 108, 100]⟩ && !same x ⟨#[99, 111, 100, 101]⟩
 | [] => false
/-- The plain worlds of a text, line by line. -/
def worldsOf (ls : List ByteArray) (p1 : PW) (i : Nat) : PW := (runL ((ls.drop 1).map (cutB 32)) p1 (i - 1)).getD p1
theorem reads_of {ls : List ByteArray} {f c : Nat} {zs : List Int} {l : List ByteArray} (n0 : 0 < ls.length) (nn : ls.length ≤ 200) (sz : ls.all (fun t => decide (t.size ≤ 1000)) = true) (e1 : cutB 32 (ls.getD 0 ByteArray.empty) = ⟨#[119, 111, 114, 108, 100]⟩ :: l) (hok : ∀ t ∈ l, numOk t = true) (hl : l.length ≤ 100) (hm : l.map Prs.decV = (f : Int) :: (c : Int) :: zs)
  (num : 1 ≤ f ∧ f ≤ 24 ∧ 1 ≤ c ∧ c ≤ 4 ∧ 1 ≤ zs.length ∧ zs.length ≤ 8 ∧ ∀ z ∈ zs, 0 ≤ z ∧ z ≤ 3) (hp : ((ls.drop 1).map (cutB 32)).all plainB = true) (hr : (runL ((ls.drop 1).map (cutB 32)) (wlP f c zs) (ls.length - 1)).isSome = true) : Reads ls (worldsOf ls (wlP f c zs)) f c zs := by
 obtain ⟨pf, hpf⟩ := Option.isSome_iff_exists.1 hr
 have hlen : ((ls.drop 1).map (cutB 32)).length = ls.length - 1 := by simp
 refine ⟨n0, nn, fun t ht => of_decide_eq_true (List.all_eq_true.1 sz t ht), ⟨l, e1, hok, hl, hm, ?_⟩, num, fun i h1 h2 => ?_⟩
 ·unfold worldsOf
  obtain ⟨q, hq⟩ := runL_all (by rw [hlen]; exact Nat.le_refl _) hpf 0 (by omega)
  cases hx : (ls.drop 1).map (cutB 32) <;> rfl
 ·have hi : i - 1 < ((ls.drop 1).map (cutB 32)).length := by rw [hlen]; omega
  have hg : ((ls.drop 1).map (cutB 32))[i - 1]? = some (cutB 32 (ls.getD i ByteArray.empty)) := by
   rw [List.getElem?_map, List.getElem?_drop, show 1 + (i - 1) = i by omega, List.getElem?_eq_getElem h2, List.getD_eq_getElem?_getD, List.getElem?_eq_getElem h2]
   rfl
  obtain ⟨p2, h3⟩ := runL_all (by rw [hlen]; exact Nat.le_refl _) hpf (i - 1 + 1) (by omega)
  obtain ⟨q, h4, h5⟩ := runL_step hg h3
  have hpl := List.all_eq_true.1 hp _ (List.mem_of_getElem? hg)
  have w1 : worldsOf ls (wlP f c zs) i = q := by unfold worldsOf; rw [h4]; rfl
  have w2 : worldsOf ls (wlP f c zs) (i + 1) = p2 := by unfold worldsOf; rw [show i + 1 - 1 = i - 1 + 1 by omega, h3]; rfl
  rw [w1, w2]
  generalize cutB 32 (ls.getD i ByteArray.empty) = xs at *
  cases xs with
  | nil => unfold plainB at hpl; cases hpl
  | cons x l =>
   unfold plainB at hpl
   simp only [Bool.and_eq_true, Bool.not_eq_true'] at hpl
   exact ⟨x, l, rfl, same_ne hpl.1, same_ne hpl.2, stepL_ok h5⟩
/-- The text. -/
def oneB : ByteArray := ⟨#[119, 111, 114, 108, 100, 32, 50, 52, 32, 50, 32, 48, 10, 99, 108, 97, 121, 32, 49, 32, 49, 32, 50, 48, 10, 109, 97, 107, 101, 32, 110, 111, 100, 101, 32, 49, 32, 49, 32, 50, 10, 109, 97, 107, 101, 32, 115, 112, 97, 99, 101, 32, 49, 32, 49, 32, 51, 10, 109, 97, 107, 101, 32, 116, 97, 98, 108, 101, 32, 49, 32, 49, 32, 52, 10, 109, 97, 107, 101, 32, 112, 97, 103, 101, 32, 49, 32, 52, 32, 53, 10, 109, 97, 107, 101, 32, 116, 97, 115, 107, 32, 49, 32, 50, 32, 57, 10, 109, 97, 107, 101, 32, 100, 111, 111, 114, 32, 49, 32, 49, 32, 49, 49, 10, 109, 97, 107, 101, 32, 98, 101, 108, 108, 32, 49, 32, 49, 32, 49, 50, 10, 99, 111, 112, 121, 32, 49, 49, 32, 49, 54, 32, 55, 32, 53, 10, 99, 111, 112, 121, 32, 49, 50, 32, 49, 55, 32, 55, 32, 50, 10, 99, 111, 112, 121, 32, 49, 48, 32, 49, 56, 32, 55, 32, 48, 10, 99, 111, 112, 121, 32, 55, 32, 49, 57, 32, 51, 32, 48, 10, 99, 111, 112, 121, 32, 51, 32, 50, 48, 32, 55, 32, 48, 10, 99, 111, 112, 121, 32, 52, 32, 50, 49, 32, 55, 32, 48, 10, 99, 111, 112, 121, 32, 50, 32, 50, 50, 32, 55, 32, 48, 10, 99, 111, 112, 121, 32, 57, 32, 50, 51, 32, 54, 32, 48, 10, 101, 110, 116, 101, 114, 32, 50, 32, 48, 32, 51, 32, 48, 10, 101, 110, 116, 101, 114, 32, 50, 32, 48, 32, 52, 32, 48, 10, 101, 110, 116, 101, 114, 32, 50, 32, 49, 32, 53, 32, 48, 10, 101, 110, 116, 101, 114, 32, 50, 32, 50, 32, 54, 32, 49, 10, 101, 113, 117, 105, 112, 32, 56, 32, 48, 32, 50, 32, 45, 32, 48, 32, 49, 32, 48, 10, 101, 113, 117, 105, 112, 32, 57, 32, 49, 32, 50, 32, 49, 48, 32, 49, 32, 50, 32, 48, 10]⟩
/-- Its lines' words. -/
def oneP : PW := worldsOf (Prs.linesB oneB) (wlP 24 2 [0]) (Prs.linesB oneB).length
theorem one_reads : Reads (Prs.linesB oneB) (worldsOf (Prs.linesB oneB) (wlP 24 2 [0])) 24 2 [0] :=
 reads_of (l := [⟨#[50, 52]⟩, ⟨#[50]⟩, ⟨#[48]⟩]) (of_decide_eq_true (by kernel_rfl)) (of_decide_eq_true (by kernel_rfl)) (by kernel_rfl) (by kernel_rfl) (by decide) (by decide) (by kernel_rfl) (by decide) (by kernel_rfl) (by kernel_rfl)
end Go.Proofs.YtakmaeohhclngaaGreatDoor.Wd
namespace Go.Proofs.YtakmaeohhclngaaGreatDoor.Nums
open Go.RowKit Go.Proofs.YtakmaeohhclngaaGreatDoor.Mem
-- from Ints.tpl
def pickV (c n : Int) : Int := if c < 0 then (-(c + 1)).tmod n else c.tmod n
theorem pickV_bound (c n : Int) (hn : 0 < n) : 0 ≤ pickV c n ∧ pickV c n < n := by
 unfold pickV
 split
 ·have : 0 ≤ -(c + 1) := by omega
  rw [Int.tmod_eq_emod_of_nonneg this]
  exact ⟨Int.emod_nonneg _ (by omega), Int.emod_lt_of_pos _ hn⟩
 ·have : 0 ≤ c := by omega
  rw [Int.tmod_eq_emod_of_nonneg this]
  exact ⟨Int.emod_nonneg _ (by omega), Int.emod_lt_of_pos _ hn⟩
theorem pick_eq (c n : Int) (w : World) (h0 : -9223372036854775808 ≤ c) (h1 : c ≤ 9223372036854775807) (hn : 0 < n) :
  Calls Tryz.prog 6 #[.int .i64 c, .int .i64 n] w fun e w' => e = .returned (.int .i64 (pickV c n)) ∧ w = w' := by
 have hn0 : n ≠ 0 := by omega
 by_cases hc : c < 0
 ·go_enter Tryz.func6, Tryz.ntmps6
  go_wp2_with fail
  go_ret
  refine ⟨ret_int ?_, rfl⟩
  unfold pickV
  rw [if_pos hc, Int.neg_tmod]
 ·go_enter Tryz.func6, Tryz.ntmps6
  go_wp2_with fail
  go_ret
  refine ⟨ret_int ?_, rfl⟩
  unfold pickV
  rw [if_neg (by omega), Int.tmod_eq_emod_of_nonneg (by omega)]
end Go.Proofs.YtakmaeohhclngaaGreatDoor.Nums
namespace Go.Proofs.YtakmaeohhclngaaGreatDoor.Mad
open Go.RowKit Go.Proofs.YtakmaeohhclngaaGreatDoor.Mem Go.Proofs.YtakmaeohhclngaaGreatDoor.Nums Go.Proofs.YtakmaeohhclngaaGreatDoor.Wd
-- from MadeIns.tpl
/-- Instructions in memory, four words each. -/
def InsAt (w : World) (b off : Nat) (zs : List (Int × Int × Int × Int)) : Prop :=
 ∀ j (h : j < zs.length), w.cell? ⟨b, off + j * 4, none⟩ = some (.int .i64 zs[j].1) ∧ w.cell? ⟨b, off + j * 4 + 1, none⟩ = some (.int .i64 zs[j].2.1) ∧ w.cell? ⟨b, off + j * 4 + 2, none⟩ = some (.int .i64 zs[j].2.2.1) ∧ w.cell? ⟨b, off + j * 4 + 3, none⟩ = some (.int .i64 zs[j].2.2.2)
theorem infoIns : (Tryz.prog.info? 89).map (fun i => (i.zero, i.size, i.bytes)) = some (some (.agg #[.int .i64 0, .int .i64 0, .int .i64 0, .int .i64 0]), 4, 32) := by kernel_rfl
def cells4 (l : List (Int × Int × Int × Int)) : List Value := l.flatMap fun q => [.int .i64 q.1, .int .i64 q.2.1, .int .i64 q.2.2.1, .int .i64 q.2.2.2]
theorem cells4_at (l : List (Int × Int × Int × Int)) (j : Nat) (h : j < l.length) : (cells4 l)[j * 4]? = some (.int .i64 l[j].1) ∧ (cells4 l)[j * 4 + 1]? = some (.int .i64 l[j].2.1) ∧ (cells4 l)[j * 4 + 2]? = some (.int .i64 l[j].2.2.1) ∧ (cells4 l)[j * 4 + 3]? = some (.int .i64 l[j].2.2.2) := by
 induction l generalizing j with
 | nil => simp at h
 | cons q l ih =>
  have e : cells4 (q :: l) = .int .i64 q.1 :: .int .i64 q.2.1 :: .int .i64 q.2.2.1 :: .int .i64 q.2.2.2 :: cells4 l := rfl
  rw [e]
  cases j with
  | zero => exact ⟨rfl, rfl, rfl, rfl⟩
  | succ j =>
   have := ih j (by simpa using h)
   have e2 : (j + 1) * 4 = j * 4 + 4 := by omega
   rw [e2]
   exact this
theorem cells4_snoc (l : List (Int × Int × Int × Int)) (q : Int × Int × Int × Int) : cells4 (l ++ [q]) = cells4 l ++ [.int .i64 q.1, .int .i64 q.2.1, .int .i64 q.2.2.1, .int .i64 q.2.2.2] := by
 unfold cells4
 rw [List.flatMap_append]
 rfl
theorem four_new (W : World) (a b c d : Value) (e : TypeId) : ∀ (j : Nat) (x : Value), [a, b, c, d][j]? = some x → (W.alloc (.cells #[a, b, c, d] e)).cell? ((⟨W.heap.size, 0, none⟩ : Addr).add j) = some x := by
 intro j x h
 rw [show (⟨W.heap.size, 0, none⟩ : Addr).add j = ⟨W.heap.size, j, none⟩ from by unfold Addr.add; split <;> simp_all, World.cell?_alloc_at _ _ _ _ rfl]
 rw [← h]
 simp
theorem four_cell (a b c d : Int) : ∀ x ∈ [Value.int .i64 a, .int .i64 b, .int .i64 c, .int .i64 d], x.oneCell' = true := by
 intro x hx
 simp at hx
 rcases hx with rfl | rfl | rfl | rfl <;> rfl
theorem own_ins {w : World} {B : Nat} {v : Value} {l : List (Int × Int × Int × Int)} (h : w.ownsRow B 89 4 v l.length (cells4 l)) (hl : l ≠ []) : ∃ b cap, v = .slice (some ⟨b, 0, none⟩) l.length cap ∧ InsAt w b 0 l ∧ B ≤ b := by
 rcases h.2 with ⟨rfl, h1⟩ | ⟨g, cap, cur, rfl, h1, _⟩
 ·exact absurd (List.length_eq_zero_iff.1 h1) hl
 ·refine ⟨g, cap, rfl, fun j hj => ?_, h1⟩
  obtain ⟨e0, e1, e2, e3⟩ := cells4_at l j hj
  simp only [Nat.zero_add]
  rw [h.cellAt (j * 4) (by omega), h.cellAt (j * 4 + 1) (by omega), h.cellAt (j * 4 + 2) (by omega), h.cellAt (j * 4 + 3) (by omega)]
  exact ⟨e0, e1, e2, e3⟩
set_option maxHeartbeats 1000000 in
theorem raw_any (v : Value) (zs : List Int) (i : Nat) (w : World) (hv : RawIn w v zs) (hl : zs.length ≤ 256) (hi : i ≤ 200) :
  Calls Tryz.prog 48 #[v, .int .i64 i] w fun e w' => ∃ r : Int, e = .returned (.int .i64 r) ∧ 0 ≤ r ∧ r < 3000000 ∧ Below w.heap.size w w' := by
 obtain ⟨q, b, off, cap, rfl, hq, hz, hb⟩ := hv
 cases zs with
 | nil =>
  go_enter Tryz.func48, Tryz.ntmps48
  go_wp2_with fail
  go_ret
  exact ⟨(i : Int) * 31, rfl, by omega, by omega, Below.refl _ _⟩
 | cons z0 zr =>
  have hL : 0 < (z0 :: zr).length := by simp
  generalize z0 :: zr = zs at *
  have hqe := hq hL
  subst hqe
  have hm : i % zs.length < zs.length := Nat.mod_lt _ hL
  have hc := hz (i % zs.length) hm
  have hzb := hb zs[i % zs.length] (List.getElem_mem hm)
  generalize zs[i % zs.length] = z at hc hzb
  obtain ⟨h0, h1⟩ := hzb
  have hLi : (0 : Int) < (zs.length : Int) := by omega
  have hLn : ((zs.length : Int) == 0) = false := beq_eq_false_iff_ne.2 (by omega)
  have hmi : ((i : Int).tmod (zs.length : Int)) = ((i % zs.length : Nat) : Int) := by rw [Int.tmod_eq_emod_of_nonneg (by omega)]; simp
  have hdi : ((i : Int).tdiv (zs.length : Int)) = ((i / zs.length : Nat) : Int) := by rw [Int.tdiv_eq_ediv_of_nonneg (by omega)]; simp
  have hdb : i / zs.length ≤ 200 := Nat.le_trans (Nat.div_le_self _ _) hi
  obtain ⟨hp0, hp1⟩ := pickV_bound z 1000003 (by decide)
  have hm2 : ((i % zs.length : Nat) : Int) < (zs.length : Int) := Int.ofNat_lt.2 hm
  generalize i % zs.length = j at *
  generalize i / zs.length = d at *
  clear hq hz hb
  go_enter Tryz.func48, Tryz.ntmps48
  go_wp2_with fail
  go_quiet (first | (go_at_call 6; refine Calls.quiet_of_same ((pick_eq _ _ _ h0 h1 (by decide)).mono fun _ _ h => ⟨h.1, h.2.symm⟩)))
  go_wp2_with fail
  go_ret
  exact ⟨pickV z 1000003 + (d : Int) * 7919, by first | rfl | (simp; done), by omega, by omega, below_drew _ _⟩
/-- An instruction that may be, with a small number; no halt, no mov, no jump. -/
def GoodQ (q : Int × Int × Int × Int) : Prop := (0 ≤ q.1 ∧ q.1 ≤ 14) ∧ (0 ≤ q.2.1 ∧ q.2.1 ≤ 7) ∧ (0 ≤ q.2.2.1 ∧ q.2.2.1 ≤ 7) ∧ 0 ≤ q.2.2.2 ∧ q.2.2.2 ≤ 49
theorem good_of {o a b i : Int} (ho : 0 ≤ o ∧ o ≤ 14) (ha : 0 ≤ a ∧ a ≤ 7) (hb : 0 ≤ b ∧ b ≤ 7) (hi : 0 ≤ i ∧ i ≤ 49) : GoodQ (o, a, b, i) := ⟨ho, ha, hb, hi⟩
theorem good_snoc {l : List (Int × Int × Int × Int)} {q : Int × Int × Int × Int} (h : ∀ x ∈ l, GoodQ x) (hq : GoodQ q) : ∀ x ∈ l ++ [q], GoodQ x := by
 intro x hx
 rcases List.mem_append.1 hx with hx | hx
 ·exact h x hx
 ·simp at hx; subst hx; exact hq
set_option maxRecDepth 100000 in
set_option maxHeartbeats 8000000 in
theorem codeFrom_any (v : Value) (rs : List Int) (a : Nat) (w : World) (hv : RawIn w v rs) (hrl : rs.length ≤ 256) (ha : a < 100) (cl : Nat) (hc0 : 0 < (cl : Int)) (hcl : (cl : Int) ≤ 18) :
  Calls Tryz.prog 17 #[v, .int .i64 a, .int .i64 cl] w fun e w' => ∃ b cap zs, e = .returned (.slice (some ⟨b, 0, none⟩) zs.length cap) ∧ zs.length = 16 ∧ (∀ q ∈ zs, GoodQ q) ∧ InsAt w' b 0 zs ∧ w.heap.size ≤ b ∧ Below w.heap.size w w' := by
 obtain ⟨i0, hi, hz0, hz1, hz2⟩ := info_get infoIns
 have HVV := hid hv
 clear hv
 go_enter Tryz.func17, Tryz.ntmps17
 go_wp2_with fail
 go_loopw [7, 8] (fun u i wr => ∃ (k : Nat) (l : List (Int × Int × Int × Int)), k ≤ 15 ∧ i = .int .i64 k ∧ l.length = k ∧ (∀ q ∈ l, GoodQ q) ∧ wr.ownsRow w.heap.size 89 4 u l.length (cells4 l) ∧ Below w.heap.size w wr) (fun _ i _ => 15 - (intOf i).toNat)
 case atStart => exact ⟨0, [], by omega, rfl, rfl, fun q h => by simp at h, World.ownsRow_nil _ _ _ _, Below.refl _ _⟩
 case round =>
  obtain ⟨k, l, hk, rfl, hll, hg, hO, hB⟩ := hrel
  have HG := hid hg
  have HO := hid hO
  have HB := hid hB
  have HLL := hid hll
  have hl15 : l.length ≤ 15 := by omega
  clear hg hO hB hll
  by_cases hlt : k < 15
  ·have hlt2 : (k : Int) < 15 := by omega
   have HRW := hid (show Calls Tryz.prog 48 #[v, .int .i64 ((a : Int) + (k : Int))] wr fun e w' => ∃ r : Int, e = .returned (.int .i64 r) ∧ 0 ≤ r ∧ r < 3000000 ∧ Below wr.heap.size wr w' by
    have := raw_any v rs (a + k) wr (HVV.out.below HB.out) hrl (by omega)
    rw [Int.natCast_add] at this
    exact this)
   go_wp2_with fail
   refine HRW.out.mono ?_
   rintro e w3 ⟨c, rfl, hc0, hc1, hb3⟩
   have O3 := hid (own_below HO.out hb3)
   have B3 := hid (btr HB.out hb3)
   clear hb3 HRW
   go_wp2_with fail
   refine (pick_eq _ _ _ (by omega) (by omega) (by decide)).mono ?_
   rintro e w' ⟨rfl, rfl⟩
   obtain ⟨hk0, hk1⟩ := pickV_bound (c / 16) 32 (by decide)
   generalize pickV (c / 16) 32 = kk at *
   go_wp2_with fail
   refine (pick_eq _ _ _ (by omega) (by omega) (by decide)).mono ?_
   rintro e w' ⟨rfl, rfl⟩
   obtain ⟨hs0, hs1⟩ := pickV_bound c 16 (by decide)
   generalize pickV c 16 = sw at *
   have hsw : sw = 0 ∨ sw = 1 ∨ sw = 2 ∨ sw = 3 ∨ sw = 4 ∨ sw = 5 ∨ sw = 6 ∨ sw = 7 ∨ sw = 8 ∨ sw = 9 ∨ sw = 10 ∨ sw = 11 ∨ sw = 12 ∨ sw = 13 ∨ sw = 14 ∨ sw = 15 := by omega
   rcases hsw with rfl | rfl | rfl | rfl | rfl | rfl | rfl | rfl | rfl | rfl | rfl | rfl | rfl | rfl | rfl | rfl
   ·go_wp2_with (at_builtin; refine wpList_append_own _ rfl _ _ 53 rfl w.heap.size 89 i0 (.agg #[.int .i64 0, .int .i64 0, .int .i64 0, .int .i64 0]) 4 32 Tryz.underlying53 hi hz0 hz1 hz2 rfl (by decide) _ _ _ rfl (O3.out.alloc _) ⟨w3.heap.size, 0, none⟩ 1 1 [.int .i64 1, .int .i64 1, .int .i64 0, .int .i64 kk] rfl rfl ?c1 (four_cell _ _ _ _) ?c3 ?c4 ?c5 ?_)
    case c1 => exact four_new _ _ _ _ _ _
    case c3 => unfold maxLen; omega
    case c4 => omega
    case c5 => have := B3.out.size; simp; omega
    intro v' w5 hown' hgrow _
    have B5 := hid ((bal B3.out _).grown hgrow (by have := B3.out.size; simp; omega) (fun k hk => (O3.out.lt k hk).1))
    have O5 := hid hown'
    clear hown' hgrow
    go_wp2_with fail
    refine ⟨⟨k + 1, l ++ [(1, 1, 0, kk)], by omega, by go_num, by rw [List.length_append, HLL.out]; rfl, good_snoc HG.out (good_of (by omega) (by omega) (by omega) (by omega)), ?_, B5.out⟩, by simp [intOf]; omega⟩
    rw [cells4_snoc, List.length_append]
    exact O5.out
   ·go_wp2_with (at_builtin; refine wpList_append_own _ rfl _ _ 53 rfl w.heap.size 89 i0 (.agg #[.int .i64 0, .int .i64 0, .int .i64 0, .int .i64 0]) 4 32 Tryz.underlying53 hi hz0 hz1 hz2 rfl (by decide) _ _ _ rfl (O3.out.alloc _) ⟨w3.heap.size, 0, none⟩ 1 1 [.int .i64 1, .int .i64 1, .int .i64 0, .int .i64 kk] rfl rfl ?c1 (four_cell _ _ _ _) ?c3 ?c4 ?c5 ?_)
    case c1 => exact four_new _ _ _ _ _ _
    case c3 => unfold maxLen; omega
    case c4 => omega
    case c5 => have := B3.out.size; simp; omega
    intro v' w5 hown' hgrow _
    have B5 := hid ((bal B3.out _).grown hgrow (by have := B3.out.size; simp; omega) (fun k hk => (O3.out.lt k hk).1))
    have O5 := hid hown'
    clear hown' hgrow
    go_wp2_with fail
    refine ⟨⟨k + 1, l ++ [(1, 1, 0, kk)], by omega, by go_num, by rw [List.length_append, HLL.out]; rfl, good_snoc HG.out (good_of (by omega) (by omega) (by omega) (by omega)), ?_, B5.out⟩, by simp [intOf]; omega⟩
    rw [cells4_snoc, List.length_append]
    exact O5.out
   ·go_wp2_with (at_builtin; refine wpList_append_own _ rfl _ _ 53 rfl w.heap.size 89 i0 (.agg #[.int .i64 0, .int .i64 0, .int .i64 0, .int .i64 0]) 4 32 Tryz.underlying53 hi hz0 hz1 hz2 rfl (by decide) _ _ _ rfl (O3.out.alloc _) ⟨w3.heap.size, 0, none⟩ 1 1 [.int .i64 1, .int .i64 1, .int .i64 0, .int .i64 kk] rfl rfl ?c1 (four_cell _ _ _ _) ?c3 ?c4 ?c5 ?_)
    case c1 => exact four_new _ _ _ _ _ _
    case c3 => unfold maxLen; omega
    case c4 => omega
    case c5 => have := B3.out.size; simp; omega
    intro v' w5 hown' hgrow _
    have B5 := hid ((bal B3.out _).grown hgrow (by have := B3.out.size; simp; omega) (fun k hk => (O3.out.lt k hk).1))
    have O5 := hid hown'
    clear hown' hgrow
    go_wp2_with fail
    refine ⟨⟨k + 1, l ++ [(1, 1, 0, kk)], by omega, by go_num, by rw [List.length_append, HLL.out]; rfl, good_snoc HG.out (good_of (by omega) (by omega) (by omega) (by omega)), ?_, B5.out⟩, by simp [intOf]; omega⟩
    rw [cells4_snoc, List.length_append]
    exact O5.out
   ·go_wp2_with (at_builtin; refine wpList_append_own _ rfl _ _ 53 rfl w.heap.size 89 i0 (.agg #[.int .i64 0, .int .i64 0, .int .i64 0, .int .i64 0]) 4 32 Tryz.underlying53 hi hz0 hz1 hz2 rfl (by decide) _ _ _ rfl (O3.out.alloc _) ⟨w3.heap.size, 0, none⟩ 1 1 [.int .i64 1, .int .i64 2, .int .i64 0, .int .i64 kk] rfl rfl ?c1 (four_cell _ _ _ _) ?c3 ?c4 ?c5 ?_)
    case c1 => exact four_new _ _ _ _ _ _
    case c3 => unfold maxLen; omega
    case c4 => omega
    case c5 => have := B3.out.size; simp; omega
    intro v' w5 hown' hgrow _
    have B5 := hid ((bal B3.out _).grown hgrow (by have := B3.out.size; simp; omega) (fun k hk => (O3.out.lt k hk).1))
    have O5 := hid hown'
    clear hown' hgrow
    go_wp2_with fail
    refine ⟨⟨k + 1, l ++ [(1, 2, 0, kk)], by omega, by go_num, by rw [List.length_append, HLL.out]; rfl, good_snoc HG.out (good_of (by omega) (by omega) (by omega) (by omega)), ?_, B5.out⟩, by simp [intOf]; omega⟩
    rw [cells4_snoc, List.length_append]
    exact O5.out
   ·go_wp2_with (at_builtin; refine wpList_append_own _ rfl _ _ 53 rfl w.heap.size 89 i0 (.agg #[.int .i64 0, .int .i64 0, .int .i64 0, .int .i64 0]) 4 32 Tryz.underlying53 hi hz0 hz1 hz2 rfl (by decide) _ _ _ rfl (O3.out.alloc _) ⟨w3.heap.size, 0, none⟩ 1 1 [.int .i64 1, .int .i64 2, .int .i64 0, .int .i64 kk] rfl rfl ?c1 (four_cell _ _ _ _) ?c3 ?c4 ?c5 ?_)
    case c1 => exact four_new _ _ _ _ _ _
    case c3 => unfold maxLen; omega
    case c4 => omega
    case c5 => have := B3.out.size; simp; omega
    intro v' w5 hown' hgrow _
    have B5 := hid ((bal B3.out _).grown hgrow (by have := B3.out.size; simp; omega) (fun k hk => (O3.out.lt k hk).1))
    have O5 := hid hown'
    clear hown' hgrow
    go_wp2_with fail
    refine ⟨⟨k + 1, l ++ [(1, 2, 0, kk)], by omega, by go_num, by rw [List.length_append, HLL.out]; rfl, good_snoc HG.out (good_of (by omega) (by omega) (by omega) (by omega)), ?_, B5.out⟩, by simp [intOf]; omega⟩
    rw [cells4_snoc, List.length_append]
    exact O5.out
   ·go_wp2_with fail
    refine (pick_eq _ _ _ (by omega) (by omega) (by decide)).mono ?_
    rintro e w' ⟨rfl, rfl⟩
    obtain ⟨hr0, hr1⟩ := pickV_bound kk 9 (by decide)
    generalize pickV kk 9 = r at *
    go_wp2_with (at_builtin; refine wpList_append_own _ rfl _ _ 53 rfl w.heap.size 89 i0 (.agg #[.int .i64 0, .int .i64 0, .int .i64 0, .int .i64 0]) 4 32 Tryz.underlying53 hi hz0 hz1 hz2 rfl (by decide) _ _ _ rfl (O3.out.alloc _) ⟨w3.heap.size, 0, none⟩ 1 1 [.int .i64 1, .int .i64 3, .int .i64 0, .int .i64 r] rfl rfl ?c1 (four_cell _ _ _ _) ?c3 ?c4 ?c5 ?_)
    case c1 => exact four_new _ _ _ _ _ _
    case c3 => unfold maxLen; omega
    case c4 => omega
    case c5 => have := B3.out.size; simp; omega
    intro v' w5 hown' hgrow _
    have B5 := hid ((bal B3.out _).grown hgrow (by have := B3.out.size; simp; omega) (fun k hk => (O3.out.lt k hk).1))
    have O5 := hid hown'
    clear hown' hgrow
    go_wp2_with fail
    refine ⟨⟨k + 1, l ++ [(1, 3, 0, r)], by omega, by go_num, by rw [List.length_append, HLL.out]; rfl, good_snoc HG.out (good_of (by omega) (by omega) (by omega) (by omega)), ?_, B5.out⟩, by simp [intOf]; omega⟩
    rw [cells4_snoc, List.length_append]
    exact O5.out
   ·go_wp2_with fail
    refine (pick_eq _ _ _ (by omega) (by omega) (by decide)).mono ?_
    rintro e w' ⟨rfl, rfl⟩
    obtain ⟨hr0, hr1⟩ := pickV_bound kk 4 (by decide)
    generalize pickV kk 4 = r at *
    go_wp2_with (at_builtin; refine wpList_append_own _ rfl _ _ 53 rfl w.heap.size 89 i0 (.agg #[.int .i64 0, .int .i64 0, .int .i64 0, .int .i64 0]) 4 32 Tryz.underlying53 hi hz0 hz1 hz2 rfl (by decide) _ _ _ rfl (O3.out.alloc _) ⟨w3.heap.size, 0, none⟩ 1 1 [.int .i64 1, .int .i64 4, .int .i64 0, .int .i64 r] rfl rfl ?c1 (four_cell _ _ _ _) ?c3 ?c4 ?c5 ?_)
    case c1 => exact four_new _ _ _ _ _ _
    case c3 => unfold maxLen; omega
    case c4 => omega
    case c5 => have := B3.out.size; simp; omega
    intro v' w5 hown' hgrow _
    have B5 := hid ((bal B3.out _).grown hgrow (by have := B3.out.size; simp; omega) (fun k hk => (O3.out.lt k hk).1))
    have O5 := hid hown'
    clear hown' hgrow
    go_wp2_with fail
    refine ⟨⟨k + 1, l ++ [(1, 4, 0, r)], by omega, by go_num, by rw [List.length_append, HLL.out]; rfl, good_snoc HG.out (good_of (by omega) (by omega) (by omega) (by omega)), ?_, B5.out⟩, by simp [intOf]; omega⟩
    rw [cells4_snoc, List.length_append]
    exact O5.out
   ·go_wp2_with fail
    refine (pick_eq _ _ _ (by omega) (by omega) (by decide)).mono ?_
    rintro e w' ⟨rfl, rfl⟩
    obtain ⟨hr0, hr1⟩ := pickV_bound kk 18 (by decide)
    generalize pickV kk 18 = r at *
    go_wp2_with (at_builtin; refine wpList_append_own _ rfl _ _ 53 rfl w.heap.size 89 i0 (.agg #[.int .i64 0, .int .i64 0, .int .i64 0, .int .i64 0]) 4 32 Tryz.underlying53 hi hz0 hz1 hz2 rfl (by decide) _ _ _ rfl (O3.out.alloc _) ⟨w3.heap.size, 0, none⟩ 1 1 [.int .i64 11, .int .i64 2, .int .i64 7, .int .i64 (32 + r)] rfl rfl ?c1 (four_cell _ _ _ _) ?c3 ?c4 ?c5 ?_)
    case c1 => exact four_new _ _ _ _ _ _
    case c3 => unfold maxLen; omega
    case c4 => omega
    case c5 => have := B3.out.size; simp; omega
    intro v' w5 hown' hgrow _
    have B5 := hid ((bal B3.out _).grown hgrow (by have := B3.out.size; simp; omega) (fun k hk => (O3.out.lt k hk).1))
    have O5 := hid hown'
    clear hown' hgrow
    go_wp2_with fail
    refine ⟨⟨k + 1, l ++ [(11, 2, 7, (32 + r))], by omega, by go_num, by rw [List.length_append, HLL.out]; rfl, good_snoc HG.out (good_of (by omega) (by omega) (by omega) (by omega)), ?_, B5.out⟩, by simp [intOf]; omega⟩
    rw [cells4_snoc, List.length_append]
    exact O5.out
   ·go_wp2_with fail
    refine (pick_eq _ _ _ (by omega) (by omega) (by decide)).mono ?_
    rintro e w' ⟨rfl, rfl⟩
    obtain ⟨hr0, hr1⟩ := pickV_bound kk 20 (by decide)
    generalize pickV kk 20 = r at *
    go_wp2_with (at_builtin; refine wpList_append_own _ rfl _ _ 53 rfl w.heap.size 89 i0 (.agg #[.int .i64 0, .int .i64 0, .int .i64 0, .int .i64 0]) 4 32 Tryz.underlying53 hi hz0 hz1 hz2 rfl (by decide) _ _ _ rfl (O3.out.alloc _) ⟨w3.heap.size, 0, none⟩ 1 1 [.int .i64 10, .int .i64 5, .int .i64 7, .int .i64 (30 + r)] rfl rfl ?c1 (four_cell _ _ _ _) ?c3 ?c4 ?c5 ?_)
    case c1 => exact four_new _ _ _ _ _ _
    case c3 => unfold maxLen; omega
    case c4 => omega
    case c5 => have := B3.out.size; simp; omega
    intro v' w5 hown' hgrow _
    have B5 := hid ((bal B3.out _).grown hgrow (by have := B3.out.size; simp; omega) (fun k hk => (O3.out.lt k hk).1))
    have O5 := hid hown'
    clear hown' hgrow
    go_wp2_with fail
    refine ⟨⟨k + 1, l ++ [(10, 5, 7, (30 + r))], by omega, by go_num, by rw [List.length_append, HLL.out]; rfl, good_snoc HG.out (good_of (by omega) (by omega) (by omega) (by omega)), ?_, B5.out⟩, by simp [intOf]; omega⟩
    rw [cells4_snoc, List.length_append]
    exact O5.out
   ·go_wp2_with fail
    refine (pick_eq _ _ _ (by omega) (by omega) (by decide)).mono ?_
    rintro e w' ⟨rfl, rfl⟩
    obtain ⟨hr0, hr1⟩ := pickV_bound kk 7 (by decide)
    generalize pickV kk 7 = r at *
    go_wp2_with (at_builtin; refine wpList_append_own _ rfl _ _ 53 rfl w.heap.size 89 i0 (.agg #[.int .i64 0, .int .i64 0, .int .i64 0, .int .i64 0]) 4 32 Tryz.underlying53 hi hz0 hz1 hz2 rfl (by decide) _ _ _ rfl (O3.out.alloc _) ⟨w3.heap.size, 0, none⟩ 1 1 [.int .i64 (3 + r), .int .i64 5, .int .i64 2, .int .i64 0] rfl rfl ?c1 (four_cell _ _ _ _) ?c3 ?c4 ?c5 ?_)
    case c1 => exact four_new _ _ _ _ _ _
    case c3 => unfold maxLen; omega
    case c4 => omega
    case c5 => have := B3.out.size; simp; omega
    intro v' w5 hown' hgrow _
    have B5 := hid ((bal B3.out _).grown hgrow (by have := B3.out.size; simp; omega) (fun k hk => (O3.out.lt k hk).1))
    have O5 := hid hown'
    clear hown' hgrow
    go_wp2_with fail
    refine ⟨⟨k + 1, l ++ [((3 + r), 5, 2, 0)], by omega, by go_num, by rw [List.length_append, HLL.out]; rfl, good_snoc HG.out (good_of (by omega) (by omega) (by omega) (by omega)), ?_, B5.out⟩, by simp [intOf]; omega⟩
    rw [cells4_snoc, List.length_append]
    exact O5.out
   ·go_wp2_with fail
    refine (pick_eq _ _ _ (by omega) (by omega) (by decide)).mono ?_
    rintro e w' ⟨rfl, rfl⟩
    obtain ⟨hr0, hr1⟩ := pickV_bound kk 15 (by decide)
    generalize pickV kk 15 = r at *
    go_wp2_with (at_builtin; refine wpList_append_own _ rfl _ _ 53 rfl w.heap.size 89 i0 (.agg #[.int .i64 0, .int .i64 0, .int .i64 0, .int .i64 0]) 4 32 Tryz.underlying53 hi hz0 hz1 hz2 rfl (by decide) _ _ _ rfl (O3.out.alloc _) ⟨w3.heap.size, 0, none⟩ 1 1 [.int .i64 13, .int .i64 0, .int .i64 0, .int .i64 (2 * r)] rfl rfl ?c1 (four_cell _ _ _ _) ?c3 ?c4 ?c5 ?_)
    case c1 => exact four_new _ _ _ _ _ _
    case c3 => unfold maxLen; omega
    case c4 => omega
    case c5 => have := B3.out.size; simp; omega
    intro v' w5 hown' hgrow _
    have B5 := hid ((bal B3.out _).grown hgrow (by have := B3.out.size; simp; omega) (fun k hk => (O3.out.lt k hk).1))
    have O5 := hid hown'
    clear hown' hgrow
    go_wp2_with fail
    refine ⟨⟨k + 1, l ++ [(13, 0, 0, (2 * r))], by omega, by go_num, by rw [List.length_append, HLL.out]; rfl, good_snoc HG.out (good_of (by omega) (by omega) (by omega) (by omega)), ?_, B5.out⟩, by simp [intOf]; omega⟩
    rw [cells4_snoc, List.length_append]
    exact O5.out
   ·go_wp2_with fail
    refine (pick_eq _ _ _ (by omega) (by omega) (by omega)).mono ?_
    rintro e w' ⟨rfl, rfl⟩
    obtain ⟨hr0, hr1⟩ := pickV_bound kk cl (by omega)
    generalize pickV kk cl = r at *
    go_wp2_with (at_builtin; refine wpList_append_own _ rfl _ _ 53 rfl w.heap.size 89 i0 (.agg #[.int .i64 0, .int .i64 0, .int .i64 0, .int .i64 0]) 4 32 Tryz.underlying53 hi hz0 hz1 hz2 rfl (by decide) _ _ _ rfl (O3.out.alloc _) ⟨w3.heap.size, 0, none⟩ 1 1 [.int .i64 14, .int .i64 0, .int .i64 0, .int .i64 r] rfl rfl ?c1 (four_cell _ _ _ _) ?c3 ?c4 ?c5 ?_)
    case c1 => exact four_new _ _ _ _ _ _
    case c3 => unfold maxLen; omega
    case c4 => omega
    case c5 => have := B3.out.size; simp; omega
    intro v' w5 hown' hgrow _
    have B5 := hid ((bal B3.out _).grown hgrow (by have := B3.out.size; simp; omega) (fun k hk => (O3.out.lt k hk).1))
    have O5 := hid hown'
    clear hown' hgrow
    go_wp2_with fail
    refine ⟨⟨k + 1, l ++ [(14, 0, 0, r)], by omega, by go_num, by rw [List.length_append, HLL.out]; rfl, good_snoc HG.out (good_of (by omega) (by omega) (by omega) (by omega)), ?_, B5.out⟩, by simp [intOf]; omega⟩
    rw [cells4_snoc, List.length_append]
    exact O5.out
   ·go_wp2_with fail
    refine (pick_eq _ _ _ (by omega) (by omega) (by omega)).mono ?_
    rintro e w' ⟨rfl, rfl⟩
    obtain ⟨hr0, hr1⟩ := pickV_bound kk cl (by omega)
    generalize pickV kk cl = r at *
    go_wp2_with (at_builtin; refine wpList_append_own _ rfl _ _ 53 rfl w.heap.size 89 i0 (.agg #[.int .i64 0, .int .i64 0, .int .i64 0, .int .i64 0]) 4 32 Tryz.underlying53 hi hz0 hz1 hz2 rfl (by decide) _ _ _ rfl (O3.out.alloc _) ⟨w3.heap.size, 0, none⟩ 1 1 [.int .i64 14, .int .i64 0, .int .i64 0, .int .i64 r] rfl rfl ?c1 (four_cell _ _ _ _) ?c3 ?c4 ?c5 ?_)
    case c1 => exact four_new _ _ _ _ _ _
    case c3 => unfold maxLen; omega
    case c4 => omega
    case c5 => have := B3.out.size; simp; omega
    intro v' w5 hown' hgrow _
    have B5 := hid ((bal B3.out _).grown hgrow (by have := B3.out.size; simp; omega) (fun k hk => (O3.out.lt k hk).1))
    have O5 := hid hown'
    clear hown' hgrow
    go_wp2_with fail
    refine ⟨⟨k + 1, l ++ [(14, 0, 0, r)], by omega, by go_num, by rw [List.length_append, HLL.out]; rfl, good_snoc HG.out (good_of (by omega) (by omega) (by omega) (by omega)), ?_, B5.out⟩, by simp [intOf]; omega⟩
    rw [cells4_snoc, List.length_append]
    exact O5.out
   ·go_wp2_with fail
    refine (pick_eq _ _ _ (by omega) (by omega) (by omega)).mono ?_
    rintro e w' ⟨rfl, rfl⟩
    obtain ⟨hr0, hr1⟩ := pickV_bound kk cl (by omega)
    generalize pickV kk cl = r at *
    go_wp2_with (at_builtin; refine wpList_append_own _ rfl _ _ 53 rfl w.heap.size 89 i0 (.agg #[.int .i64 0, .int .i64 0, .int .i64 0, .int .i64 0]) 4 32 Tryz.underlying53 hi hz0 hz1 hz2 rfl (by decide) _ _ _ rfl (O3.out.alloc _) ⟨w3.heap.size, 0, none⟩ 1 1 [.int .i64 14, .int .i64 0, .int .i64 0, .int .i64 r] rfl rfl ?c1 (four_cell _ _ _ _) ?c3 ?c4 ?c5 ?_)
    case c1 => exact four_new _ _ _ _ _ _
    case c3 => unfold maxLen; omega
    case c4 => omega
    case c5 => have := B3.out.size; simp; omega
    intro v' w5 hown' hgrow _
    have B5 := hid ((bal B3.out _).grown hgrow (by have := B3.out.size; simp; omega) (fun k hk => (O3.out.lt k hk).1))
    have O5 := hid hown'
    clear hown' hgrow
    go_wp2_with fail
    refine ⟨⟨k + 1, l ++ [(14, 0, 0, r)], by omega, by go_num, by rw [List.length_append, HLL.out]; rfl, good_snoc HG.out (good_of (by omega) (by omega) (by omega) (by omega)), ?_, B5.out⟩, by simp [intOf]; omega⟩
    rw [cells4_snoc, List.length_append]
    exact O5.out
   ·go_wp2_with fail
    refine (pick_eq _ _ _ (by omega) (by omega) (by omega)).mono ?_
    rintro e w' ⟨rfl, rfl⟩
    obtain ⟨hr0, hr1⟩ := pickV_bound kk cl (by omega)
    generalize pickV kk cl = r at *
    go_wp2_with (at_builtin; refine wpList_append_own _ rfl _ _ 53 rfl w.heap.size 89 i0 (.agg #[.int .i64 0, .int .i64 0, .int .i64 0, .int .i64 0]) 4 32 Tryz.underlying53 hi hz0 hz1 hz2 rfl (by decide) _ _ _ rfl (O3.out.alloc _) ⟨w3.heap.size, 0, none⟩ 1 1 [.int .i64 14, .int .i64 0, .int .i64 0, .int .i64 r] rfl rfl ?c1 (four_cell _ _ _ _) ?c3 ?c4 ?c5 ?_)
    case c1 => exact four_new _ _ _ _ _ _
    case c3 => unfold maxLen; omega
    case c4 => omega
    case c5 => have := B3.out.size; simp; omega
    intro v' w5 hown' hgrow _
    have B5 := hid ((bal B3.out _).grown hgrow (by have := B3.out.size; simp; omega) (fun k hk => (O3.out.lt k hk).1))
    have O5 := hid hown'
    clear hown' hgrow
    go_wp2_with fail
    refine ⟨⟨k + 1, l ++ [(14, 0, 0, r)], by omega, by go_num, by rw [List.length_append, HLL.out]; rfl, good_snoc HG.out (good_of (by omega) (by omega) (by omega) (by omega)), ?_, B5.out⟩, by simp [intOf]; omega⟩
    rw [cells4_snoc, List.length_append]
    exact O5.out
   ·go_wp2_with fail
    refine (pick_eq _ _ _ (by omega) (by omega) (by omega)).mono ?_
    rintro e w' ⟨rfl, rfl⟩
    obtain ⟨hr0, hr1⟩ := pickV_bound kk cl (by omega)
    generalize pickV kk cl = r at *
    go_wp2_with (at_builtin; refine wpList_append_own _ rfl _ _ 53 rfl w.heap.size 89 i0 (.agg #[.int .i64 0, .int .i64 0, .int .i64 0, .int .i64 0]) 4 32 Tryz.underlying53 hi hz0 hz1 hz2 rfl (by decide) _ _ _ rfl (O3.out.alloc _) ⟨w3.heap.size, 0, none⟩ 1 1 [.int .i64 14, .int .i64 0, .int .i64 0, .int .i64 r] rfl rfl ?c1 (four_cell _ _ _ _) ?c3 ?c4 ?c5 ?_)
    case c1 => exact four_new _ _ _ _ _ _
    case c3 => unfold maxLen; omega
    case c4 => omega
    case c5 => have := B3.out.size; simp; omega
    intro v' w5 hown' hgrow _
    have B5 := hid ((bal B3.out _).grown hgrow (by have := B3.out.size; simp; omega) (fun k hk => (O3.out.lt k hk).1))
    have O5 := hid hown'
    clear hown' hgrow
    go_wp2_with fail
    refine ⟨⟨k + 1, l ++ [(14, 0, 0, r)], by omega, by go_num, by rw [List.length_append, HLL.out]; rfl, good_snoc HG.out (good_of (by omega) (by omega) (by omega) (by omega)), ?_, B5.out⟩, by simp [intOf]; omega⟩
    rw [cells4_snoc, List.length_append]
    exact O5.out
  ·obtain rfl : k = 15 := by omega
   go_wp2_with (at_builtin; refine wpList_append_own _ rfl _ _ 53 rfl w.heap.size 89 i0 (.agg #[.int .i64 0, .int .i64 0, .int .i64 0, .int .i64 0]) 4 32 Tryz.underlying53 hi hz0 hz1 hz2 rfl (by decide) _ _ _ rfl (HO.out.alloc _) ⟨wr.heap.size, 0, none⟩ 1 1 [.int .i64 12, .int .i64 0, .int .i64 0, .int .i64 0] rfl rfl ?c1 (four_cell _ _ _ _) ?c3 ?c4 ?c5 ?_)
   case c1 => exact four_new _ _ _ _ _ _
   case c3 => unfold maxLen; omega
   case c4 => omega
   case c5 => have := HB.out.size; simp; omega
   intro v' w5 hown' hgrow _
   have B5 := hid ((bal HB.out _).grown hgrow (by have := HB.out.size; simp; omega) (fun k hk => (HO.out.lt k hk).1))
   have O5 : w5.ownsRow w.heap.size 89 4 v' (l ++ [(12, 0, 0, 0)]).length (cells4 (l ++ [(12, 0, 0, 0)])) := by
    rw [cells4_snoc, List.length_append]
    exact hown'
   obtain ⟨b, cap, hv1, hI, hbb⟩ := own_ins O5 (by simp)
   subst hv1
   have HI := hid hI
   clear hown' hgrow O5 hI
   go_wp2_with fail
   go_ret
   exact ⟨b, cap, l ++ [(12, 0, 0, 0)], rfl, by rw [List.length_append, HLL.out]; rfl, good_snoc HG.out (good_of (by omega) (by omega) (by omega) (by omega)), HI.out, hbb, B5.out⟩
end Go.Proofs.YtakmaeohhclngaaGreatDoor.Mad
