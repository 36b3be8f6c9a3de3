/- Words and their bits: what '&', '|' and '^' are at numbers below 65536, in plain numbers. · mmu.Entry, mmu.Walk and the document's answer on walking tables, walked. · What cores remember: entries in memory; what is looked for; slices.IndexFunc over them, walked. · mmu.Find, keyholdref.Found, keyholdref.Dropped, keyholdref.SameTlb, walked. · keyholdref.Found walked: the same findR. · keyholdref.Dropped walked: what is left of what is remembered. · keyholdref.SameTlb walked, where both are the same list. · Structs of many cells: loads and stores of them whole. -/
import Derived.WalkKit
import Derived.Laws.BitsLemmas
import Derived.Laws.StructEq
import Derived.Test.YtakmaeohhclngaaGreatDoorChecked
import Derived.Deep.MidRow
import Derived.Test.YtakmaeohhclngaaGreatDoorRaa
namespace Go.Proofs.YtakmaeohhclngaaGreatDoor.Bw
open Go.RowKit
theorem mask (n : Int) (i : Nat) (hi : i ≤ 62) : bits .and .i64 n ((2 ^ i - 1 : Nat) : Int) = n % ((2 ^ i : Nat) : Int) := by
 have hp : 2 ^ i ≤ 2 ^ 62 := Nat.pow_le_pow_right (by decide) hi
 have hq : 0 < 2 ^ i := Nat.two_pow_pos i
 have hm : (BitVec.ofInt 64 ((2 ^ i - 1 : Nat) : Int)).toNat = 2 ^ i - 1 := by
  rw [BitVec.ofInt_natCast, BitVec.toNat_ofNat]
  exact Nat.mod_eq_of_lt (by have : (2 : Nat) ^ 62 < 2 ^ 64 := (by decide); omega)
 have key : (BitVec.ofInt 64 n &&& BitVec.ofInt 64 ((2 ^ i - 1 : Nat) : Int)).toNat = (n % ((2 ^ 64 : Nat) : Int)).toNat % 2 ^ i := by
  rw [BitVec.toNat_and, BitVec.toNat_ofInt, hm, Nat.and_two_pow_sub_one_eq_mod]
 show IntKind.i64.wrap ((BitVec.ofInt 64 n &&& BitVec.ofInt 64 ((2 ^ i - 1 : Nat) : Int)).toNat : Nat) = n % ((2 ^ i : Nat) : Int)
 have hdvd : ((2 ^ i : Nat) : Int) ∣ ((2 ^ 64 : Nat) : Int) := by
  rw [Int.natCast_dvd_natCast]
  exact Nat.pow_dvd_pow 2 (by omega)
 have h3 : (((n % ((2 ^ 64 : Nat) : Int)).toNat % 2 ^ i : Nat) : Int) = n % ((2 ^ i : Nat) : Int) := by
  rw [Int.natCast_emod, Int.toNat_of_nonneg (Int.emod_nonneg _ (by decide)), Int.emod_emod_of_dvd _ hdvd]
 rw [key, IntKind.wrap_i64, h3]
 have h4 : 0 ≤ n % ((2 ^ i : Nat) : Int) := Int.emod_nonneg _ (by omega)
 have h5 : n % ((2 ^ i : Nat) : Int) < ((2 ^ i : Nat) : Int) := Int.emod_lt_of_pos _ (by omega)
 have h6 : ((2 ^ i : Nat) : Int) ≤ ((2 ^ 62 : Nat) : Int) := Int.ofNat_le.2 hp
 have h7 : ((2 ^ 62 : Nat) : Int) = 4611686018427387904 := by decide
 omega
theorem mask10 (n : Int) : bits .and .i64 n 1023 = n % 1024 := mask n 10 (by decide)
theorem wraps_i64 (n : Int) (h₀ : 0 ≤ n) (h₁ : n < 2 ^ 62) : IntKind.i64.wrap n = n := by
 rw [IntKind.wrap_i64]
 have : (2 : Int) ^ 62 = 4611686018427387904 := by decide
 omega
/-- The three, at numbers that are words. -/
def bw (o : Int) (a b : Nat) : Nat := if o = 6 then a &&& b else if o = 7 then a ||| b else a ^^^ b
theorem lt62 {a : Nat} (h : a < 65536) : a < 2 ^ 62 := Nat.lt_of_lt_of_le h (by decide)
theorem and_nat (a b : Nat) (ha : a < 65536) (hb : b < 65536) : bits .and .i64 (a : Int) (b : Int) = ((a &&& b : Nat) : Int) :=
 (bits_nat .i64 62 (by decide) wraps_i64 a b (lt62 ha) (lt62 hb)).1
theorem bw_lt (o : Int) (a b : Nat) (ha : a < 65536) (hb : b < 65536) : bw o a b < 65536 := by
 unfold bw
 split
 ·exact Nat.and_lt_two_pow (n := 16) a hb
 split
 ·exact Nat.or_lt_two_pow (n := 16) ha hb
 ·exact Nat.xor_lt_two_pow (n := 16) ha hb
/-- One bit more. -/
def bt (a k : Nat) : Nat := a / 2 ^ k % 2
theorem bt_le (a k : Nat) : bt a k ≤ 1 := by unfold bt; omega
theorem bt_test (a k : Nat) : a.testBit k = decide (bt a k = 1) := by rw [Nat.testBit_eq_decide_div_mod_eq]; rfl
def hit (o : Int) (a b k : Nat) : Bool := decide (o = 6 ∧ bt a k + bt b k = 2 ∨ o = 7 ∧ 0 < bt a k + bt b k ∨ o = 8 ∧ bt a k + bt b k = 1)
theorem bw_test (o : Int) (a b k : Nat) (ho : o = 6 ∨ o = 7 ∨ o = 8) : (bw o a b).testBit k = hit o a b k := by
 have h1 := bt_le a k
 have h2 := bt_le b k
 rcases ho with rfl | rfl | rfl
 ·have e : bw 6 a b = a &&& b := rfl
  rw [e, Nat.testBit_and, bt_test, bt_test]
  unfold hit
  rw [Bool.eq_iff_iff]; simp; omega
 ·have e : bw 7 a b = a ||| b := rfl
  rw [e, Nat.testBit_or, bt_test, bt_test]
  unfold hit
  rw [Bool.eq_iff_iff]; simp; omega
 ·have e : bw 8 a b = a ^^^ b := rfl
  rw [e, Nat.testBit_xor, bt_test, bt_test]
  unfold hit
  rw [Bool.eq_iff_iff]
  have h3 : bt a k = 0 ∨ bt a k = 1 := by omega
  have h4 : bt b k = 0 ∨ bt b k = 1 := by omega
  rcases h3 with h3 | h3 <;> rcases h4 with h4 | h4 <;> simp [h3, h4]
theorem bw_step (o : Int) (a b k : Nat) (ho : o = 6 ∨ o = 7 ∨ o = 8) : bw o a b % 2 ^ (k + 1) = bw o a b % 2 ^ k + if hit o a b k = true then 2 ^ k else 0 := by
 have h := bt_test (bw o a b) k
 rw [bw_test o a b k ho] at h
 have h1 := bt_le (bw o a b) k
 rw [Nat.mod_pow_succ, show bw o a b / 2 ^ k % 2 = bt (bw o a b) k from rfl]
 rw [h]
 have h3 : bt (bw o a b) k = 0 ∨ bt (bw o a b) k = 1 := by omega
 rcases h3 with h3 | h3 <;> simp [h3]
theorem and_pow (w : Nat) (i : Nat) : w &&& 2 ^ i = bt w i * 2 ^ i := by
 have := bt_le w i
 have ht := bt_test w i
 have h3 : bt w i = 0 ∨ bt w i = 1 := by omega
 apply Nat.eq_of_testBit_eq
 intro j
 rw [Nat.testBit_and, Nat.testBit_two_pow]
 by_cases hj : i = j
 ·subst hj
  rcases h3 with h3 | h3 <;> rw [ht] <;> simp [h3]
 ·rcases h3 with h3 | h3 <;> simp [h3, hj]
theorem bit15 (w : Nat) (h : w < 65536) : bits .and .i64 (w : Int) 32768 = ((w / 32768 % 2 * 32768 : Nat) : Int) := by
 rw [show (32768 : Int) = ((2 ^ 15 : Nat) : Int) from by decide, and_nat w _ h (by decide), and_pow]
 rfl
theorem bit14 (w : Nat) (h : w < 65536) : bits .and .i64 (w : Int) 16384 = ((w / 16384 % 2 * 16384 : Nat) : Int) := by
 rw [show (16384 : Int) = ((2 ^ 14 : Nat) : Int) from by decide, and_nat w _ h (by decide), and_pow]
 rfl
end Go.Proofs.YtakmaeohhclngaaGreatDoor.Bw
namespace Go.Proofs.YtakmaeohhclngaaGreatDoor.Mmu
open Go.RowKit Go.Proofs.YtakmaeohhclngaaGreatDoor.Mem Go.Proofs.YtakmaeohhclngaaGreatDoor.Bw Go.Proofs.YtakmaeohhclngaaGreatDoor.Nums
/-- A memory of words. -/
structure RamAt (w : World) (v : Value) (zs : List Int) : Prop where
 row : ∃ q b cap, v = .slice q zs.length cap ∧ (0 < zs.length → q = some ⟨b, 0, none⟩) ∧ IntsAt w b 0 zs
 word : ∀ z ∈ zs, 0 ≤ z ∧ z < 65536
 len : zs.length ≤ 600
theorem RamAt.below {w w' : World} {v : Value} {zs : List Int} (h : RamAt w v zs) (hb : Below w.heap.size w w') : RamAt w' v zs :=
 ⟨by obtain ⟨q, b, cap, h1, h2, h3⟩ := h.row; exact ⟨q, b, cap, h1, h2, h3.below hb⟩, h.word, h.len⟩
/-- Is the address one of a space of that memory? -/
abbrev inb (n s a : Int) : Prop := n % 16 = 0 ∧ n ≤ 384 ∧ 0 ≤ s ∧ s < n / 16 ∧ 0 ≤ a ∧ a < 4096
/-- Which frame an entry tells, if it is one. -/
abbrev isE (x n : Int) : Prop := x / 32768 % 2 = 1 ∧ x % 1024 < n
theorem and15 (x : Int) (x0 : 0 ≤ x) (x1 : x < 65536) : bits .and .i64 x 32768 = x / 32768 % 2 * 32768 := by
 obtain ⟨y, rfl⟩ := Int.eq_ofNat_of_zero_le x0
 rw [bit15 y (by omega)]
 omega
theorem and14 (x : Int) (x0 : 0 ≤ x) (x1 : x < 65536) : bits .and .i64 x 16384 = x / 16384 % 2 * 16384 := by
 obtain ⟨y, rfl⟩ := Int.eq_ofNat_of_zero_le x0
 rw [bit14 y (by omega)]
 omega
theorem leads_yes (x : Int) (w : World) (g1 : (bits .and .i64 x 32768 == 0) = false) :
  Calls Tryz.prog 150 #[.int .i64 x] w fun e w' => e = .returned (.tuple #[.int .i64 (x % 1024), .bool (bits .and .i64 x 16384 != 0), .bool true]) ∧ w = w' := by
 have e10 := mask10 x
 go_enter Tryz.func150, Tryz.ntmps150
 go_wp2_with fail
 go_ret3
 exact ⟨rfl, rfl⟩
theorem leads_no (x : Int) (w : World) (g1 : (bits .and .i64 x 32768 == 0) = true) :
  Calls Tryz.prog 150 #[.int .i64 x] w fun e w' => e = .returned (.tuple #[.int .i64 0, .bool false, .bool false]) ∧ w = w' := by
 go_enter Tryz.func150, Tryz.ntmps150
 go_wp2_with fail
 go_ret3
 exact ⟨rfl, rfl⟩
end Go.Proofs.YtakmaeohhclngaaGreatDoor.Mmu
namespace Go.Proofs.YtakmaeohhclngaaGreatDoor.Mmu
open Go.RowKit Go.Proofs.YtakmaeohhclngaaGreatDoor.Mem Go.Proofs.YtakmaeohhclngaaGreatDoor.Bw Go.Proofs.YtakmaeohhclngaaGreatDoor.Nums
abbrev Ent := Int × Int × Int × Bool
/-- Entries in memory, four cells each. -/
def EntsAt (w : World) (b off : Nat) (l : List Ent) : Prop :=
 ∀ j (h : j < l.length), w.cell? ⟨b, off + j * 4, none⟩ = some (.int .i64 l[j].1) ∧ w.cell? ⟨b, off + j * 4 + 1, none⟩ = some (.int .i64 l[j].2.1) ∧ w.cell? ⟨b, off + j * 4 + 2, none⟩ = some (.int .i64 l[j].2.2.1) ∧ w.cell? ⟨b, off + j * 4 + 3, none⟩ = some (.bool l[j].2.2.2)
theorem EntsAt.below {w w' : World} {b off : Nat} {l : List Ent} (h : EntsAt w b off l) (hb : Below w.heap.size w w') : EntsAt w' b off l := fun j hj =>
 ⟨(hb.cell (World.block_lt_of_cell? _ _ (h j hj).1)).trans (h j hj).1, (hb.cell (World.block_lt_of_cell? _ _ (h j hj).2.1)).trans (h j hj).2.1, (hb.cell (World.block_lt_of_cell? _ _ (h j hj).2.2.1)).trans (h j hj).2.2.1, (hb.cell (World.block_lt_of_cell? _ _ (h j hj).2.2.2)).trans (h j hj).2.2.2⟩
/-- A list of entries as a slice. -/
def TlbIn (w : World) (v : Value) (l : List Ent) : Prop := ∃ q b off cap, v = .slice q l.length cap ∧ (0 < l.length → q = some ⟨b, off, none⟩) ∧ EntsAt w b off l ∧ l.length ≤ 100
theorem TlbIn.below {w w' : World} {v : Value} {l : List Ent} (h : TlbIn w v l) (hb : Below w.heap.size w w') : TlbIn w' v l := by
 obtain ⟨q, b, off, cap, h1, h2, h3, h4⟩ := h
 exact ⟨q, b, off, cap, h1, h2, h3.below hb, h4⟩
def pg (s p : Int) (e : Ent) : Bool := e.1 == s && e.2.1 == p
/-- What a closure has captured. -/
def PgAt (w : World) (h : Nat) (s p : Int) : Prop := w.cell? ⟨h, 0, none⟩ = some (.int .i64 s) ∧ w.cell? ⟨h + 1, 0, none⟩ = some (.int .i64 p)
theorem PgAt.below {w w' : World} {h : Nat} {s p : Int} (k : PgAt w h s p) (hb : Below w.heap.size w w') : PgAt w' h s p :=
 ⟨(hb.cell (World.block_lt_of_cell? _ _ k.1)).trans k.1, (hb.cell (World.block_lt_of_cell? _ _ k.2)).trans k.2⟩
theorem ofPage_any (s p : Int) (w : World) :
  Calls Tryz.prog 142 #[.int .i64 s, .int .i64 p] w fun e w' => e = .returned (.func (.func 147) #[] #[.pointer (some ⟨w.heap.size, 0, none⟩), .pointer (some ⟨w.heap.size + 1, 0, none⟩)]) ∧ PgAt w' w.heap.size s p ∧ Below w.heap.size w w' := by
 have hmf : ∀ (fn : Fn) (first cap : Array Value) (w : World), (Instr.makeFunc fn first cap).run Tryz.prog w = .ok (.func fn first cap) w := fun _ _ _ _ => rfl
 go_enter Tryz.func142, Tryz.ntmps142
 go_wp2_with fail
 go_ret
 exact ⟨rfl, ⟨cells_alloc (cells_new w #[.int .i64 s] 3) (by simp) _ 0, cells_at (w.alloc (.cells #[.int .i64 s] 3)) #[.int .i64 p] 3 (w.heap.size + 1) (by simp) 0⟩, bal (bal (Below.refl _ _) _) _⟩
theorem isPage (e : Ent) (h : Nat) (s p : Int) (w : World) (hc : PgAt w h s p) :
  Calls Tryz.prog 147 #[.agg #[.int .i64 e.1, .int .i64 e.2.1, .int .i64 e.2.2.1, .bool e.2.2.2], .pointer (some ⟨h, 0, none⟩), .pointer (some ⟨h + 1, 0, none⟩)] w fun r w' => r = .returned (.bool (pg s p e)) ∧ Below w.heap.size w w' := by
 obtain ⟨x, y, z, u⟩ := e
 have k := hc.below (bal (Below.refl _ _) (.cells #[.int .i64 x, .int .i64 y, .int .i64 z, .bool u] 143))
 obtain ⟨k0, k1⟩ := k
 have HP := hid (show pg s p (x, y, z, u) = (x == s && y == p) from rfl)
 cases hx : (x == s) with
 | true =>
  go_enter Tryz.func147, Tryz.ntmps147
  go_wp2_with fail
  go_ret
  exact ⟨by rw [HP.out, hx]; rfl, bal (Below.refl _ _) _⟩
 | false =>
  go_enter Tryz.func147, Tryz.ntmps147
  go_wp2_with fail
  go_ret
  exact ⟨by rw [HP.out, hx]; rfl, bal (Below.refl _ _) _⟩
/-- The first one's number; -1: there is none. -/
def ixV (p : Ent → Bool) (l : List Ent) : Int := if l.findIdx p < l.length then (l.findIdx p : Int) else -1
set_option maxHeartbeats 2000000 in
theorem index_page (v : Value) (l : List Ent) (h : Nat) (s p : Int) (w : World) (hv : TlbIn w v l) (hc : PgAt w h s p) :
  Calls Tryz.prog 141 #[v, .func (.func 147) #[] #[.pointer (some ⟨h, 0, none⟩), .pointer (some ⟨h + 1, 0, none⟩)]] w fun r w' => r = .returned (.int .i64 (ixV (pg s p) l)) ∧ Below w.heap.size w w' := by
 obtain ⟨q, b, off, cap, rfl, hq, hz, hl⟩ := hv
 have HQ := hid hq
 have HZ := hid hz
 have HC := hid hc
 clear hq hz hc
 have hl2 : (l.length : Int) ≤ 100 := by omega
 go_enter Tryz.func141, Tryz.ntmps141
 go_wp2_with fail
 go_loopw [8] (fun i wr => ∃ k : Nat, k ≤ l.length ∧ i = .int .i64 k ∧ Hid ((∀ j (hj : j < l.length), j < k → pg s p l[j] = false) ∧ Below w.heap.size w wr)) (fun i _ => l.length - (intOf i).toNat)
 case atStart => exact ⟨0, by omega, rfl, fun j _ h => by omega, Below.refl _ _⟩
 case round =>
  obtain ⟨k, hk, rfl, hE⟩ := hrel
  by_cases hlt : k < l.length
  ·have hlt2 : (k : Int) < (l.length : Int) := by omega
   have hqe := HQ.out (by omega)
   subst hqe
   obtain ⟨c0, c1, c2, c3⟩ := (HZ.out.below hE.out.2) k hlt
   have HP := hid (fun W (hb : Below w.heap.size w W) => isPage l[k] h s p W (HC.out.below hb))
   have HI := hid (show pg s p l[k] = true → ixV (pg s p) l = k from fun ht => by
    have : l.findIdx (pg s p) = k := (List.findIdx_eq hlt).2 ⟨ht, fun j hj => hE.out.1 j (by omega) hj⟩
    unfold ixV
    rw [this, if_pos hlt])
   have HS := hid (show pg s p l[k] = false → ∀ j (hj : j < l.length), j < k + 1 → pg s p l[j] = false from fun hf j hj hjk => by
    by_cases e : j = k
    ·subst e; exact hf
    ·exact hE.out.1 j hj (by omega))
   generalize l[k] = e at c0 c1 c2 c3 HP HI HS
   go_wp2_with fail
   refine (HP.out _ hE.out.2).mono ?_
   rintro r w1 ⟨rfl, hb⟩
   have B1 := hid (btr hE.out.2 hb)
   clear hb
   cases hpe : pg s p e with
   | true =>
    have HV := hid (HI.out hpe)
    go_wp2_with fail
    go_ret
    exact ⟨by rw [HV.out]; rfl, B1.out⟩
   | false =>
    have HN := hid (HS.out hpe)
    go_wp2_with fail
    exact ⟨⟨k + 1, by omega, by go_num, HN.out, B1.out⟩, by simp [intOf]; omega⟩
  ·obtain rfl : k = l.length := by omega
   have hge : ¬ ((l.length : Int) < (l.length : Int)) := by omega
   have HV := hid (show ixV (pg s p) l = -1 by
    unfold ixV
    rw [if_neg]
    intro hlt2
    have := List.findIdx_getElem (w := hlt2)
    rw [hE.out.1 _ hlt2 hlt2] at this
    cases this)
   go_wp2_with fail
   go_ret
   exact ⟨by rw [HV.out]; rfl, hE.out.2⟩
/-- D2: what is remembered of a page. -/
def findR (l : List Ent) (s p : Int) : Ent × Bool := if h : l.findIdx (pg s p) < l.length then (l[l.findIdx (pg s p)], true) else ((0, 0, 0, false), false)
def foundV (r : Ent × Bool) : Value := .tuple #[.agg #[.int .i64 r.1.1, .int .i64 r.1.2.1, .int .i64 r.1.2.2.1, .bool r.1.2.2.2], .bool r.2]
theorem find_yes {l : List Ent} {s p : Int} {k : Nat} (hk : k < l.length) (h : l.findIdx (pg s p) = k) : findR l s p = (l[k], true) := by
 subst h
 unfold findR
 rw [dif_pos hk]
theorem find_no {l : List Ent} {s p : Int} (h : ¬ l.findIdx (pg s p) < l.length) : findR l s p = ((0, 0, 0, false), false) := by
 unfold findR
 rw [dif_neg h]
theorem there_four (w : World) : ∀ k, k < 4 → (w.alloc (.cells #[.int .i64 0, .int .i64 0, .int .i64 0, .bool false] 143)).frozen? ⟨w.heap.size, k, none⟩ = false := fun k _ => by simp
set_option maxHeartbeats 1000000 in
theorem find_any (v : Value) (l : List Ent) (s p : Int) (w : World) (hv : TlbIn w v l) :
  Calls Tryz.prog 127 #[v, .int .i64 s, .int .i64 p] w fun r w' => r = .returned (foundV (findR l s p)) ∧ Below w.heap.size w w' := by
 have HV := hid hv
 obtain ⟨q, b, off, cap, rfl, hq, hz, hl⟩ := hv
 have HQ := hid hq
 have HZ := hid hz
 clear hq hz
 have B0 := hid (bal (Below.refl w.heap.size w) (.cells #[.int .i64 0, .int .i64 0, .int .i64 0, .bool false] 143))
 have X0 := hid (cells_new w #[.int .i64 0, .int .i64 0, .int .i64 0, .bool false] 143)
 have s0 : (w.alloc (.cells #[.int .i64 0, .int .i64 0, .int .i64 0, .bool false] 143)).heap.size = w.heap.size + 1 := by simp
 have Z0 := hid (there_four w)
 go_enter Tryz.func127, Tryz.ntmps127
 go_wp2_with fail
 refine (ofPage_any s p _).mono ?_
 generalize World.alloc _ _ = W at B0 X0 s0 Z0 ⊢
 rintro r w1 ⟨rfl, hpg, hb1⟩
 have P1 := hid hpg
 have B1 := hid (btr B0.out hb1)
 have X1 := hid (cells_next X0.out (by omega) hb1)
 have Z1 := hid (fun k (hk : k < 4) => (hb1.frozen (p := ⟨w.heap.size, k, none⟩) (by simp; omega)).trans (Z0.out k hk))
 clear hpg hb1 X0 Z0 s0
 go_wp2_with fail
 refine (index_page _ l W.heap.size s p w1 (HV.out.below B1.out) P1.out).mono ?_
 rintro r w2 ⟨rfl, hb2⟩
 have B2 := hid (btr B1.out hb2)
 have s1 : w.heap.size < w1.heap.size := World.block_lt_of_cell? w1 ⟨w.heap.size, 0, none⟩ (X1.out 0)
 have X2 := cells_next X1.out s1 hb2
 have Z2 := hid (fun k (hk : k < 4) => (hb2.frozen (p := ⟨w.heap.size, k, none⟩) s1).trans (Z1.out k hk))
 have z0 := Z2.out 0 (by decide)
 have z1 := Z2.out 1 (by decide)
 have z2 := Z2.out 2 (by decide)
 have z3 := Z2.out 3 (by decide)
 clear hb2 X1 Z1 Z2 P1 B1
 by_cases hlt : l.findIdx (pg s p) < l.length
 ·have hqe := HQ.out (by omega)
  subst hqe
  have HI := hid (show ixV (pg s p) l = (l.findIdx (pg s p) : Int) by unfold ixV; rw [if_pos hlt])
  have HF := hid (find_yes hlt rfl)
  obtain ⟨c0, c1, c2, c3⟩ := (HZ.out.below B2.out) _ hlt
  rw [HI.out]
  generalize l[l.findIdx (pg s p)] = e at HF c0 c1 c2 c3
  generalize l.findIdx (pg s p) = k at *
  have hk2 : (k : Int) < (l.length : Int) := by omega
  have hk3 : ¬ ((k : Int) < 0) := by omega
  obtain ⟨x, y, z, u⟩ := e
  simp only at c0 c1 c2 c3
  go_wp2_with fail
  have four := four_set (v0 := .int .i64 x) (v1 := .int .i64 y) (v2 := .int .i64 z) (v3 := .bool u) X2
  refine bodyPost_ret (v := foundV ((x, y, z, u), true)) (by simp [foundV, results, Tryz.results127, go_sem, four]) rfl ⟨by rw [HF.out], ?_⟩
  exact bset (bset (bset (bset B2.out (Nat.le_refl _) _) (Nat.le_refl _) _) (Nat.le_refl _) _) (Nat.le_refl _) _
 ·have HI := hid (show ixV (pg s p) l = -1 by unfold ixV; rw [if_neg hlt])
  have HF := hid (find_no hlt)
  rw [HI.out]
  clear hlt
  go_wp2_with fail
  have four := four_set (v0 := .int .i64 0) (v1 := .int .i64 0) (v2 := .int .i64 0) (v3 := .bool false) X2
  refine bodyPost_ret (v := foundV ((0, 0, 0, false), false)) (by simp [foundV, results, Tryz.results127, go_sem, four]) rfl ⟨by rw [HF.out], ?_⟩
  exact bset (bset (bset (bset B2.out (Nat.le_refl _) _) (Nat.le_refl _) _) (Nat.le_refl _) _) (Nat.le_refl _) _
theorem infoEnt : (Tryz.prog.info? 143).map (fun i => (i.zero, i.size, i.bytes)) = some (some (.agg #[.int .i64 0, .int .i64 0, .int .i64 0, .bool false]), 4, 32) := by kernel_rfl
def cellsE (l : List Ent) : List Value := l.flatMap fun q => [.int .i64 q.1, .int .i64 q.2.1, .int .i64 q.2.2.1, .bool q.2.2.2]
theorem cellsE_cons (q : Ent) (l : List Ent) : cellsE (q :: l) = .int .i64 q.1 :: .int .i64 q.2.1 :: .int .i64 q.2.2.1 :: .bool q.2.2.2 :: cellsE l := rfl
theorem cellsE_len (l : List Ent) : (cellsE l).length = l.length * 4 := by
 induction l with
 | nil => rfl
 | cons q l ih =>
  rw [cellsE_cons]
  simp only [List.length_cons, ih]
  omega
theorem cellsE_at (l : List Ent) (j : Nat) (h : j < l.length) : (cellsE l)[j * 4]? = some (.int .i64 l[j].1) ∧ (cellsE l)[j * 4 + 1]? = some (.int .i64 l[j].2.1) ∧ (cellsE l)[j * 4 + 2]? = some (.int .i64 l[j].2.2.1) ∧ (cellsE l)[j * 4 + 3]? = some (.bool l[j].2.2.2) := by
 induction l generalizing j with
 | nil => simp at h
 | cons q l ih =>
  rw [cellsE_cons]
  cases j with
  | zero => exact ⟨rfl, rfl, rfl, rfl⟩
  | succ j =>
   have := ih j (by simpa using h)
   have e2 : (j + 1) * 4 = j * 4 + 4 := by omega
   rw [e2]
   exact this
theorem fourE_cell (a b c : Int) (d : Bool) : ∀ x ∈ [Value.int .i64 a, .int .i64 b, .int .i64 c, .bool d], x.oneCell' = true := by
 intro x hx
 simp at hx
 rcases hx with rfl | rfl | rfl | rfl <;> rfl
end Go.Proofs.YtakmaeohhclngaaGreatDoor.Mmu
namespace Go.Proofs.YtakmaeohhclngaaGreatDoor.Mem
open Go.RowKit
theorem there_new (w : World) (arr : Array Value) (t : TypeId) (n k : Nat) (hn : n = w.heap.size) (hk : k ≤ arr.size) : (w.alloc (.cells arr t)).there n 0 k := fun j hj => by
 constructor
 ·rw [World.cell?_alloc_at _ _ _ _ hn]
  simp
  omega
 ·subst hn
  simp
theorem range_below {w w' : World} {b : Nat} {cs : List Value} (h : w.rangeAt b 0 cs) (hb : Below w.heap.size w w') : w'.rangeAt b 0 cs := fun j v hv => by
 have := h j v hv
 exact (hb.cell (World.block_lt_of_cell? _ _ this)).trans this
theorem range_kp {T : Nat → Prop} {w w' : World} {b : Nat} {cs : List Value} (h : w.rangeAt b 0 cs) (hb : Kp T w w') (hn : ¬ T b) : w'.rangeAt b 0 cs := fun j v hv => by
 have := h j v hv
 exact (hb.cell (World.block_lt_of_cell? _ _ this) hn).trans this
theorem there_kp {T : Nat → Prop} {w w' : World} {b n : Nat} (h : w.there b 0 n) (hb : Kp T w w') (hn : ¬ T b) : w'.there b 0 n := fun j hj => by
 obtain ⟨h1, h2⟩ := h j hj
 obtain ⟨u, hu⟩ := Option.isSome_iff_exists.1 h1
 have hl := World.block_lt_of_cell? _ _ hu
 exact ⟨by rw [hb.cell hl hn]; exact h1, by rw [hb.frozen hl hn]; exact h2⟩
theorem range_set {w : World} {b k : Nat} {cs : List Value} (h : w.rangeAt b 0 cs) (hk : k < cs.length) (v : Value) : (w.setCell ⟨b, k, none⟩ v).rangeAt b 0 (cs.set k v) := fun j u hu => by
 rw [Nat.zero_add]
 by_cases e : k = j
 ·subst e
  have := h k _ (List.getElem?_eq_getElem hk)
  rw [Nat.zero_add] at this
  rw [World.cell?_setCell_same w _ _ this]
  rw [List.getElem?_set_self hk] at hu
  exact hu
 ·rw [World.cell?_setCell_other w _ _ _ (by intro h; cases h; omega)]
  rw [List.getElem?_set_ne e] at hu
  have := h j u hu
  rw [Nat.zero_add] at this
  exact this
theorem range_far {w : World} {b B k : Nat} {cs : List Value} (h : w.rangeAt b 0 cs) (hne : B ≠ b) (v : Value) : (w.setCell ⟨B, k, none⟩ v).rangeAt b 0 cs := fun j u hu => by
 rw [World.cell?_setCell_other w _ _ _ (by intro h; cases h; omega)]
 exact h j u hu
theorem there_set {w : World} {b n : Nat} (h : w.there b 0 n) (a : Addr) (v : Value) : (w.setCell a v).there b 0 n := fun j hj => by
 obtain ⟨h1, h2⟩ := h j hj
 obtain ⟨u, hu⟩ := Option.isSome_iff_exists.1 h1
 refine ⟨?_, by rw [World.frozen?_setCell]; exact h2⟩
 by_cases e : a = ⟨b, 0 + j, none⟩
 ·subst e; rw [World.cell?_setCell_same _ _ _ hu]; rfl
 ·rw [World.cell?_setCell_other _ _ _ _ e, hu]; rfl
theorem range_cell {w : World} {b k : Nat} {cs : List Value} {v : Value} (h : w.rangeAt b 0 cs) (hk : cs[k]? = some v) : w.cell? ⟨b, k, none⟩ = some v := by
 have := h k v hk
 rwa [Nat.zero_add] at this
theorem Kp.setCells {T : Nat → Prop} {w : World} {b : Nat} (hb : T b ∨ w.heap.size ≤ b) : ∀ (vs : List Value) (o : Nat) (w' : World), Kp T w w' → Kp T w (w'.setCells b o vs)
 | [], _, _, h => h
 | v :: r, o, w', h => by
  rw [World.setCells]
  exact Kp.setCells hb r (o + 1) _ (h.setCell hb v)
theorem setCells_size (b : Nat) : ∀ (vs : List Value) (o : Nat) (w : World), (w.setCells b o vs).heap.size = w.heap.size
 | [], _, _ => rfl
 | v :: r, o, w => by
  rw [World.setCells, setCells_size b r (o + 1) _]
  simp [World.setCell]
theorem cell_setCells {w : World} {b C o : Nat} (hne : C ≠ b) (vs : List Value) (o' : Nat) : (w.setCells b o' vs).cell? ⟨C, o, none⟩ = w.cell? ⟨C, o, none⟩ := by
 rw [World.cell?_setCells_out b vs o' w ⟨C, o, none⟩ (fun hb _ => absurd hb hne)]
theorem info20 : (Tryz.prog.info? 41).map (·.size) = some 20 := by kernel_rfl
theorem wp_st {ops : Array Oper} {rest : List Oper} {op : Oper} {a : Act} {w : World} {Q : Exit → Act → World → Prop} (hgd : op.guard = none) (x y : Operand) (ho : op.op = .store 41 x y)
  (b : Nat) (hx : a.eval x = .pointer (some ⟨b, 0, none⟩)) (cs : List Value) (hy : a.eval y = .agg cs.toArray) (hl : cs.length = 20) (h1 : ∀ v ∈ cs, v.oneCell' = true) (ht : w.there b 0 20)
  (h : wpList Tryz.prog ops Q rest (a.put op.dst undef) (w.setCells b 0 cs)) : wpList Tryz.prog ops Q (op :: rest) a w :=
 wpList_store_mid hgd 41 x y ho b 0 cs.toArray hx hy (by simpa [hl] using ht) (by rw [info20]; simp [hl]) (all_oneCell_toArray h1) (by simpa using h)
theorem run_ld (w : World) (b : Nat) (cs : List Value) (hc : w.rangeAt b 0 cs) (hl : cs.length = 20) : (loadVar 41 ⟨b, 0, none⟩).run Tryz.prog w = .ok (.agg cs.toArray) w :=
 run_loadVar_mid w b 0 41 cs _ hc Tryz.underlying41 rfl (by rw [info20, hl])
theorem results_c3 {fn : Func} {p u v : Tmp} {ty : TypeId} (h : fn.results = #[.cell p ty, .tmp u, .tmp v]) {tmps : Array Value} {P : Program} {w : World} {b : Nat} {x y z : Value} (hp : tmps.getD p undef = .pointer (some ⟨b, 0, none⟩)) (hl : (loadVar ty ⟨b, 0, none⟩).run P w = .ok x w) (hu : tmps.getD u undef = y) (hv : tmps.getD v undef = z) :
  (results fn tmps).run P w = .ok (.tuple #[x, y, z]) w := by
 simp only [results, h]
 simp [Sem.run_bind, Result.andThen, asAddr]
 have hp' := hp
 have hu' := hu
 have hv' := hv
 simp at hp' hu' hv'
 rw [hp', hu', hv']
 simp [hl]
theorem results_c1 {fn : Func} {p : Tmp} {ty : TypeId} (h : fn.results = #[.cell p ty]) {tmps : Array Value} {P : Program} {w : World} {b : Nat} {x : Value} (hp : tmps.getD p undef = .pointer (some ⟨b, 0, none⟩)) (hl : (loadVar ty ⟨b, 0, none⟩).run P w = .ok x w) :
  (results fn tmps).run P w = .ok x w := by
 simp only [results, h]
 simp [Sem.run_bind, Result.andThen, asAddr]
 have hp' := hp
 simp at hp'
 rw [hp']
 simp [hl]
end Go.Proofs.YtakmaeohhclngaaGreatDoor.Mem
