/- What cores remember: entries in memory; what is looked for; slices.IndexFunc over them, walked. -/
import Derived.Test.YtfpkbfhaipgibaaDoorMmuWalk
namespace Go.Proofs.YtfpkbfhaipgibaaDoor.Mmu
open Go.RowKit Go.Proofs.YtfpkbfhaipgibaaDoor.Mem Go.Proofs.YtfpkbfhaipgibaaDoor.Bw Go.Proofs.YtfpkbfhaipgibaaDoor.Nums

abbrev Ent := Int × Int × Int × Bool
/-- Entries in memory, four cells each. -/
def EntsAt (w : World) (b off : Nat) (l : List Ent) : Prop :=
  ∀ j (h : j < l.length), w.cell? ⟨b, off + j * 4, none⟩ = some (.int .i64 l[j].1) ∧ w.cell? ⟨b, off + j * 4 + 1, none⟩ = some (.int .i64 l[j].2.1) ∧ w.cell? ⟨b, off + j * 4 + 2, none⟩ = some (.int .i64 l[j].2.2.1) ∧ w.cell? ⟨b, off + j * 4 + 3, none⟩ = some (.bool l[j].2.2.2)
theorem EntsAt.below {w w' : World} {b off : Nat} {l : List Ent} (h : EntsAt w b off l) (hb : Below w.heap.size w w') : EntsAt w' b off l := fun j hj =>
  ⟨(hb.cell (World.block_lt_of_cell? _ _ (h j hj).1)).trans (h j hj).1, (hb.cell (World.block_lt_of_cell? _ _ (h j hj).2.1)).trans (h j hj).2.1, (hb.cell (World.block_lt_of_cell? _ _ (h j hj).2.2.1)).trans (h j hj).2.2.1, (hb.cell (World.block_lt_of_cell? _ _ (h j hj).2.2.2)).trans (h j hj).2.2.2⟩
/-- A list of entries as a slice. -/
def TlbIn (w : World) (v : Value) (l : List Ent) : Prop := ∃ q b off cap, v = .slice q l.length cap ∧ (0 < l.length → q = some ⟨b, off, none⟩) ∧ EntsAt w b off l ∧ l.length ≤ 100
theorem TlbIn.below {w w' : World} {v : Value} {l : List Ent} (h : TlbIn w v l) (hb : Below w.heap.size w w') : TlbIn w' v l := by
  obtain ⟨q, b, off, cap, h1, h2, h3, h4⟩ := h
  exact ⟨q, b, off, cap, h1, h2, h3.below hb, h4⟩
def pg (s p : Int) (e : Ent) : Bool := e.1 == s && e.2.1 == p
def sp (s : Int) (e : Ent) : Bool := e.1 == s
/-- What a closure has captured. -/
def PgAt (w : World) (h : Nat) (s p : Int) : Prop := w.cell? ⟨h, 0, none⟩ = some (.int .i64 s) ∧ w.cell? ⟨h + 1, 0, none⟩ = some (.int .i64 p)
theorem PgAt.below {w w' : World} {h : Nat} {s p : Int} (k : PgAt w h s p) (hb : Below w.heap.size w w') : PgAt w' h s p :=
  ⟨(hb.cell (World.block_lt_of_cell? _ _ k.1)).trans k.1, (hb.cell (World.block_lt_of_cell? _ _ k.2)).trans k.2⟩
theorem ofPage_any (s p : Int) (w : World) :
    Calls Tryd.prog 51 #[.int .i64 s, .int .i64 p] w fun e w' => e = .returned (.func (.func 85) #[] #[.pointer (some ⟨w.heap.size, 0, none⟩), .pointer (some ⟨w.heap.size + 1, 0, none⟩)]) ∧ PgAt w' w.heap.size s p ∧ Below w.heap.size w w' := by
  have hmf : ∀ (fn : Fn) (first cap : Array Value) (w : World), (Instr.makeFunc fn first cap).run Tryd.prog w = .ok (.func fn first cap) w := fun _ _ _ _ => rfl
  go_enter Tryd.func51, Tryd.ntmps51
  go_wp2_with fail
  go_ret
  exact ⟨rfl, ⟨cells_alloc (cells_new w #[.int .i64 s] 3) (by simp) _ 0, cells_at (w.alloc (.cells #[.int .i64 s] 3)) #[.int .i64 p] 3 (w.heap.size + 1) (by simp) 0⟩, bal (bal (Below.refl _ _) _) _⟩
theorem ofSpace_any (s : Int) (w : World) :
    Calls Tryd.prog 52 #[.int .i64 s] w fun e w' => e = .returned (.func (.func 86) #[] #[.pointer (some ⟨w.heap.size, 0, none⟩)]) ∧ w'.cell? ⟨w.heap.size, 0, none⟩ = some (.int .i64 s) ∧ Below w.heap.size w w' := by
  have hmf : ∀ (fn : Fn) (first cap : Array Value) (w : World), (Instr.makeFunc fn first cap).run Tryd.prog w = .ok (.func fn first cap) w := fun _ _ _ _ => rfl
  go_enter Tryd.func52, Tryd.ntmps52
  go_wp2_with fail
  go_ret
  exact ⟨rfl, cells_new w #[.int .i64 s] 3 0, bal (Below.refl _ _) _⟩
theorem isPage (e : Ent) (h : Nat) (s p : Int) (w : World) (hc : PgAt w h s p) :
    Calls Tryd.prog 85 #[.agg #[.int .i64 e.1, .int .i64 e.2.1, .int .i64 e.2.2.1, .bool e.2.2.2], .pointer (some ⟨h, 0, none⟩), .pointer (some ⟨h + 1, 0, none⟩)] w fun r w' => r = .returned (.bool (pg s p e)) ∧ Below w.heap.size w w' := by
  obtain ⟨x, y, z, u⟩ := e
  have k := hc.below (bal (Below.refl _ _) (.cells #[.int .i64 x, .int .i64 y, .int .i64 z, .bool u] 39))
  obtain ⟨k0, k1⟩ := k
  have HP := hid (show pg s p (x, y, z, u) = (x == s && y == p) from rfl)
  cases hx : (x == s) with
  | true =>
    go_enter Tryd.func85, Tryd.ntmps85
    go_wp2_with fail
    go_ret
    exact ⟨by rw [HP.out, hx]; rfl, bal (Below.refl _ _) _⟩
  | false =>
    go_enter Tryd.func85, Tryd.ntmps85
    go_wp2_with fail
    go_ret
    exact ⟨by rw [HP.out, hx]; rfl, bal (Below.refl _ _) _⟩
theorem isSpace (e : Ent) (h : Nat) (s : Int) (w : World) (hc : w.cell? ⟨h, 0, none⟩ = some (.int .i64 s)) :
    Calls Tryd.prog 86 #[.agg #[.int .i64 e.1, .int .i64 e.2.1, .int .i64 e.2.2.1, .bool e.2.2.2], .pointer (some ⟨h, 0, none⟩)] w fun r w' => r = .returned (.bool (sp s e)) ∧ Below w.heap.size w w' := by
  obtain ⟨x, y, z, u⟩ := e
  have k0 := ((bal (Below.refl w.heap.size w) (.cells #[.int .i64 x, .int .i64 y, .int .i64 z, .bool u] 39)).cell (World.block_lt_of_cell? _ _ hc)).trans hc
  go_enter Tryd.func86, Tryd.ntmps86
  go_wp2_with fail
  go_ret
  exact ⟨rfl, bal (Below.refl _ _) _⟩
/-- The first one's number; -1: there is none. -/
def ixV (p : Ent → Bool) (l : List Ent) : Int := if l.findIdx p < l.length then (l.findIdx p : Int) else -1
set_option maxHeartbeats 2000000 in
theorem index_page (v : Value) (l : List Ent) (h : Nat) (s p : Int) (w : World) (hv : TlbIn w v l) (hc : PgAt w h s p) :
    Calls Tryd.prog 50 #[v, .func (.func 85) #[] #[.pointer (some ⟨h, 0, none⟩), .pointer (some ⟨h + 1, 0, none⟩)]] w fun r w' => r = .returned (.int .i64 (ixV (pg s p) l)) ∧ Below w.heap.size w w' := by
  obtain ⟨q, b, off, cap, rfl, hq, hz, hl⟩ := hv
  have HQ := hid hq
  have HZ := hid hz
  have HC := hid hc
  clear hq hz hc
  have hl2 : (l.length : Int) ≤ 100 := by omega
  go_enter Tryd.func50, Tryd.ntmps50
  go_wp2_with fail
  go_loopw [8] (fun i wr => ∃ k : Nat, k ≤ l.length ∧ i = .int .i64 k ∧ Hid ((∀ j (hj : j < l.length), j < k → pg s p l[j] = false) ∧ Below w.heap.size w wr)) (fun i _ => l.length - (intOf i).toNat)
  case atStart => exact ⟨0, by omega, rfl, fun j _ h => by omega, Below.refl _ _⟩
  case round =>
    obtain ⟨k, hk, rfl, hE⟩ := hrel
    by_cases hlt : k < l.length
    · have hlt2 : (k : Int) < (l.length : Int) := by omega
      have hqe := HQ.out (by omega)
      subst hqe
      obtain ⟨c0, c1, c2, c3⟩ := (HZ.out.below hE.out.2) k hlt
      have HP := hid (fun W (hb : Below w.heap.size w W) => isPage l[k] h s p W (HC.out.below hb))
      have HI := hid (show pg s p l[k] = true → ixV (pg s p) l = k from fun ht => by
        have : l.findIdx (pg s p) = k := (List.findIdx_eq hlt).2 ⟨ht, fun j hj => hE.out.1 j (by omega) hj⟩
        unfold ixV
        rw [this, if_pos hlt])
      have HS := hid (show pg s p l[k] = false → ∀ j (hj : j < l.length), j < k + 1 → pg s p l[j] = false from fun hf j hj hjk => by
        by_cases e : j = k
        · subst e; exact hf
        · exact hE.out.1 j hj (by omega))
      generalize l[k] = e at c0 c1 c2 c3 HP HI HS
      go_wp2_with fail
      refine (HP.out _ hE.out.2).mono ?_
      rintro r w1 ⟨rfl, hb⟩
      have B1 := hid (btr hE.out.2 hb)
      clear hb
      cases hpe : pg s p e with
      | true =>
        have HV := hid (HI.out hpe)
        go_wp2_with fail
        go_ret
        exact ⟨by rw [HV.out]; rfl, B1.out⟩
      | false =>
        have HN := hid (HS.out hpe)
        go_wp2_with fail
        exact ⟨⟨k + 1, by omega, by go_num, HN.out, B1.out⟩, by simp [intOf]; omega⟩
    · obtain rfl : k = l.length := by omega
      have hge : ¬ ((l.length : Int) < (l.length : Int)) := by omega
      have HV := hid (show ixV (pg s p) l = -1 by
        unfold ixV
        rw [if_neg]
        intro hlt2
        have := List.findIdx_getElem (w := hlt2)
        rw [hE.out.1 _ hlt2 hlt2] at this
        cases this)
      go_wp2_with fail
      go_ret
      exact ⟨by rw [HV.out]; rfl, hE.out.2⟩
end Go.Proofs.YtfpkbfhaipgibaaDoor.Mmu
