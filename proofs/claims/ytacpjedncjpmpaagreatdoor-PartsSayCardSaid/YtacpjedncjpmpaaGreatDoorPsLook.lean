/- Views in memory: eight lists of one's own in a box; one of them grows. · Parts: View.add; walked. (Written by mk_psw.py.) · Parts: who is of a part: See's closure, parts.those; walked. · Parts: parts.look; walked. · Parts: parts.look; walked. (Written by mk_psz.py.) -/
import Derived.Test.YtacpjedncjpmpaaGreatDoorPsJoin
import Derived.Test.YtacpjedncjpmpaaGreatDoorGRegF
import Derived.Deep.AppendLies
import Derived.BigQuiet
import Derived.Test.YtacpjedncjpmpaaGreatDoorGNew
import Derived.BigGuard
namespace Go.Proofs.YtacpjedncjpmpaaGreatDoor.Wd
open Go.RowKit Go.Proofs.YtacpjedncjpmpaaGreatDoor.Mem Go.Proofs.YtacpjedncjpmpaaGreatDoor.Bw Go.Proofs.YtacpjedncjpmpaaGreatDoor.Nums Go.Proofs.YtacpjedncjpmpaaGreatDoor.Mmu Go.Proofs.YtacpjedncjpmpaaGreatDoor.Rf
/-- Of a view's lists: an element's type, its cells. -/
def vE : Nat → TypeId
 | 1 => 58
 | 2 => 61
 | 4 => 22
 | 6 => 22
 | _ => 3
def vS : Nat → Nat
 | 1 => 7
 | 2 => 20
 | _ => 1
def ud {α : Type} (f : Nat → α) (i : Nat) (v : α) : Nat → α := fun j => if j = i then v else f j
theorem ud_at {α : Type} (f : Nat → α) (i : Nat) (v : α) : ud f i v i = v := if_pos rfl
theorem ud_ne {α : Type} (f : Nat → α) {i j : Nat} (v : α) (h : j ≠ i) : ud f i v j = f j := if_neg h
/-- Eight lists of one's own, apart from each other and from the box x. -/
structure Vr (W : World) (B x : Nat) (X : Nat → Value) (nn : Nat → Nat) (c : Nat → List Value) : Prop where
 lo : B ≤ x
 lt : x < W.heap.size
 own : ∀ i, i < 8 → W.ownsRow B (vE i) (vS i) (X i) (nn i) (c i)
 dj : ∀ i j, i < 8 → j < 8 → i ≠ j → ∀ k, (X i).ownBlock = some k → (X j).ownBlock ≠ some k
 nx : ∀ i, i < 8 → (X i).ownBlock ≠ some x
theorem own_kq {W W' : World} {T : Nat → Prop} {B e size n : Nat} {v : Value} {xs : List Value} (h : W.ownsRow B e size v n xs) (hk : Kq T W W') (hn : ∀ k, v.ownBlock = some k → ¬ T k) : W'.ownsRow B e size v n xs := by
 refine ⟨h.1, ?_⟩
 rcases h.2 with h2 | ⟨g, cap, cur, rfl, h3, h4, h5⟩
 ·exact .inl h2
 ·exact .inr ⟨g, cap, cur, rfl, h3, by rw [hk.block g (Array.getElem?_eq_some_iff.1 h4).1 (hn g rfl)]; exact h4, h5⟩
theorem Vr.kq {W W' : World} {T : Nat → Prop} {B x : Nat} {X : Nat → Value} {nn : Nat → Nat} {c : Nat → List Value} (h : Vr W B x X nn c) (hk : Kq T W W') (hn : ∀ i, i < 8 → ∀ k, (X i).ownBlock = some k → ¬ T k) : Vr W' B x X nn c :=
 ⟨h.lo, Nat.lt_of_lt_of_le h.lt hk.size, fun i hi => own_kq (h.own i hi) hk (hn i hi), h.dj, h.nx⟩
theorem kq_grown {W W' : World} {row : Option Nat} (h : W.grownBy W' row) : Kq (fun k => row = some k) W W' := ⟨h.os, h.tape, h.output, h.size, fun k hk hn => h.block k hk fun e => hn e.symm⟩
/-- One of them grows. -/
theorem Vr.app {W : World} {B x : Nat} {X : Nat → Value} {nn : Nat → Nat} {c : Nat → List Value} (h : Vr W B x X nn c) (hB : B ≤ W.heap.size) {i : Nat} (hi : i < 8) {T : TypeId} {z : Value} {bytes : Nat} (hT : Tryz.prog.underlying T = some (.slice (vE i))) (hinfo : (Tryz.prog.info? (vE i)).map (fun i => (i.zero, i.size, i.bytes)) = some (some z, vS i, bytes)) (hzs : z.cells.size = vS i) (hsz : 0 < vS i) (hby : bytes ≤ 1000)
  (ad : Addr) (m cc : Nat) (news : List Value) (hl : news.length = m * vS i) (hnews : ∀ j u, news[j]? = some u → W.cell? (ad.add j) = some u) (h1 : ∀ u ∈ news, u.oneCell' = true) (hm : 0 < m) (hn : nn i + m ≤ 1000) :
  ∃ g cap w', (Builtin.append_ #[T, T] T #[X i, .slice (some ad) m cc]).run Tryz.prog W = .ok (.slice (some ⟨g, 0, none⟩) (nn i + m) cap) w' ∧ Vr w' B x (ud X i (.slice (some ⟨g, 0, none⟩) (nn i + m) cap)) (ud nn i (nn i + m)) (ud c i (c i ++ news)) ∧ Kq (fun k => (X i).ownBlock = some k) W w' ∧ ((X i).ownBlock = some g ∨ g = W.heap.size) := by
 obtain ⟨f, hf, hz, hs, hy⟩ := info_get hinfo
 have hbb : (nn i + m) * bytes ≤ 1000 * 1000 := Nat.mul_le_mul hn hby
 obtain ⟨g, cap, w', hr, ho, hg, hat, hlt⟩ := run_append_lies (P := Tryz.prog) W T T B (vE i) f z (vS i) bytes hT hf hz hs hy hzs hsz (X i) (nn i) (c i) (h.own i hi) ad m cc news hl hnews h1 hm (by unfold maxLen; omega) (by omega) hB W.heap.size rfl
 have kq := kq_grown hg
 have ob : (Value.slice (some ⟨g, 0, none⟩) (nn i + m) cap).ownBlock = some g := rfl
 have far : ∀ j, j < 8 → j ≠ i → (X j).ownBlock ≠ some g := fun j hj hji e => by
  rcases hat with h2 | h2
  ·exact h.dj i j hi hj (Ne.symm hji) g h2 e
  ·have := ((h.own j hj).lt g e).2
   omega
 refine ⟨g, cap, w', hr, ⟨h.lo, Nat.lt_of_lt_of_le h.lt hg.size, fun j hj => ?_, fun j k hj hk hjk b hb => ?_, fun j hj => ?_⟩, kq, hat⟩
 ·by_cases e : j = i
  ·subst e
   rw [ud_at, ud_at, ud_at]
   exact ho
  ·rw [ud_ne _ _ e, ud_ne _ _ e, ud_ne _ _ e]
   exact own_kq (h.own j hj) kq fun k hk hik => h.dj i j hi hj (Ne.symm e) k hik hk
 ·by_cases ej : j = i
  ·subst ej
   rw [ud_at, ob] at hb
   rw [ud_ne _ _ (Ne.symm hjk), ← hb]
   exact far k hk (Ne.symm hjk)
  ·rw [ud_ne _ _ ej] at hb
   by_cases ek : k = i
   ·subst ek
    rw [ud_at, ob]
    intro e
    rw [← e] at hb
    exact far j hj ej hb
   ·rw [ud_ne _ _ ek]
    exact h.dj j k hj hk hjk b hb
 ·by_cases e : j = i
  ·subst e
   rw [ud_at, ob]
   intro e
   have e : g = x := by simpa using e
   rcases hat with h2 | h2
   ·rw [e] at h2; exact h.nx j hj h2
   ·have := h.lt; omega
  ·rw [ud_ne _ _ e]
   exact h.nx j hj
/-- .. in their box. -/
def eight (X : Nat → Value) : List Value := [X 0, X 1, X 2, X 3, X 4, X 5, X 6, X 7]
theorem eight_ud (X : Nat → Value) (i : Nat) (hi : i < 8) (v : Value) : (eight X).set i v = eight (ud X i v) := by
 match i, hi with
 | 0, _ => rfl
 | 1, _ => rfl
 | 2, _ => rfl
 | 3, _ => rfl
 | 4, _ => rfl
 | 5, _ => rfl
 | 6, _ => rfl
 | 7, _ => rfl
 | _ + 8, h => omega
theorem eight_at (X : Nat → Value) (i : Nat) (hi : i < 8) : (eight X)[i]? = some (X i) := by
 match i, hi with
 | 0, _ => rfl
 | 1, _ => rfl
 | 2, _ => rfl
 | 3, _ => rfl
 | 4, _ => rfl
 | 5, _ => rfl
 | 6, _ => rfl
 | 7, _ => rfl
 | _ + 8, h => omega
structure Vb (W : World) (B x : Nat) (X : Nat → Value) (nn : Nat → Nat) (c : Nat → List Value) : Prop where
 r : Vr W B x X nn c
 b : Mine W x (eight X)
theorem Vb.kq {W W' : World} {T : Nat → Prop} {B x : Nat} {X : Nat → Value} {nn : Nat → Nat} {c : Nat → List Value} (h : Vb W B x X nn c) (hk : Kq T W W') (hx : ¬ T x) (hn : ∀ i, i < 8 → ∀ k, (X i).ownBlock = some k → ¬ T k) : Vb W' B x X nn c := ⟨h.r.kq hk hn, h.b.kept hk hx⟩
theorem Vb.next {W W' : World} {B x : Nat} {X : Nat → Value} {nn : Nat → Nat} {c : Nat → List Value} (h : Vb W B x X nn c) (hb : Below W.heap.size W W') : Vb W' B x X nn c := h.kq (T := fun _ => False) (.of_below hb) id (fun _ _ _ _ => id)
/-- A list has grown, and its variable is told. -/
theorem Vb.put {W w' : World} {B x : Nat} {X : Nat → Value} {nn : Nat → Nat} {c : Nat → List Value} (h : Vb W B x X nn c) {i : Nat} (hi : i < 8) {v : Value} {nn' : Nat → Nat} {c' : Nat → List Value} (hr : Vr w' B x (ud X i v) nn' c') (hk : Kq (fun k => (X i).ownBlock = some k) W w') : Vb (w'.setCell ⟨x, i, none⟩ v) B x (ud X i v) nn' c' ∧ Kq (fun k => (X i).ownBlock = some k ∨ k = x) W (w'.setCell ⟨x, i, none⟩ v) := by
 have k2 := (Kq.refl (fun k => k = x) w').setCell (b := x) (o := i) (Or.inl rfl) v
 refine ⟨⟨hr.kq k2 fun j hj k hk e => ?_, ?_⟩, (hk.wider fun k _ e => .inl e).trans (k2.wider fun k _ e => .inr e)⟩
 ·subst e; exact hr.nx j hj hk
 ·have := (h.b.kept hk (h.r.nx i hi)).set (i := i) (by simpa [eight] using hi) v
  rwa [eight_ud X i hi] at this
theorem vTi : Tryz.prog.underlying 22 = some (.slice 3) := Tryz.underlying22
theorem infoSl : (Tryz.prog.info? 58).map (fun i => (i.zero, i.size, i.bytes)) = some (some (.agg #[.int .i64 0, .int .i64 0, .int .i64 0, .int .i64 0, .int .i64 0, .int .i64 0, .int .i64 0]), 7, 56) := by kernel_rfl
theorem infoRu : (Tryz.prog.info? 61).map (fun i => (i.zero, i.size, i.bytes)) = some (some (.agg #[.int .i64 0, .int .i64 0, .int .i64 0, .int .i64 0, .int .i64 0, .int .i64 0, .int .i64 0, .int .i64 0, .int .i64 0, .int .i64 0, .int .i64 0, .int .i64 0, .int .i64 0, .int .i64 0, .int .i64 0, .int .i64 0, .int .i64 0, .int .i64 0, .int .i64 0, .int .i64 0]), 20, 160) := by kernel_rfl
/-- A list within a view's list: in none of its blocks. -/
def Inn (W : World) (x : Nat) (X : Nat → Value) (u : Value) (l : List Int) : Prop := ∃ q b off cap, u = .slice q l.length cap ∧ (0 < l.length → q = some ⟨b, off, none⟩ ∧ b < W.heap.size ∧ x < b ∧ ∀ i, i < 8 → (X i).ownBlock ≠ some b) ∧ IntsAt W b off l
theorem Inn.ints {W : World} {x : Nat} {X : Nat → Value} {u : Value} {l : List Int} (h : Inn W x X u l) : IntsIn W u l := by
 obtain ⟨q, b, off, cap, h1, h2, h3⟩ := h
 exact ⟨q, b, off, cap, h1, fun h => (h2 h).1, h3⟩
theorem Inn.grow {W W' : World} {x i g : Nat} {X : Nat → Value} {u v : Value} {l : List Int} (h : Inn W x X u l) (hi : i < 8) (hk : Kq (fun k => (X i).ownBlock = some k ∨ k = x) W W') (hv : v.ownBlock = some g) (hg : (X i).ownBlock = some g ∨ W.heap.size ≤ g) : Inn W' x (ud X i v) u l := by
 obtain ⟨q, b, off, cap, h1, h2, h3⟩ := h
 rcases Nat.eq_zero_or_pos l.length with h0 | h0
 ·exact ⟨q, b, off, cap, h1, fun h => by omega, fun j hj => by omega⟩
 ·obtain ⟨e1, e2, e3, e4⟩ := h2 h0
  have hT : ¬ ((X i).ownBlock = some b ∨ b = x) := fun e => e.elim (e4 i hi) fun e => by omega
  refine ⟨q, b, off, cap, h1, fun _ => ⟨e1, Nat.lt_of_lt_of_le e2 hk.size, e3, fun j hj => ?_⟩, fun j hj => (hk.cell (p := ⟨b, off + j, none⟩) e2 hT).trans (h3 j hj)⟩
  by_cases e : j = i
  ·subst e
   rw [ud_at, hv]
   intro e
   have e : g = b := by simpa using e
   subst e
   rcases hg with h | h
   ·exact e4 j hj h
   ·omega
  ·rw [ud_ne _ _ e]
   exact e4 j hj
/-- Lists within a view's list. -/
def Ls (W : World) (x : Nat) (X : Nat → Value) (us : List Value) (ls : List (List Int)) : Prop := us.length = ls.length ∧ ∀ (j : Nat) (u : Value) (l : List Int), us[j]? = some u → ls[j]? = some l → Inn W x X u l
theorem Ls.grow {W W' : World} {x i g : Nat} {X : Nat → Value} {us : List Value} {v : Value} {ls : List (List Int)} (h : Ls W x X us ls) (hi : i < 8) (hk : Kq (fun k => (X i).ownBlock = some k ∨ k = x) W W') (hv : v.ownBlock = some g) (hg : (X i).ownBlock = some g ∨ W.heap.size ≤ g) : Ls W' x (ud X i v) us ls :=
 ⟨h.1, fun j u l hu hl => (h.2 j u l hu hl).grow hi hk hv hg⟩
theorem Ls.more {W : World} {x : Nat} {X : Nat → Value} {us : List Value} {ls : List (List Int)} {u : Value} {l : List Int} (h : Ls W x X us ls) (hu : Inn W x X u l) : Ls W x X (us ++ [u]) (ls ++ [l]) := by
 refine ⟨by rw [List.length_append, List.length_append, h.1]; rfl, fun j u' l' h1 h2 => ?_⟩
 by_cases hj : j < us.length
 ·rw [List.getElem?_append_left hj] at h1
  rw [List.getElem?_append_left (by rw [← h.1]; exact hj)] at h2
  exact h.2 j u' l' h1 h2
 ·rw [List.getElem?_append_right (by omega)] at h1
  rw [List.getElem?_append_right (by rw [← h.1]; omega)] at h2
  have h0 : j - us.length = 0 := by
   have := (List.getElem?_eq_some_iff.1 h1).1
   simp at this
   omega
  rw [h0] at h1
  rw [← h.1, h0] at h2
  simp at h1 h2
  rw [← h1, ← h2]
  exact hu
theorem Inn.next {W W' : World} {x : Nat} {X : Nat → Value} {u : Value} {l : List Int} (h : Inn W x X u l) (hb : Below W.heap.size W W') : Inn W' x X u l := by
 obtain ⟨q, b, off, cap, h1, h2, h3⟩ := h
 exact ⟨q, b, off, cap, h1, fun h => ⟨(h2 h).1, Nat.lt_of_lt_of_le (h2 h).2.1 hb.size, (h2 h).2.2⟩, h3.below hb⟩
theorem Ls.next {W W' : World} {x : Nat} {X : Nat → Value} {us : List Value} {ls : List (List Int)} (h : Ls W x X us ls) (hb : Below W.heap.size W W') : Ls W' x X us ls := ⟨h.1, fun j u l hu hl => (h.2 j u l hu hl).next hb⟩
/-- A view in its box, behind a world in its own. -/
structure Vf (w1 : World) (vb : Nat) (V : Nat → Value) (p : PW) (B x : Nat) (X : Nat → Value) (nn : Nat → Nat) (c : Nat → List Value) (ls ts : List (List Int)) (W : World) : Prop where
 va : ViewAt w1 vb V p
 be : Below w1.heap.size w1 W
 hB : w1.heap.size ≤ B
 b : Vb W B x X nn c
 l : Ls W x X (c 4) ls
 t : Ls W x X (c 6) ts
theorem Vf.next {w1 : World} {vb : Nat} {V : Nat → Value} {p : PW} {B x : Nat} {X : Nat → Value} {nn : Nat → Nat} {c : Nat → List Value} {ls ts : List (List Int)} {W W' : World} (h : Vf w1 vb V p B x X nn c ls ts W) (hb : Below W.heap.size W W') : Vf w1 vb V p B x X nn c ls ts W' :=
 ⟨h.va, btr h.be hb, h.hB, h.b.next hb, h.l.next hb, h.t.next hb⟩
/-- A list has grown by what has no lists within. -/
theorem Vf.put {w1 : World} {vb : Nat} {V : Nat → Value} {p : PW} {B x : Nat} {X : Nat → Value} {nn : Nat → Nat} {c : Nat → List Value} {ls ts : List (List Int)} {W w' : World} (h : Vf w1 vb V p B x X nn c ls ts W) {i : Nat} (hi : i < 8) {g n' cap : Nat} {nn' : Nat → Nat} {c' : Nat → List Value} (hr : Vr w' B x (ud X i (.slice (some ⟨g, 0, none⟩) n' cap)) nn' c') (hk : Kq (fun k => (X i).ownBlock = some k) W w') (hg : (X i).ownBlock = some g ∨ g = W.heap.size) :
  Vb (w'.setCell ⟨x, i, none⟩ (.slice (some ⟨g, 0, none⟩) n' cap)) B x (ud X i (.slice (some ⟨g, 0, none⟩) n' cap)) nn' c' ∧ Below w1.heap.size w1 (w'.setCell ⟨x, i, none⟩ (.slice (some ⟨g, 0, none⟩) n' cap)) ∧ Ls (w'.setCell ⟨x, i, none⟩ (.slice (some ⟨g, 0, none⟩) n' cap)) x (ud X i (.slice (some ⟨g, 0, none⟩) n' cap)) (c 4) ls ∧ Ls (w'.setCell ⟨x, i, none⟩ (.slice (some ⟨g, 0, none⟩) n' cap)) x (ud X i (.slice (some ⟨g, 0, none⟩) n' cap)) (c 6) ts ∧ Kq (fun k => (X i).ownBlock = some k ∨ k = x) W (w'.setCell ⟨x, i, none⟩ (.slice (some ⟨g, 0, none⟩) n' cap)) := by
 obtain ⟨h1, h2⟩ := h.b.put hi hr hk
 have hg' : (X i).ownBlock = some g ∨ W.heap.size ≤ g := by rcases hg with h | h; exact .inl h; exact .inr (by omega)
 refine ⟨h1, h2.below h.be h.be.size (fun k hk e => ?_), h.l.grow hi h2 rfl hg', h.t.grow hi h2 rfl hg', h2⟩
 have := h.hB
 rcases e with e | e
 ·have := ((h.b.r.own i hi).lt k e).1; omega
 ·have := h.b.r.lo; omega
theorem wp_appV {P : Program} {w w' : World} {o : Oper} {a : Act} {K : Act → World → Prop} {Q : Exit → Act → World → Prop} (s x : Operand) (t : TypeId)
  (ho : o.op = .call { callee := .builtin .append, args := #[s, x], argTypes := #[t, t] }) (v u v' : Value) (hs : a.eval s = v) (hx : a.eval x = u) (hr : (Builtin.append_ #[t, t] o.type #[v, u]).run P w = .ok v' w')
  (h : K (a.put o.dst v') w') : o.wp P a w K Q := by
 unfold Oper.wp
 simp [execOp, ho, resolve, invoke, builtin, hs, hx, hr, Result.andThen]
 exact h
theorem inn_new {w2 : World} {N x : Nat} {X : Nat → Value} {cu : Value} {l : List Int} (h : w2.ownsRow N 3 1 cu l.length (ints l)) (hx : x < N) (ho : ∀ i, i < 8 → ∀ k, (X i).ownBlock = some k → k < N) : Inn w2 x X cu l := by
 obtain ⟨q, b, off, cap, h1, h2, h3⟩ := own_ints h
 refine ⟨q, b, off, cap, h1, fun hl => ?_, h3⟩
 have hq := h2 hl
 have hb := h.lt b (by rw [h1, hq]; rfl)
 exact ⟨hq, hb.2, by omega, fun i hi e => by have := ho i hi b e; omega⟩
/-- What add adds. -/
def cA (rp : List Int) (sp : List (Nat → Int)) (tk : Nat → Int) (kd : Int) (u : Value) (bt : Int) (c : Nat → List Value) : Nat → List Value :=
 ud (ud (ud (ud (ud (ud c 0 (c 0 ++ ints rp)) 1 (c 1 ++ sp.flatMap (cf 7))) 2 (c 2 ++ cf 20 tk)) 3 (c 3 ++ [.int .i64 kd])) 4 (c 4 ++ [u])) 5 (c 5 ++ [.int .i64 bt])
theorem fold20 (f : Nat → Int) : List.foldl (fun cs x => Array.setIfInBounds cs x.snd x.fst) #[.int .i64 0, .int .i64 0, .int .i64 0, .int .i64 0, .int .i64 0, .int .i64 0, .int .i64 0, .int .i64 0, .int .i64 0, .int .i64 0, .int .i64 0, .int .i64 0, .int .i64 0, .int .i64 0, .int .i64 0, .int .i64 0, .int .i64 0, .int .i64 0, .int .i64 0, .int .i64 0] (cf 20 f).zipIdx = (cf 20 f).toArray := by kernel_rfl
def nA (nn : Nat → Nat) : Nat → Nat := ud (ud (ud (ud (ud (ud nn 0 (nn 0 + 16)) 1 (nn 1 + 16)) 2 (nn 2 + 1)) 3 (nn 3 + 1)) 4 (nn 4 + 1)) 5 (nn 5 + 1)
theorem ints_cell {W : World} {b off : Nat} {zs : List Int} (h : IntsAt W b off zs) : ∀ j u, (ints zs)[j]? = some u → W.cell? ((⟨b, off, none⟩ : Addr).add j) = some u := fun j u hj => by
 unfold ints at hj
 rw [List.getElem?_map] at hj
 cases hz : zs[j]? with
 | none => rw [hz] at hj; cases hj
 | some z =>
  obtain ⟨h1, h2⟩ := List.getElem?_eq_some_iff.1 hz
  rw [hz] at hj
  rw [Addr.add_mid, h j h1, h2]
  exact hj
theorem ints_one1 (zs : List Int) : ∀ u ∈ ints zs, u.oneCell' = true := fun u hu => by
 obtain ⟨z, _, rfl⟩ := List.mem_map.1 hu
 rfl
theorem part_at {W : World} {b off k : Nat} {zs : List Int} (h : IntsAt W b off zs) (hk : k * 16 + 16 ≤ zs.length) : IntsAt W b (off + k * 16) ((zs.drop (k * 16)).take 16) := fun j hj => by
 rw [part_len hk] at hj
 have e : ((zs.drop (k * 16)).take 16)[j]'(by rw [part_len hk]; exact hj) = zs[k * 16 + j]'(by omega) := by simp
 rw [e, Nat.add_assoc]
 exact h (k * 16 + j) (by omega)
theorem flat_len {n : Nat} : ∀ fs : List (Nat → Int), (fs.flatMap (cf n)).length = fs.length * n
 | [] => by simp
 | f :: r => by rw [List.flatMap_cons, List.length_append, cf_len, flat_len r, List.length_cons, Nat.add_mul]; omega
theorem flat_one {n : Nat} (fs : List (Nat → Int)) : ∀ u ∈ fs.flatMap (cf n), u.oneCell' = true := fun u hu => by
 obtain ⟨f, _, h⟩ := List.mem_flatMap.1 hu
 exact cf_one n f u h
theorem flat_at {n : Nat} (hn : 0 < n) : ∀ (fs : List (Nat → Int)) (j : Nat) (u : Value), (fs.flatMap (cf n))[j]? = some u → ∃ f, fs[j / n]? = some f ∧ (cf n f)[j % n]? = some u
 | [], j, u, h => by simp at h
 | f :: r, j, u, h => by
  rw [List.flatMap_cons] at h
  by_cases hj : j < n
  ·rw [List.getElem?_append_left (by rw [cf_len]; exact hj)] at h
   rw [Nat.div_eq_of_lt hj, Nat.mod_eq_of_lt hj]
   exact ⟨f, rfl, h⟩
  ·rw [List.getElem?_append_right (by rw [cf_len]; omega), cf_len] at h
   obtain ⟨g, h1, h2⟩ := flat_at hn r (j - n) u h
   have e1 : j / n = (j - n) / n + 1 := by rw [Nat.div_eq_sub_div hn (by omega)]
   have e2 : j % n = (j - n) % n := by rw [Nat.mod_eq_sub_mod (by omega)]
   exact ⟨g, by rw [e1, List.getElem?_cons_succ]; exact h1, by rw [e2]; exact h2⟩
theorem rows_cell {W : World} {b off k : Nat} {fs : List (Nat → Int)} (h : ∀ j (h : j < fs.length), W.rangeAt b (off + j * 7) (cf 7 fs[j])) (hk : k * 16 + 16 ≤ fs.length) : ∀ j u, (((fs.drop (k * 16)).take 16).flatMap (cf 7))[j]? = some u → W.cell? ((⟨b, off + k * 16 * 7, none⟩ : Addr).add j) = some u := fun j u hj => by
 obtain ⟨f, h1, h2⟩ := flat_at (by decide) _ j u hj
 have hl : j / 7 < 16 := by
  have := (List.getElem?_eq_some_iff.1 h1).1
  rwa [part_len hk] at this
 rw [part_get hl, List.getElem?_eq_getElem (by omega)] at h1
 have e : fs[k * 16 + j / 7]'(by omega) = f := by simpa using h1
 have := h (k * 16 + j / 7) (by omega) (j % 7) u (by rw [e]; exact h2)
 rw [Addr.add_mid, ← this]
 congr 2
 have := Nat.div_add_mod j 7
 omega
set_option maxRecDepth 100000 in
set_option maxHeartbeats 40000000 in
theorem add_any (w1 : World) (vb : Nat) (V : Nat → Value) (p : PW) (B x : Nat) (X : Nat → Value) (nn : Nat → Nat) (c : Nat → List Value) (ls ts : List (List Int)) (k : Nat) (w : World) (h : Vf w1 vb V p B x X nn c ls ts w) (he : Eg p) (hk : k < p.kinds.length) (r0 : RoomV (V 0)) (r2 : RoomV (V 2)) (hn : ∀ i, i < 8 → nn i + 16 ≤ 1000) :
  Calls Tryz.prog 51 #[.pointer (some ⟨x, 0, none⟩), .pointer (some ⟨vb, 0, none⟩), .int .i64 k] w fun r w' => r = .returned (.tuple #[]) ∧ ∃ X' u, Vf w1 vb V p B x X' (nA nn) (cA ((p.ram.drop (k * 16)).take 16) ((p.slots.drop (k * 16)).take 16) (p.tasks.getD k z0) (p.kinds.getD k 0) u (p.bits.getD k 0) c) (ls ++ [p.lines.getD k []]) ts w' := by
 have HN := hid hn
 have HBW := hid (show B ≤ w.heap.size from Nat.le_trans h.b.r.lo (Nat.le_of_lt h.b.r.lt))
 have HLF := hid he.lf
 have hl24 : p.kinds.length ≤ 24 := he.lf.k2
 obtain ⟨q0, b0, o0, k0, e0, hq0, hz0⟩ := h.va.v.ram
 have HRL0 := hid (show p.ram.length = p.kinds.length * 16 from he.lf.ram)
 obtain rfl := hq0 (by have := HRL0.out; omega)
 have HC0 := hid (fun W (hb : Below w1.heap.size w1 W) => show W.cell? ⟨vb, 0, none⟩ = some (.slice (some ⟨b0, o0, none⟩) p.ram.length k0) from e0 ▸ range_cell (h.va.below hb).r rfl)
 have HZ0 := hid hz0
 have hl0 : p.ram.length ≤ 1000 := by have := HRL0.out; omega
 have hl0' : (p.ram.length : Int) ≤ 1000 := by omega
 have hk0 : k * 16 + 16 ≤ p.ram.length := by have := HRL0.out; omega
 have HR0 := hid (show p.ram.length ≤ k0 by rw [e0] at r0; exact r0)
 obtain ⟨q1, b1, o1, k1, e1, hq1, hz1⟩ := h.va.v.kinds
 have HRL1 := hid (show p.kinds.length = p.kinds.length from rfl)
 obtain rfl := hq1 (by have := HRL1.out; omega)
 have HC1 := hid (fun W (hb : Below w1.heap.size w1 W) => show W.cell? ⟨vb, 1, none⟩ = some (.slice (some ⟨b1, o1, none⟩) p.kinds.length k1) from e1 ▸ range_cell (h.va.below hb).r rfl)
 have HZ1 := hid hz1
 have hl1 : p.kinds.length ≤ 1000 := by have := HRL1.out; omega
 have hl1' : (p.kinds.length : Int) ≤ 1000 := by omega
 have hk1 : k < p.kinds.length := by have := HRL1.out; omega
 have hk1' : (k : Int) < (p.kinds.length : Int) := by omega
 obtain ⟨q2, b2, o2, k2, e2, hq2, hz2⟩ := h.va.v.slots
 have HRL2 := hid (show p.slots.length = p.kinds.length * 16 from he.lf.slots)
 obtain rfl := hq2 (by have := HRL2.out; omega)
 have HC2 := hid (fun W (hb : Below w1.heap.size w1 W) => show W.cell? ⟨vb, 2, none⟩ = some (.slice (some ⟨b2, o2, none⟩) p.slots.length k2) from e2 ▸ range_cell (h.va.below hb).r rfl)
 have HZ2 := hid hz2
 have hl2 : p.slots.length ≤ 1000 := by have := HRL2.out; omega
 have hl2' : (p.slots.length : Int) ≤ 1000 := by omega
 have hk2 : k * 16 + 16 ≤ p.slots.length := by have := HRL2.out; omega
 have HR2 := hid (show p.slots.length ≤ k2 by rw [e2] at r2; exact r2)
 obtain ⟨q3, b3, o3, k3, e3, hq3, hz3⟩ := h.va.v.tasks
 have HRL3 := hid (show p.tasks.length = p.kinds.length from he.lf.tasks)
 obtain rfl := hq3 (by have := HRL3.out; omega)
 have HC3 := hid (fun W (hb : Below w1.heap.size w1 W) => show W.cell? ⟨vb, 3, none⟩ = some (.slice (some ⟨b3, o3, none⟩) p.tasks.length k3) from e3 ▸ range_cell (h.va.below hb).r rfl)
 have HZ3 := hid hz3
 have hl3 : p.tasks.length ≤ 1000 := by have := HRL3.out; omega
 have hl3' : (p.tasks.length : Int) ≤ 1000 := by omega
 have hk3 : k < p.tasks.length := by have := HRL3.out; omega
 have hk3' : (k : Int) < (p.tasks.length : Int) := by omega
 obtain ⟨q4, b4, o4, k4, e4, hq4, hz4⟩ := h.va.v.lines
 have HRL4 := hid (show p.lines.length = p.kinds.length from he.lf.lines)
 obtain rfl := hq4 (by have := HRL4.out; omega)
 have HC4 := hid (fun W (hb : Below w1.heap.size w1 W) => show W.cell? ⟨vb, 4, none⟩ = some (.slice (some ⟨b4, o4, none⟩) p.lines.length k4) from e4 ▸ range_cell (h.va.below hb).r rfl)
 have HZ4 := hid hz4
 have hl4 : p.lines.length ≤ 1000 := by have := HRL4.out; omega
 have hl4' : (p.lines.length : Int) ≤ 1000 := by omega
 have hk4 : k < p.lines.length := by have := HRL4.out; omega
 have hk4' : (k : Int) < (p.lines.length : Int) := by omega
 obtain ⟨q5, b5, o5, k5, e5, hq5, hz5⟩ := h.va.v.bits
 have HRL5 := hid (show p.bits.length = p.kinds.length from he.lf.bits)
 obtain rfl := hq5 (by have := HRL5.out; omega)
 have HC5 := hid (fun W (hb : Below w1.heap.size w1 W) => show W.cell? ⟨vb, 5, none⟩ = some (.slice (some ⟨b5, o5, none⟩) p.bits.length k5) from e5 ▸ range_cell (h.va.below hb).r rfl)
 have HZ5 := hid hz5
 have hl5 : p.bits.length ≤ 1000 := by have := HRL5.out; omega
 have hl5' : (p.bits.length : Int) ≤ 1000 := by omega
 have hk5 : k < p.bits.length := by have := HRL5.out; omega
 have hk5' : (k : Int) < (p.bits.length : Int) := by omega
 obtain ⟨tk, htk⟩ : ∃ tk, p.tasks.getD k z0 = tk := ⟨_, rfl⟩
 obtain ⟨kd, hkd⟩ : ∃ kd, p.kinds.getD k 0 = kd := ⟨_, rfl⟩
 obtain ⟨bt, hbt⟩ : ∃ bt, p.bits.getD k 0 = bt := ⟨_, rfl⟩
 obtain ⟨li, hli⟩ : ∃ li, p.lines.getD k [] = li := ⟨_, rfl⟩
 rw [htk, hkd, hbt, hli]
 have HTK := hid ((getD_z hk3).symm.trans htk)
 have HKD := hid ((getD_i hk1).symm.trans hkd)
 have HBT := hid ((getD_i hk5).symm.trans hbt)
 have HLI := hid ((getD_l hk4).symm.trans hli)
 clear htk hkd hbt hli
 have HF := hid h
 clear h hn he r0 r2 hq0 hz0 e0 hq1 hz1 e1 hq2 hz2 e2 hq3 hz3 e3 hq4 hz4 e4 hq5 hz5 e5
 go_enter Tryz.func51, Tryz.ntmps51
 go_upto_region 0 with fail
 have cx : w.cell? ⟨x, 0, none⟩ = some (X 0) := (HF.out.b.b.c 0).trans (eight_at X 0 (by omega))
 have KR := hid (fun W (hb : Below w.heap.size w W) => show W.cell? ⟨x, 0, none⟩ = some (X 0) ∧ W.cell? ⟨vb, 0, none⟩ = some (.slice (some ⟨b0, o0, none⟩) p.ram.length k0) ∧ True from ⟨(hb.cell (World.block_lt_of_cell? _ _ cx)).trans cx, HC0.out W (btr HF.out.be hb), trivial⟩)
 have BD : Hid (Below w.heap.size w w.drew) := hid (below_drew w 1)
 refine wp_region_H (R := fun W => W.cell? ⟨x, 0, none⟩ = some (X 0) ∧ W.cell? ⟨vb, 0, none⟩ = some (.slice (some ⟨b0, o0, none⟩) p.ram.length k0) ∧ True) [14] [0, 1, 2, 3, 4, 5, 6, 7, 8, 9] 5 (by kernel_rfl) (KR.out _ BD.out) (by kernel_rfl) (by kernel_rfl) (by kernel_rfl) (fun _ => ?_)
 clear cx
 repeat (refine rd_st rfl (by rfl) (fun _ _ _ _ h => h) ?_; apply Exists.intro; refine ⟨fun W h => ?_, ?_⟩; (focus (obtain ⟨h1, h2, h3⟩ := h; go_simp; try rfl)); simp only [jj])
 refine rd_nil ?_
 refine wpAnyF_ready (rs := [10]) (by kernel_rfl) (by simp) (AllReadyF.cons rfl (fun K hK => ?_) AllReadyF.nil)
 rw [if_pos (by rfl)]
 go_simp
 refine (pieceI_any _ _ _ k b0 o0 _ rfl HR0.out hk0 hl0).mono ?_
 rintro r w2 ⟨rfl, rfl⟩
 refine hK.out _ _ trivial (fun _ => KR.out _ BD.out) (fun _ _ => ?_)
 clear hK K
 try simp only [jj]
 obtain ⟨g, cap, w5, hrun, hvr, hkq, hat⟩ := Vr.app (i := 0) (T := 22) (z := .int .i64 0) (HF.out.next BD.out).b.r (Nat.le_trans HF.out.b.r.lo (Nat.le_of_lt (Nat.lt_of_lt_of_le HF.out.b.r.lt BD.out.size))) (by omega) Tryz.underlying22 infoI rfl (by decide) (by decide) ⟨b0, o0 + k * 16, none⟩ 16 (k0 - k * 16) (ints ((p.ram.drop (k * 16)).take 16)) (by rw [ints_length, part_len hk0]; rfl) (ints_cell (part_at (HZ0.out.below (btr HF.out.be BD.out)) hk0)) (ints_one1 _) (by decide) (by have := HN.out 0 (by omega); exact (show nn 0 + 16 ≤ 1000 by omega))
 have HRUN := hid hrun
 have BE5 := hid (show Below w1.heap.size w1 w5 from hkq.below (btr HF.out.be BD.out) (btr HF.out.be BD.out).size (fun k hk e => by have := (((HF.out.next BD.out).b.r.own 0 (by omega)).lt k e).1; have := HF.out.hB; omega))
 have hx5 : x < (w.drew).heap.size := (HF.out.next BD.out).b.r.lt
 have cx5 := (hkq.cell (p := ⟨x, 0, none⟩) hx5 (HF.out.b.r.nx 0 (by omega))).trans (KR.out _ BD.out).1
 have fx5 := (hkq.frozen (p := ⟨x, 0, none⟩) hx5 (HF.out.b.r.nx 0 (by omega))).trans ((HF.out.next BD.out).b.b.f 0)
 have R5 := hid (show w5.cell? ⟨x, 0, none⟩ = some (X 0) ∧ w5.cell? ⟨vb, 0, none⟩ = some (.slice (some ⟨b0, o0, none⟩) p.ram.length k0) ∧ True from ⟨cx5, HC0.out w5 BE5.out, trivial⟩)
 have PT := hid ((HF.out.next BD.out).put (i := 0) (by omega) hvr hkq hat)
 clear hrun hvr hkq hat
 refine wpAnyF_ready (rs := [11]) (by kernel_rfl) (by simp) (AllReadyF.cons rfl (fun K hK => ?_) AllReadyF.nil)
 refine wp_appV _ _ 22 rfl (X 0) (.slice (some ⟨b0, o0 + k * 16, none⟩) 16 (k0 - k * 16)) _ rfl rfl HRUN.out ?_
 refine hK.out _ _ trivial (fun _ => R5.out) (fun _ _ => ?_)
 clear hK K
 simp only [jj]
 refine wpAnyF_groupS (by kernel_rfl) _ R5.out [12, 13] 1 _ _ (by kernel_rfl) ?_
 repeat (refine rd_st rfl (by rfl) (fun _ _ _ _ h => h) ?_; apply Exists.intro; refine ⟨fun W h => ?_, ?_⟩; (focus (clear h; go_simp; try rfl)); simp only [jj])
 refine rd_nil ?_
 refine wpAnyF_ready (rs := [14]) (by kernel_rfl) (by simp) (AllReadyF.cons rfl (fun K hK => ?_) AllReadyF.nil)
 go_simp
 refine hK.out _ _ trivial (notClean (by kernel_rfl)) (fun _ _ => ?_)
 clear hK K
 try simp only [jj]
 refine wpAnyF_done (by kernel_rfl) ?_ _
 obtain ⟨h1, h2, h3, h4, -⟩ := PT.out
 have HF2 := hid (show Vf w1 vb V p B x (ud X 0 (.slice (some ⟨g, 0, none⟩) (nn 0 + 16) cap)) (ud (nn) 0 (nn 0 + 16)) (ud (c) 0 (c 0 ++ ints ((p.ram.drop (k * 16)).take 16))) ls ts (w5.setCell ⟨x, 0, none⟩ (.slice (some ⟨g, 0, none⟩) (nn 0 + 16) cap)) from ⟨HF.out.va, h2, HF.out.hB, h1, h3, h4⟩)
 generalize w5.setCell ⟨x, 0, none⟩ _ = W10 at HF2 ⊢
 generalize ud X 0 (.slice (some ⟨g, 0, none⟩) (nn 0 + 16) cap) = X10 at HF2
 clear h1 h2 h3 h4 PT HRUN BE5 hx5 cx5 fx5 R5 KR BD HF
 have HF := HF2
 clear HF2
 go_upto_region 1 with fail
 have cx : W10.cell? ⟨x, 1, none⟩ = some (X10 1) := (HF.out.b.b.c 1).trans (eight_at X10 1 (by omega))
 have KR := hid (fun W (hb : Below W10.heap.size W10 W) => show W.cell? ⟨x, 1, none⟩ = some (X10 1) ∧ W.cell? ⟨vb, 2, none⟩ = some (.slice (some ⟨b2, o2, none⟩) p.slots.length k2) ∧ True from ⟨(hb.cell (World.block_lt_of_cell? _ _ cx)).trans cx, HC2.out W (btr HF.out.be hb), trivial⟩)
 have BD : Hid (Below W10.heap.size W10 W10.drew) := hid (below_drew W10 1)
 refine wp_region_H (R := fun W => W.cell? ⟨x, 1, none⟩ = some (X10 1) ∧ W.cell? ⟨vb, 2, none⟩ = some (.slice (some ⟨b2, o2, none⟩) p.slots.length k2) ∧ True) [14] [0, 1, 2, 3, 4, 5, 6, 7, 8, 9] 5 (by kernel_rfl) (KR.out _ BD.out) (by kernel_rfl) (by kernel_rfl) (by kernel_rfl) (fun _ => ?_)
 clear cx
 repeat (refine rd_st rfl (by rfl) (fun _ _ _ _ h => h) ?_; apply Exists.intro; refine ⟨fun W h => ?_, ?_⟩; (focus (obtain ⟨h1, h2, h3⟩ := h; go_simp; try rfl)); simp only [jj])
 refine rd_nil ?_
 refine wpAnyF_ready (rs := [10]) (by kernel_rfl) (by simp) (AllReadyF.cons rfl (fun K hK => ?_) AllReadyF.nil)
 rw [if_pos (by rfl)]
 go_simp
 refine (pieceS_any _ _ _ k b2 o2 _ rfl HR2.out hk2 hl2).mono ?_
 rintro r w2 ⟨rfl, rfl⟩
 refine hK.out _ _ trivial (fun _ => KR.out _ BD.out) (fun _ _ => ?_)
 clear hK K
 try simp only [jj]
 obtain ⟨g, cap, w5, hrun, hvr, hkq, hat⟩ := Vr.app (i := 1) (T := 23) (z := .agg #[.int .i64 0, .int .i64 0, .int .i64 0, .int .i64 0, .int .i64 0, .int .i64 0, .int .i64 0]) (HF.out.next BD.out).b.r (Nat.le_trans HF.out.b.r.lo (Nat.le_of_lt (Nat.lt_of_lt_of_le HF.out.b.r.lt BD.out.size))) (by omega) Tryz.underlying23 infoSl rfl (by decide) (by decide) ⟨b2, o2 + k * 16 * 7, none⟩ 16 (k2 - k * 16) (((p.slots.drop (k * 16)).take 16).flatMap (cf 7)) (by rw [flat_len, part_len hk2]; rfl) (rows_cell (fun j hj => range_belowO (HZ2.out j hj) (btr HF.out.be BD.out)) hk2) (flat_one _) (by decide) (by have := HN.out 1 (by omega); exact (show nn 1 + 16 ≤ 1000 by omega))
 rw [show (ud (nn) 0 (nn 0 + 16)) 1 = nn 1 from rfl] at hrun hvr
 rw [show (ud (c) 0 (c 0 ++ ints ((p.ram.drop (k * 16)).take 16))) 1 = c 1 from rfl] at hvr
 have HRUN := hid hrun
 have BE5 := hid (show Below w1.heap.size w1 w5 from hkq.below (btr HF.out.be BD.out) (btr HF.out.be BD.out).size (fun k hk e => by have := (((HF.out.next BD.out).b.r.own 1 (by omega)).lt k e).1; have := HF.out.hB; omega))
 have hx5 : x < (W10.drew).heap.size := (HF.out.next BD.out).b.r.lt
 have cx5 := (hkq.cell (p := ⟨x, 1, none⟩) hx5 (HF.out.b.r.nx 1 (by omega))).trans (KR.out _ BD.out).1
 have fx5 := (hkq.frozen (p := ⟨x, 1, none⟩) hx5 (HF.out.b.r.nx 1 (by omega))).trans ((HF.out.next BD.out).b.b.f 1)
 have R5 := hid (show w5.cell? ⟨x, 1, none⟩ = some (X10 1) ∧ w5.cell? ⟨vb, 2, none⟩ = some (.slice (some ⟨b2, o2, none⟩) p.slots.length k2) ∧ True from ⟨cx5, HC2.out w5 BE5.out, trivial⟩)
 have PT := hid ((HF.out.next BD.out).put (i := 1) (by omega) hvr hkq hat)
 clear hrun hvr hkq hat
 refine wpAnyF_ready (rs := [11]) (by kernel_rfl) (by simp) (AllReadyF.cons rfl (fun K hK => ?_) AllReadyF.nil)
 refine wp_appV _ _ 23 rfl (X10 1) (.slice (some ⟨b2, o2 + k * 16 * 7, none⟩) 16 (k2 - k * 16)) _ rfl rfl HRUN.out ?_
 refine hK.out _ _ trivial (fun _ => R5.out) (fun _ _ => ?_)
 clear hK K
 simp only [jj]
 refine wpAnyF_groupS (by kernel_rfl) _ R5.out [12, 13] 1 _ _ (by kernel_rfl) ?_
 repeat (refine rd_st rfl (by rfl) (fun _ _ _ _ h => h) ?_; apply Exists.intro; refine ⟨fun W h => ?_, ?_⟩; (focus (clear h; go_simp; try rfl)); simp only [jj])
 refine rd_nil ?_
 refine wpAnyF_ready (rs := [14]) (by kernel_rfl) (by simp) (AllReadyF.cons rfl (fun K hK => ?_) AllReadyF.nil)
 go_simp
 refine hK.out _ _ trivial (notClean (by kernel_rfl)) (fun _ _ => ?_)
 clear hK K
 try simp only [jj]
 refine wpAnyF_done (by kernel_rfl) ?_ _
 obtain ⟨h1, h2, h3, h4, -⟩ := PT.out
 have HF2 := hid (show Vf w1 vb V p B x (ud X10 1 (.slice (some ⟨g, 0, none⟩) (nn 1 + 16) cap)) (ud (ud (nn) 0 (nn 0 + 16)) 1 (nn 1 + 16)) (ud (ud (c) 0 (c 0 ++ ints ((p.ram.drop (k * 16)).take 16))) 1 (c 1 ++ ((p.slots.drop (k * 16)).take 16).flatMap (cf 7))) ls ts (w5.setCell ⟨x, 1, none⟩ (.slice (some ⟨g, 0, none⟩) (nn 1 + 16) cap)) from ⟨HF.out.va, h2, HF.out.hB, h1, h3, h4⟩)
 generalize w5.setCell ⟨x, 1, none⟩ _ = W11 at HF2 ⊢
 generalize ud X10 1 (.slice (some ⟨g, 0, none⟩) (nn 1 + 16) cap) = X11 at HF2
 clear h1 h2 h3 h4 PT HRUN BE5 hx5 cx5 fx5 R5 KR BD HF
 have HF := HF2
 clear HF2
 go_upto_region 2 with fail
 have cx : W11.cell? ⟨x, 2, none⟩ = some (X11 2) := (HF.out.b.b.c 2).trans (eight_at X11 2 (by omega))
 have KR := hid (fun W (hb : Below W11.heap.size W11 W) => show W.cell? ⟨x, 2, none⟩ = some (X11 2) ∧ W.cell? ⟨vb, 3, none⟩ = some (.slice (some ⟨b3, o3, none⟩) p.tasks.length k3) ∧ W.rangeAt b3 (o3 + k * 20) (cf 20 tk) from ⟨(hb.cell (World.block_lt_of_cell? _ _ cx)).trans cx, HC3.out W (btr HF.out.be hb), (by have := range_belowO (HZ3.out k hk3) (btr HF.out.be hb); rw [HTK.out] at this; exact this)⟩)
 have BD : Hid (Below W11.heap.size W11 W11.drew) := hid (below_drew W11 1)
 refine wp_region_H (R := fun W => W.cell? ⟨x, 2, none⟩ = some (X11 2) ∧ W.cell? ⟨vb, 3, none⟩ = some (.slice (some ⟨b3, o3, none⟩) p.tasks.length k3) ∧ W.rangeAt b3 (o3 + k * 20) (cf 20 tk)) [16] [0, 1, 2, 3, 4, 5, 6, 7, 8, 9, 10, 11] 5 (by kernel_rfl) (KR.out _ BD.out) (by kernel_rfl) (by kernel_rfl) (by kernel_rfl) (fun _ => ?_)
 clear cx
 repeat (first | ((with_reducible (show rd _ _ _ _ _ (11 :: _) _)); refine rd_y rfl (.agg (cf 20 tk).toArray) (yieldsIf_load_mid (by rfl) _ _ rfl b3 (o3 + k * 20) rfl (cf 20 tk) _ (fun _ h => h.2.2) Tryz.underlying61 rfl (by rw [cf_len]; exact info20)) (fun _ _ _ h => h) ?_; simp only [jj]) | (refine rd_st rfl (by rfl) (fun _ _ _ _ h => h) ?_; apply Exists.intro; refine ⟨fun W h => ?_, ?_⟩; (focus (obtain ⟨h1, h2, h3⟩ := h; go_simp; try rfl)); simp only [jj]))
 refine rd_nil ?_
 have BN := hid (show Below W11.heap.size W11 (W11.drew.alloc (.cells (cf 20 tk).toArray 61)) from btr BD.out (bal (Below.refl _ _) _))
 have CN := hid (show ∀ o, (W11.drew.alloc (.cells (cf 20 tk).toArray 61)).cell? ⟨W11.heap.size, o, none⟩ = ((cf 20 tk).toArray : Array Value)[o]? from cells_new W11.drew (cf 20 tk).toArray 61)
 refine wpAnyF_ready (rs := [12]) (by kernel_rfl) (by simp) (AllReadyF.cons rfl (fun K hK => ?_) AllReadyF.nil)
 have hfo := fold20 tk
 go_simp
 clear hfo
 refine hK.out _ (W11.drew.alloc (.cells (cf 20 tk).toArray 61)) trivial (fun _ => KR.out _ BN.out) (fun _ _ => ?_)
 clear hK K
 try simp only [jj]
 generalize (W11.drew.alloc (.cells (cf 20 tk).toArray 61)) = W4 at BN CN ⊢
 try simp only [show W11.drew.heap.size = W11.heap.size from rfl]
 generalize W11.heap.size = gb at CN ⊢
 obtain ⟨g, cap, w5, hrun, hvr, hkq, hat⟩ := Vr.app (i := 2) (T := 24) (z := .agg #[.int .i64 0, .int .i64 0, .int .i64 0, .int .i64 0, .int .i64 0, .int .i64 0, .int .i64 0, .int .i64 0, .int .i64 0, .int .i64 0, .int .i64 0, .int .i64 0, .int .i64 0, .int .i64 0, .int .i64 0, .int .i64 0, .int .i64 0, .int .i64 0, .int .i64 0, .int .i64 0]) (HF.out.next BN.out).b.r (Nat.le_trans HF.out.b.r.lo (Nat.le_of_lt (Nat.lt_of_lt_of_le HF.out.b.r.lt BN.out.size))) (by omega) Tryz.underlying24 infoRu rfl (by decide) (by decide) ⟨gb, 0, none⟩ 1 1 (cf 20 tk) (by rw [cf_len]; rfl) (fun j u hj => by rw [Addr.add_mid, Nat.zero_add, CN.out j]; simpa using hj) (cf_one 20 _) (by decide) (by have := HN.out 2 (by omega); exact (show nn 2 + 1 ≤ 1000 by omega))
 rw [show (ud (ud (nn) 0 (nn 0 + 16)) 1 (nn 1 + 16)) 2 = nn 2 from rfl] at hrun hvr
 rw [show (ud (ud (c) 0 (c 0 ++ ints ((p.ram.drop (k * 16)).take 16))) 1 (c 1 ++ ((p.slots.drop (k * 16)).take 16).flatMap (cf 7))) 2 = c 2 from rfl] at hvr
 have HRUN := hid hrun
 have BE5 := hid (show Below w1.heap.size w1 w5 from hkq.below (btr HF.out.be BN.out) (btr HF.out.be BN.out).size (fun k hk e => by have := (((HF.out.next BN.out).b.r.own 2 (by omega)).lt k e).1; have := HF.out.hB; omega))
 have hx5 : x < (W4).heap.size := (HF.out.next BN.out).b.r.lt
 have cx5 := (hkq.cell (p := ⟨x, 2, none⟩) hx5 (HF.out.b.r.nx 2 (by omega))).trans (KR.out _ BN.out).1
 have fx5 := (hkq.frozen (p := ⟨x, 2, none⟩) hx5 (HF.out.b.r.nx 2 (by omega))).trans ((HF.out.next BN.out).b.b.f 2)
 have R5 := hid (show w5.cell? ⟨x, 2, none⟩ = some (X11 2) ∧ w5.cell? ⟨vb, 3, none⟩ = some (.slice (some ⟨b3, o3, none⟩) p.tasks.length k3) ∧ w5.rangeAt b3 (o3 + k * 20) (cf 20 tk) from ⟨cx5, HC3.out w5 BE5.out, (by have := range_belowO (HZ3.out k hk3) BE5.out; rw [HTK.out] at this; exact this)⟩)
 have PT := hid ((HF.out.next BN.out).put (i := 2) (by omega) hvr hkq hat)
 clear hrun hvr hkq hat
 refine wpAnyF_ready (rs := [13]) (by kernel_rfl) (by simp) (AllReadyF.cons rfl (fun K hK => ?_) AllReadyF.nil)
 refine wp_appV _ _ 24 rfl (X11 2) (.slice (some ⟨gb, 0, none⟩) 1 1) _ rfl rfl HRUN.out ?_
 refine hK.out _ _ trivial (fun _ => R5.out) (fun _ _ => ?_)
 clear hK K
 simp only [jj]
 refine wpAnyF_groupS (by kernel_rfl) _ R5.out [14, 15] 1 _ _ (by kernel_rfl) ?_
 repeat (refine rd_st rfl (by rfl) (fun _ _ _ _ h => h) ?_; apply Exists.intro; refine ⟨fun W h => ?_, ?_⟩; (focus (clear h; go_simp; try rfl)); simp only [jj])
 refine rd_nil ?_
 refine wpAnyF_ready (rs := [16]) (by kernel_rfl) (by simp) (AllReadyF.cons rfl (fun K hK => ?_) AllReadyF.nil)
 go_simp
 refine hK.out _ _ trivial (notClean (by kernel_rfl)) (fun _ _ => ?_)
 clear hK K
 try simp only [jj]
 refine wpAnyF_done (by kernel_rfl) ?_ _
 obtain ⟨h1, h2, h3, h4, -⟩ := PT.out
 have HF2 := hid (show Vf w1 vb V p B x (ud X11 2 (.slice (some ⟨g, 0, none⟩) (nn 2 + 1) cap)) (ud (ud (ud (nn) 0 (nn 0 + 16)) 1 (nn 1 + 16)) 2 (nn 2 + 1)) (ud (ud (ud (c) 0 (c 0 ++ ints ((p.ram.drop (k * 16)).take 16))) 1 (c 1 ++ ((p.slots.drop (k * 16)).take 16).flatMap (cf 7))) 2 (c 2 ++ cf 20 tk)) ls ts (w5.setCell ⟨x, 2, none⟩ (.slice (some ⟨g, 0, none⟩) (nn 2 + 1) cap)) from ⟨HF.out.va, h2, HF.out.hB, h1, h3, h4⟩)
 generalize w5.setCell ⟨x, 2, none⟩ _ = W12 at HF2 ⊢
 generalize ud X11 2 (.slice (some ⟨g, 0, none⟩) (nn 2 + 1) cap) = X12 at HF2
 clear h1 h2 h3 h4 PT HRUN BE5 hx5 cx5 fx5 R5 KR BD HF BN CN
 have HF := HF2
 clear HF2
 go_upto_region 3 with fail
 have cx : W12.cell? ⟨x, 3, none⟩ = some (X12 3) := (HF.out.b.b.c 3).trans (eight_at X12 3 (by omega))
 have KR := hid (fun W (hb : Below W12.heap.size W12 W) => show W.cell? ⟨x, 3, none⟩ = some (X12 3) ∧ W.cell? ⟨vb, 1, none⟩ = some (.slice (some ⟨b1, o1, none⟩) p.kinds.length k1) ∧ W.cell? ⟨b1, o1 + k, none⟩ = some (.int .i64 kd) from ⟨(hb.cell (World.block_lt_of_cell? _ _ cx)).trans cx, HC1.out W (btr HF.out.be hb), (by have := (HZ1.out.below (btr HF.out.be hb)) k hk1; rw [HKD.out] at this; exact this)⟩)
 have BD : Hid (Below W12.heap.size W12 W12.drew) := hid (below_drew W12 1)
 refine wp_region_H (R := fun W => W.cell? ⟨x, 3, none⟩ = some (X12 3) ∧ W.cell? ⟨vb, 1, none⟩ = some (.slice (some ⟨b1, o1, none⟩) p.kinds.length k1) ∧ W.cell? ⟨b1, o1 + k, none⟩ = some (.int .i64 kd)) [16] [0, 1, 2, 3, 4, 5, 6, 7, 8, 9, 10, 11] 5 (by kernel_rfl) (KR.out _ BD.out) (by kernel_rfl) (by kernel_rfl) (by kernel_rfl) (fun _ => ?_)
 clear cx
 repeat (refine rd_st rfl (by rfl) (fun _ _ _ _ h => h) ?_; apply Exists.intro; refine ⟨fun W h => ?_, ?_⟩; (focus (obtain ⟨h1, h2, h3⟩ := h; go_simp; try rfl)); simp only [jj])
 refine rd_nil ?_
 have BN := hid (show Below W12.heap.size W12 (W12.drew.alloc (.cells #[.int .i64 kd] 3)) from btr BD.out (bal (Below.refl _ _) _))
 have CN := hid (show ∀ o, (W12.drew.alloc (.cells #[.int .i64 kd] 3)).cell? ⟨W12.heap.size, o, none⟩ = (#[.int .i64 kd] : Array Value)[o]? from cells_new W12.drew #[.int .i64 kd] 3)
 refine wpAnyF_ready (rs := [12]) (by kernel_rfl) (by simp) (AllReadyF.cons rfl (fun K hK => ?_) AllReadyF.nil)
 skip
 go_simp
 skip
 refine hK.out _ (W12.drew.alloc (.cells #[.int .i64 kd] 3)) trivial (fun _ => KR.out _ BN.out) (fun _ _ => ?_)
 clear hK K
 try simp only [jj]
 generalize (W12.drew.alloc (.cells #[.int .i64 kd] 3)) = W4 at BN CN ⊢
 try simp only [show W12.drew.heap.size = W12.heap.size from rfl]
 generalize W12.heap.size = gb at CN ⊢
 obtain ⟨g, cap, w5, hrun, hvr, hkq, hat⟩ := Vr.app (i := 3) (T := 22) (z := .int .i64 0) (HF.out.next BN.out).b.r (Nat.le_trans HF.out.b.r.lo (Nat.le_of_lt (Nat.lt_of_lt_of_le HF.out.b.r.lt BN.out.size))) (by omega) Tryz.underlying22 infoI rfl (by decide) (by decide) ⟨gb, 0, none⟩ 1 1 ([.int .i64 kd]) (rfl) (fun j u hj => by rw [Addr.add_mid, Nat.zero_add, CN.out j]; simpa using hj) (int1 _) (by decide) (by have := HN.out 3 (by omega); exact (show nn 3 + 1 ≤ 1000 by omega))
 rw [show (ud (ud (ud (nn) 0 (nn 0 + 16)) 1 (nn 1 + 16)) 2 (nn 2 + 1)) 3 = nn 3 from rfl] at hrun hvr
 rw [show (ud (ud (ud (c) 0 (c 0 ++ ints ((p.ram.drop (k * 16)).take 16))) 1 (c 1 ++ ((p.slots.drop (k * 16)).take 16).flatMap (cf 7))) 2 (c 2 ++ cf 20 tk)) 3 = c 3 from rfl] at hvr
 have HRUN := hid hrun
 have BE5 := hid (show Below w1.heap.size w1 w5 from hkq.below (btr HF.out.be BN.out) (btr HF.out.be BN.out).size (fun k hk e => by have := (((HF.out.next BN.out).b.r.own 3 (by omega)).lt k e).1; have := HF.out.hB; omega))
 have hx5 : x < (W4).heap.size := (HF.out.next BN.out).b.r.lt
 have cx5 := (hkq.cell (p := ⟨x, 3, none⟩) hx5 (HF.out.b.r.nx 3 (by omega))).trans (KR.out _ BN.out).1
 have fx5 := (hkq.frozen (p := ⟨x, 3, none⟩) hx5 (HF.out.b.r.nx 3 (by omega))).trans ((HF.out.next BN.out).b.b.f 3)
 have R5 := hid (show w5.cell? ⟨x, 3, none⟩ = some (X12 3) ∧ w5.cell? ⟨vb, 1, none⟩ = some (.slice (some ⟨b1, o1, none⟩) p.kinds.length k1) ∧ w5.cell? ⟨b1, o1 + k, none⟩ = some (.int .i64 kd) from ⟨cx5, HC1.out w5 BE5.out, (by have := (HZ1.out.below BE5.out) k hk1; rw [HKD.out] at this; exact this)⟩)
 have PT := hid ((HF.out.next BN.out).put (i := 3) (by omega) hvr hkq hat)
 clear hrun hvr hkq hat
 refine wpAnyF_ready (rs := [13]) (by kernel_rfl) (by simp) (AllReadyF.cons rfl (fun K hK => ?_) AllReadyF.nil)
 refine wp_appV _ _ 22 rfl (X12 3) (.slice (some ⟨gb, 0, none⟩) 1 1) _ rfl rfl HRUN.out ?_
 refine hK.out _ _ trivial (fun _ => R5.out) (fun _ _ => ?_)
 clear hK K
 simp only [jj]
 refine wpAnyF_groupS (by kernel_rfl) _ R5.out [14, 15] 1 _ _ (by kernel_rfl) ?_
 repeat (refine rd_st rfl (by rfl) (fun _ _ _ _ h => h) ?_; apply Exists.intro; refine ⟨fun W h => ?_, ?_⟩; (focus (clear h; go_simp; try rfl)); simp only [jj])
 refine rd_nil ?_
 refine wpAnyF_ready (rs := [16]) (by kernel_rfl) (by simp) (AllReadyF.cons rfl (fun K hK => ?_) AllReadyF.nil)
 go_simp
 refine hK.out _ _ trivial (notClean (by kernel_rfl)) (fun _ _ => ?_)
 clear hK K
 try simp only [jj]
 refine wpAnyF_done (by kernel_rfl) ?_ _
 obtain ⟨h1, h2, h3, h4, -⟩ := PT.out
 have HF2 := hid (show Vf w1 vb V p B x (ud X12 3 (.slice (some ⟨g, 0, none⟩) (nn 3 + 1) cap)) (ud (ud (ud (ud (nn) 0 (nn 0 + 16)) 1 (nn 1 + 16)) 2 (nn 2 + 1)) 3 (nn 3 + 1)) (ud (ud (ud (ud (c) 0 (c 0 ++ ints ((p.ram.drop (k * 16)).take 16))) 1 (c 1 ++ ((p.slots.drop (k * 16)).take 16).flatMap (cf 7))) 2 (c 2 ++ cf 20 tk)) 3 (c 3 ++ [.int .i64 kd])) ls ts (w5.setCell ⟨x, 3, none⟩ (.slice (some ⟨g, 0, none⟩) (nn 3 + 1) cap)) from ⟨HF.out.va, h2, HF.out.hB, h1, h3, h4⟩)
 generalize w5.setCell ⟨x, 3, none⟩ _ = W13 at HF2 ⊢
 generalize ud X12 3 (.slice (some ⟨g, 0, none⟩) (nn 3 + 1) cap) = X13 at HF2
 clear h1 h2 h3 h4 PT HRUN BE5 hx5 cx5 fx5 R5 KR BD HF BN CN
 have HF := HF2
 clear HF2
 go_upto_region 4 with fail
 have cx : W13.cell? ⟨x, 4, none⟩ = some (X13 4) := (HF.out.b.b.c 4).trans (eight_at X13 4 (by omega))
 obtain ⟨lu, hl1, hli⟩ := (show ∃ lu, w1.cell? ⟨b4, o4 + k, none⟩ = some lu ∧ IntsIn W13 lu li by
  obtain ⟨lu, h1, h2⟩ := HZ4.out k hk4
  rw [HLI.out] at h2
  exact ⟨lu, h1, h2.below HF.out.be⟩)
 have HL1 := hid hl1
 clear hl1
 have HLU := hid hli
 clear hli
 have KR := hid (fun W (hb : Below W13.heap.size W13 W) => show W.cell? ⟨x, 4, none⟩ = some (X13 4) ∧ W.cell? ⟨vb, 4, none⟩ = some (.slice (some ⟨b4, o4, none⟩) p.lines.length k4) ∧ W.cell? ⟨b4, o4 + k, none⟩ = some lu from ⟨(hb.cell (World.block_lt_of_cell? _ _ cx)).trans cx, HC4.out W (btr HF.out.be hb), (((btr HF.out.be hb).cell (World.block_lt_of_cell? _ _ HL1.out)).trans HL1.out)⟩)
 have BD : Hid (Below W13.heap.size W13 W13.drew) := hid (below_drew W13 1)
 refine wp_region_H (R := fun W => W.cell? ⟨x, 4, none⟩ = some (X13 4) ∧ W.cell? ⟨vb, 4, none⟩ = some (.slice (some ⟨b4, o4, none⟩) p.lines.length k4) ∧ W.cell? ⟨b4, o4 + k, none⟩ = some lu) [17] [0, 1, 2, 3, 4, 5, 6, 7, 8, 9, 10, 11] 6 (by kernel_rfl) (KR.out _ BD.out) (by kernel_rfl) (by kernel_rfl) (by kernel_rfl) (fun _ => ?_)
 clear cx
 repeat (refine rd_st rfl (by rfl) (fun _ _ _ _ h => h) ?_; apply Exists.intro; refine ⟨fun W h => ?_, ?_⟩; (focus (obtain ⟨h1, h2, h3⟩ := h; go_simp; try rfl)); simp only [jj])
 refine rd_nil ?_
 refine wpAnyF_ready (rs := [12]) (by kernel_rfl) (by simp) (AllReadyF.cons rfl (fun K hK => ?_) AllReadyF.nil)
 rw [if_pos (by rfl)]
 go_simp
 refine (clone_ints lu (li) _ (HLU.out.below BD.out) (by rw [← HLI.out]; exact HF.out.va.f.line _ (List.getElem_mem _))).mono ?_
 rintro r w2 ⟨cu, rfl, hcu, hb2⟩
 obtain ⟨cq, cp, hcv⟩ := own_formP hcu
 subst hcv
 have B2 := hid (btr BD.out hb2)
 have HCO := hid (show (Value.slice cq li.length cp).oneCell' = true from rfl)
 have IN2 := hid (inn_new (x := x) (X := X13) hcu HF.out.b.r.lt (fun i hi k e => ((HF.out.b.r.own i hi).lt k e).2))
 have HCU := hid hcu
 refine hK.out _ _ trivial (fun _ => KR.out _ B2.out) (fun _ _ => ?_)
 clear hK K hcu hb2
 try simp only [jj]
 have BN := hid (show Below W13.heap.size W13 (w2.alloc (.cells #[.slice cq li.length cp] 22)) from btr B2.out (bal (Below.refl _ _) _))
 have CN := hid (show ∀ o, (w2.alloc (.cells #[.slice cq li.length cp] 22)).cell? ⟨w2.heap.size, o, none⟩ = (#[.slice cq li.length cp] : Array Value)[o]? from cells_new w2 #[.slice cq li.length cp] 22)
 refine wpAnyF_ready (rs := [13]) (by kernel_rfl) (by simp) (AllReadyF.cons rfl (fun K hK => ?_) AllReadyF.nil)
 skip
 go_simp
 skip
 refine hK.out _ (w2.alloc (.cells #[.slice cq li.length cp] 22)) trivial (fun _ => KR.out _ BN.out) (fun _ _ => ?_)
 clear hK K
 try simp only [jj]
 have IN4 := hid (show Inn (w2.alloc (.cells #[.slice cq li.length cp] 22)) x X13 (.slice cq li.length cp) li from IN2.out.next (bal (Below.refl _ _) _))
 generalize (w2.alloc (.cells #[.slice cq li.length cp] 22)) = W4 at BN CN IN4 ⊢
 try simp only [show W13.drew.heap.size = W13.heap.size from rfl]
 generalize w2.heap.size = gb at CN ⊢
 obtain ⟨g, cap, w5, hrun, hvr, hkq, hat⟩ := Vr.app (i := 4) (T := 25) (z := .slice none 0 0) (HF.out.next BN.out).b.r (Nat.le_trans HF.out.b.r.lo (Nat.le_of_lt (Nat.lt_of_lt_of_le HF.out.b.r.lt BN.out.size))) (by omega) Tryz.underlying25 infoL rfl (by decide) (by decide) ⟨gb, 0, none⟩ 1 1 ([.slice cq li.length cp]) (rfl) (fun j u hj => by rw [Addr.add_mid, Nat.zero_add, CN.out j]; simpa using hj) (fun u hu => by obtain rfl := List.mem_singleton.1 hu; exact HCO.out) (by decide) (by have := HN.out 4 (by omega); exact (show nn 4 + 1 ≤ 1000 by omega))
 rw [show (ud (ud (ud (ud (nn) 0 (nn 0 + 16)) 1 (nn 1 + 16)) 2 (nn 2 + 1)) 3 (nn 3 + 1)) 4 = nn 4 from rfl] at hrun hvr
 rw [show (ud (ud (ud (ud (c) 0 (c 0 ++ ints ((p.ram.drop (k * 16)).take 16))) 1 (c 1 ++ ((p.slots.drop (k * 16)).take 16).flatMap (cf 7))) 2 (c 2 ++ cf 20 tk)) 3 (c 3 ++ [.int .i64 kd])) 4 = c 4 from rfl] at hvr
 have HRUN := hid hrun
 have BE5 := hid (show Below w1.heap.size w1 w5 from hkq.below (btr HF.out.be BN.out) (btr HF.out.be BN.out).size (fun k hk e => by have := (((HF.out.next BN.out).b.r.own 4 (by omega)).lt k e).1; have := HF.out.hB; omega))
 have hx5 : x < (W4).heap.size := (HF.out.next BN.out).b.r.lt
 have cx5 := (hkq.cell (p := ⟨x, 4, none⟩) hx5 (HF.out.b.r.nx 4 (by omega))).trans (KR.out _ BN.out).1
 have fx5 := (hkq.frozen (p := ⟨x, 4, none⟩) hx5 (HF.out.b.r.nx 4 (by omega))).trans ((HF.out.next BN.out).b.b.f 4)
 have R5 := hid (show w5.cell? ⟨x, 4, none⟩ = some (X13 4) ∧ w5.cell? ⟨vb, 4, none⟩ = some (.slice (some ⟨b4, o4, none⟩) p.lines.length k4) ∧ w5.cell? ⟨b4, o4 + k, none⟩ = some lu from ⟨cx5, HC4.out w5 BE5.out, ((BE5.out.cell (World.block_lt_of_cell? _ _ HL1.out)).trans HL1.out)⟩)
 have PT := hid ((HF.out.next BN.out).put (i := 4) (by omega) hvr hkq hat)
 have IN6 := hid (IN4.out.grow (v := .slice (some ⟨g, 0, none⟩) (nn 4 + 1) cap) (i := 4) (by omega) PT.out.2.2.2.2 rfl (by rcases hat with h | h; exact .inl h; exact .inr (Nat.le_of_eq h.symm)))
 clear hrun hvr hkq hat
 refine wpAnyF_ready (rs := [14]) (by kernel_rfl) (by simp) (AllReadyF.cons rfl (fun K hK => ?_) AllReadyF.nil)
 refine wp_appV _ _ 25 rfl (X13 4) (.slice (some ⟨gb, 0, none⟩) 1 1) _ rfl rfl HRUN.out ?_
 refine hK.out _ _ trivial (fun _ => R5.out) (fun _ _ => ?_)
 clear hK K
 simp only [jj]
 refine wpAnyF_groupS (by kernel_rfl) _ R5.out [15, 16] 1 _ _ (by kernel_rfl) ?_
 repeat (refine rd_st rfl (by rfl) (fun _ _ _ _ h => h) ?_; apply Exists.intro; refine ⟨fun W h => ?_, ?_⟩; (focus (clear h; go_simp; try rfl)); simp only [jj])
 refine rd_nil ?_
 refine wpAnyF_ready (rs := [17]) (by kernel_rfl) (by simp) (AllReadyF.cons rfl (fun K hK => ?_) AllReadyF.nil)
 go_simp
 refine hK.out _ _ trivial (notClean (by kernel_rfl)) (fun _ _ => ?_)
 clear hK K
 try simp only [jj]
 refine wpAnyF_done (by kernel_rfl) ?_ _
 obtain ⟨h1, h2, h3, h4, -⟩ := PT.out
 have HF2 := hid (show Vf w1 vb V p B x (ud X13 4 (.slice (some ⟨g, 0, none⟩) (nn 4 + 1) cap)) (ud (ud (ud (ud (ud (nn) 0 (nn 0 + 16)) 1 (nn 1 + 16)) 2 (nn 2 + 1)) 3 (nn 3 + 1)) 4 (nn 4 + 1)) (ud (ud (ud (ud (ud (c) 0 (c 0 ++ ints ((p.ram.drop (k * 16)).take 16))) 1 (c 1 ++ ((p.slots.drop (k * 16)).take 16).flatMap (cf 7))) 2 (c 2 ++ cf 20 tk)) 3 (c 3 ++ [.int .i64 kd])) 4 (c 4 ++ [.slice cq li.length cp])) (ls ++ [li]) ts (w5.setCell ⟨x, 4, none⟩ (.slice (some ⟨g, 0, none⟩) (nn 4 + 1) cap)) from ⟨HF.out.va, h2, HF.out.hB, h1, (show Ls _ x _ ((ud (ud (ud (ud (ud (c) 0 (c 0 ++ ints ((p.ram.drop (k * 16)).take 16))) 1 (c 1 ++ ((p.slots.drop (k * 16)).take 16).flatMap (cf 7))) 2 (c 2 ++ cf 20 tk)) 3 (c 3 ++ [.int .i64 kd])) 4 (c 4 ++ [.slice cq li.length cp])) 4) _ from h3.more IN6.out), h4⟩)
 generalize w5.setCell ⟨x, 4, none⟩ _ = W14 at HF2 ⊢
 generalize ud X13 4 (.slice (some ⟨g, 0, none⟩) (nn 4 + 1) cap) = X14 at HF2
 clear h1 h2 h3 h4 PT HRUN BE5 hx5 cx5 fx5 R5 KR BD HF BN CN B2 HCU HCO HLU IN2 IN4 IN6 HL1
 have HF := HF2
 clear HF2
 go_upto_region 5 with fail
 have cx : W14.cell? ⟨x, 5, none⟩ = some (X14 5) := (HF.out.b.b.c 5).trans (eight_at X14 5 (by omega))
 have KR := hid (fun W (hb : Below W14.heap.size W14 W) => show W.cell? ⟨x, 5, none⟩ = some (X14 5) ∧ W.cell? ⟨vb, 5, none⟩ = some (.slice (some ⟨b5, o5, none⟩) p.bits.length k5) ∧ W.cell? ⟨b5, o5 + k, none⟩ = some (.int .i64 bt) from ⟨(hb.cell (World.block_lt_of_cell? _ _ cx)).trans cx, HC5.out W (btr HF.out.be hb), (by have := (HZ5.out.below (btr HF.out.be hb)) k hk5; rw [HBT.out] at this; exact this)⟩)
 have BD : Hid (Below W14.heap.size W14 W14.drew) := hid (below_drew W14 1)
 refine wp_region_H (R := fun W => W.cell? ⟨x, 5, none⟩ = some (X14 5) ∧ W.cell? ⟨vb, 5, none⟩ = some (.slice (some ⟨b5, o5, none⟩) p.bits.length k5) ∧ W.cell? ⟨b5, o5 + k, none⟩ = some (.int .i64 bt)) [16] [0, 1, 2, 3, 4, 5, 6, 7, 8, 9, 10, 11] 5 (by kernel_rfl) (KR.out _ BD.out) (by kernel_rfl) (by kernel_rfl) (by kernel_rfl) (fun _ => ?_)
 clear cx
 repeat (refine rd_st rfl (by rfl) (fun _ _ _ _ h => h) ?_; apply Exists.intro; refine ⟨fun W h => ?_, ?_⟩; (focus (obtain ⟨h1, h2, h3⟩ := h; go_simp; try rfl)); simp only [jj])
 refine rd_nil ?_
 have BN := hid (show Below W14.heap.size W14 (W14.drew.alloc (.cells #[.int .i64 bt] 3)) from btr BD.out (bal (Below.refl _ _) _))
 have CN := hid (show ∀ o, (W14.drew.alloc (.cells #[.int .i64 bt] 3)).cell? ⟨W14.heap.size, o, none⟩ = (#[.int .i64 bt] : Array Value)[o]? from cells_new W14.drew #[.int .i64 bt] 3)
 refine wpAnyF_ready (rs := [12]) (by kernel_rfl) (by simp) (AllReadyF.cons rfl (fun K hK => ?_) AllReadyF.nil)
 skip
 go_simp
 skip
 refine hK.out _ (W14.drew.alloc (.cells #[.int .i64 bt] 3)) trivial (fun _ => KR.out _ BN.out) (fun _ _ => ?_)
 clear hK K
 try simp only [jj]
 generalize (W14.drew.alloc (.cells #[.int .i64 bt] 3)) = W4 at BN CN ⊢
 try simp only [show W14.drew.heap.size = W14.heap.size from rfl]
 generalize W14.heap.size = gb at CN ⊢
 obtain ⟨g, cap, w5, hrun, hvr, hkq, hat⟩ := Vr.app (i := 5) (T := 22) (z := .int .i64 0) (HF.out.next BN.out).b.r (Nat.le_trans HF.out.b.r.lo (Nat.le_of_lt (Nat.lt_of_lt_of_le HF.out.b.r.lt BN.out.size))) (by omega) Tryz.underlying22 infoI rfl (by decide) (by decide) ⟨gb, 0, none⟩ 1 1 ([.int .i64 bt]) (rfl) (fun j u hj => by rw [Addr.add_mid, Nat.zero_add, CN.out j]; simpa using hj) (int1 _) (by decide) (by have := HN.out 5 (by omega); exact (show nn 5 + 1 ≤ 1000 by omega))
 rw [show (ud (ud (ud (ud (ud (nn) 0 (nn 0 + 16)) 1 (nn 1 + 16)) 2 (nn 2 + 1)) 3 (nn 3 + 1)) 4 (nn 4 + 1)) 5 = nn 5 from rfl] at hrun hvr
 rw [show (ud (ud (ud (ud (ud (c) 0 (c 0 ++ ints ((p.ram.drop (k * 16)).take 16))) 1 (c 1 ++ ((p.slots.drop (k * 16)).take 16).flatMap (cf 7))) 2 (c 2 ++ cf 20 tk)) 3 (c 3 ++ [.int .i64 kd])) 4 (c 4 ++ [.slice cq li.length cp])) 5 = c 5 from rfl] at hvr
 have HRUN := hid hrun
 have BE5 := hid (show Below w1.heap.size w1 w5 from hkq.below (btr HF.out.be BN.out) (btr HF.out.be BN.out).size (fun k hk e => by have := (((HF.out.next BN.out).b.r.own 5 (by omega)).lt k e).1; have := HF.out.hB; omega))
 have hx5 : x < (W4).heap.size := (HF.out.next BN.out).b.r.lt
 have cx5 := (hkq.cell (p := ⟨x, 5, none⟩) hx5 (HF.out.b.r.nx 5 (by omega))).trans (KR.out _ BN.out).1
 have fx5 := (hkq.frozen (p := ⟨x, 5, none⟩) hx5 (HF.out.b.r.nx 5 (by omega))).trans ((HF.out.next BN.out).b.b.f 5)
 have R5 := hid (show w5.cell? ⟨x, 5, none⟩ = some (X14 5) ∧ w5.cell? ⟨vb, 5, none⟩ = some (.slice (some ⟨b5, o5, none⟩) p.bits.length k5) ∧ w5.cell? ⟨b5, o5 + k, none⟩ = some (.int .i64 bt) from ⟨cx5, HC5.out w5 BE5.out, (by have := (HZ5.out.below BE5.out) k hk5; rw [HBT.out] at this; exact this)⟩)
 have PT := hid ((HF.out.next BN.out).put (i := 5) (by omega) hvr hkq hat)
 clear hrun hvr hkq hat
 refine wpAnyF_ready (rs := [13]) (by kernel_rfl) (by simp) (AllReadyF.cons rfl (fun K hK => ?_) AllReadyF.nil)
 refine wp_appV _ _ 22 rfl (X14 5) (.slice (some ⟨gb, 0, none⟩) 1 1) _ rfl rfl HRUN.out ?_
 refine hK.out _ _ trivial (fun _ => R5.out) (fun _ _ => ?_)
 clear hK K
 simp only [jj]
 refine wpAnyF_groupS (by kernel_rfl) _ R5.out [14, 15] 1 _ _ (by kernel_rfl) ?_
 repeat (refine rd_st rfl (by rfl) (fun _ _ _ _ h => h) ?_; apply Exists.intro; refine ⟨fun W h => ?_, ?_⟩; (focus (clear h; go_simp; try rfl)); simp only [jj])
 refine rd_nil ?_
 refine wpAnyF_ready (rs := [16]) (by kernel_rfl) (by simp) (AllReadyF.cons rfl (fun K hK => ?_) AllReadyF.nil)
 go_simp
 refine hK.out _ _ trivial (notClean (by kernel_rfl)) (fun _ _ => ?_)
 clear hK K
 try simp only [jj]
 refine wpAnyF_done (by kernel_rfl) ?_ _
 obtain ⟨h1, h2, h3, h4, -⟩ := PT.out
 have HF2 := hid (show Vf w1 vb V p B x (ud X14 5 (.slice (some ⟨g, 0, none⟩) (nn 5 + 1) cap)) (ud (ud (ud (ud (ud (ud (nn) 0 (nn 0 + 16)) 1 (nn 1 + 16)) 2 (nn 2 + 1)) 3 (nn 3 + 1)) 4 (nn 4 + 1)) 5 (nn 5 + 1)) (ud (ud (ud (ud (ud (ud (c) 0 (c 0 ++ ints ((p.ram.drop (k * 16)).take 16))) 1 (c 1 ++ ((p.slots.drop (k * 16)).take 16).flatMap (cf 7))) 2 (c 2 ++ cf 20 tk)) 3 (c 3 ++ [.int .i64 kd])) 4 (c 4 ++ [.slice cq li.length cp])) 5 (c 5 ++ [.int .i64 bt])) (ls ++ [li]) ts (w5.setCell ⟨x, 5, none⟩ (.slice (some ⟨g, 0, none⟩) (nn 5 + 1) cap)) from ⟨HF.out.va, h2, HF.out.hB, h1, h3, h4⟩)
 generalize w5.setCell ⟨x, 5, none⟩ _ = W15 at HF2 ⊢
 generalize ud X14 5 (.slice (some ⟨g, 0, none⟩) (nn 5 + 1) cap) = X15 at HF2
 clear h1 h2 h3 h4 PT HRUN BE5 hx5 cx5 fx5 R5 KR BD HF BN CN
 have HF := HF2
 clear HF2
 go_wp2_with fail
 exact bodyPost_end (results_none rfl _ _ _) rfl ⟨rfl, X15, .slice cq li.length cp, HF.out⟩
/-- What the closure has captured: the leasts' variable, the part's. -/
structure Cp (W : World) (pl pp g n : Nat) (part : Int) (L : List Int) : Prop where
 l : W.cell? ⟨pl, 0, none⟩ = some (.slice (some ⟨g, 0, none⟩) n n)
 p : W.cell? ⟨pp, 0, none⟩ = some (.int .i64 part)
 m : IntsAt W g 0 L
 n : L.length = n
theorem Cp.below {W W' : World} {pl pp g n : Nat} {part : Int} {L : List Int} (h : Cp W pl pp g n part L) (hb : Below W.heap.size W W') : Cp W' pl pp g n part L :=
 ⟨(hb.cell (World.block_lt_of_cell? _ _ h.l)).trans h.l, (hb.cell (World.block_lt_of_cell? _ _ h.p)).trans h.p, h.m.below hb, h.n⟩
set_option maxHeartbeats 2000000 in
theorem isOf_any (pl pp g n f : Nat) (part : Int) (L : List Int) (w : World) (h : Cp w pl pp g n part L) (hf : f < n) :
  Calls Tryz.prog 26 #[.int .i64 f, .pointer (some ⟨pl, 0, none⟩), .pointer (some ⟨pp, 0, none⟩)] w fun r w' => r = .returned (.bool (lv L f == part)) ∧ ∃ n, w' = w.drewN n := by
 have c1 := h.l
 have c2 := h.p
 have c3 : w.cell? ⟨g, f, none⟩ = some (.int .i64 (lv L f)) := by
  have := h.m f (by rw [h.n]; exact hf)
  rw [Nat.zero_add] at this
  rw [this]
  unfold lv
  rw [getD_i]
 have hf2 : (f : Int) < (n : Int) := by omega
 generalize lv L f = x at c3 ⊢
 clear h
 go_enter Tryz.func26, Tryz.ntmps26
 go_wp2_with fail
 go_quiet (fail)
 go_wp2_with fail
 go_ret
 exact ⟨rfl, nq, rfl⟩
/-- Those of a list that are of the part. -/
def thL (L : List Int) (part : Int) (l : List Int) : List Int := l.filter fun z => lv L z.toNat == part
theorem thL_succ (L : List Int) (part : Int) (l : List Int) (k : Nat) (h : k < l.length) : thL L part (l.take (k + 1)) = thL L part (l.take k) ++ if (lv L l[k].toNat == part) = true then [l[k]] else [] := by
 unfold thL
 rw [List.take_succ_eq_append_getElem h, List.filter_append]
 cases hb : lv L l[k].toNat == part <;> simp [hb]
theorem thL_len (L : List Int) (part : Int) (l : List Int) : (thL L part l).length ≤ l.length := List.length_filter_le _ _
set_option maxRecDepth 100000 in
set_option maxHeartbeats 4000000 in
theorem those_any (v : Value) (l : List Int) (pl pp g n : Nat) (part : Int) (L : List Int) (w : World) (hv : IntsIn w v l) (hl : l.length ≤ 1000) (hin : ∀ z ∈ l, ∃ f : Nat, f < n ∧ z = f) (h : Cp w pl pp g n part L) :
  Calls Tryz.prog 52 #[v, .func (.func 26) #[] #[.pointer (some ⟨pl, 0, none⟩), .pointer (some ⟨pp, 0, none⟩)]] w fun r w' => ∃ u, r = .returned u ∧ w'.ownsRow w.heap.size 3 1 u (thL L part l).length (ints (thL L part l)) ∧ Below w.heap.size w w' := by
 obtain ⟨q, b, off, cap, rfl, hq, hz⟩ := hv
 have HQ := hid hq
 have HZ := hid hz
 have HI := hid hin
 have HP := hid h
 have hl2 : (l.length : Int) ≤ 1000 := by omega
 clear hq hz hin h
 go_enter Tryz.func52, Tryz.ntmps52
 go_wp2_with fail
 go_loopw [5, 10] (fun u i wr => ∃ (k : Nat) (qu : Option Addr) (cu : Nat), k ≤ l.length ∧ i = .int .i64 k ∧ u = .slice qu (thL L part (l.take k)).length cu ∧ Hid (wr.ownsRow w.heap.size 3 1 (.slice qu (thL L part (l.take k)).length cu) (thL L part (l.take k)).length (ints (thL L part (l.take k)))) ∧ Hid (Below w.heap.size w wr)) (fun _ i _ => l.length - (intOf i).toNat)
 case atStart => exact ⟨0, none, 0, by omega, rfl, rfl, hid (World.ownsRow_nil _ _ _ _), hid (Below.refl _ _)⟩
 case round =>
  obtain ⟨k, qu, cu, hk, rfl, rfl, HO, HB⟩ := hrel
  by_cases hlt : k < l.length
  rotate_left
  ·obtain rfl : l.length = k := by omega
   have hge : ¬ ((l.length : Int) < (l.length : Int)) := by omega
   go_wp2_with fail
   go_ret
   refine ⟨_, rfl, ?_, HB.out⟩
   have := HO.out
   rw [List.take_length] at this
   exact this
  have hlt2 : (k : Int) < (l.length : Int) := by omega
  obtain rfl := HQ.out (by omega)
  have cz := (HZ.out.below HB.out) k hlt
  have HS := hid (thL_succ L part l k hlt)
  have HLN := hid (show (thL L part (l.take k)).length ≤ 1000 from Nat.le_trans (thL_len _ _ _) (by rw [List.length_take]; omega))
  obtain ⟨f, hf, hfe⟩ := HI.out l[k] (List.getElem_mem hlt)
  rw [hfe] at cz HS
  rw [Int.toNat_natCast] at HS
  have HC := hid (isOf_any pl pp g n f part L wr (HP.out.below HB.out) hf)
  clear hfe
  generalize thL L part (l.take k) = zs at HO HS HLN ⊢
  go_wp2_with fail
  refine HC.out.mono ?_
  rintro r w3 ⟨rfl, nd, rfl⟩
  have B3 := hid (btr HB.out (below_drewN (Below.refl wr.heap.size wr) nd))
  have O3 := hid (own_below HO.out (below_drewN (Below.refl wr.heap.size wr) nd))
  clear HC HO HB cz
  cases hs : lv L f == part with
  | false =>
   rw [hs, if_neg (by decide), List.append_nil] at HS
   clear hs
   go_wp2_with fail
   refine ⟨⟨k + 1, qu, cu, by omega, by go_num, by rw [HS.out], hid (by rw [HS.out]; exact O3.out), B3⟩, by simp [intOf]; omega⟩
  | true =>
   rw [hs, if_pos rfl] at HS
   generalize wr.drewN nd = w4 at *
   obtain ⟨q', c', w', hr, h2, h3⟩ := app_i (y := (f : Int)) B3.out HLN.out O3.out
   have HR := hid hr
   have HNN := hid h2
   have HBB := hid h3
   clear hr h2 h3 hs
   go_wp2_with (first | (at_builtin; refine wpList_appP rfl _ _ 22 rfl (.slice qu zs.length cu) (.slice (some ⟨w4.heap.size, 0, none⟩) 1 1) (.slice q' (zs.length + 1) c') rfl rfl HR.out ?_))
   exact ⟨⟨k + 1, q', c', by omega, by go_num, by rw [HS.out, List.length_append]; rfl, hid (by rw [HS.out]; have := HNN.out; rw [List.length_append] at this ⊢; exact this), HBB⟩, by simp [intOf]; omega⟩
/-- The frames of a part, of the first so many. -/
def frL (L : List Int) (part : Int) (k : Nat) : List Nat := (List.range k).filter fun f => lv L f == part
theorem frL_succ (L : List Int) (part : Int) (k : Nat) : frL L part (k + 1) = frL L part k ++ if (lv L k == part) = true then [k] else [] := by
 unfold frL
 rw [List.range_succ, List.filter_append]
 cases hb : lv L k == part <;> simp [hb]
theorem frL_len (L : List Int) (part : Int) (k : Nat) : (frL L part k).length ≤ k := by
 unfold frL
 exact Nat.le_trans (List.length_filter_le _ _) (by rw [List.length_range]; exact Nat.le_refl _)
/-- What a view's eight lists hold: of these frames, with these turns (as they lie), and who runs. -/
def cV (p : PW) (fr : List Nat) (us ts : List Value) (rs : List Int) : Nat → List Value
 | 0 => ints (fr.flatMap fun f => (p.ram.drop (f * 16)).take 16)
 | 1 => (fr.flatMap fun f => (p.slots.drop (f * 16)).take 16).flatMap (cf 7)
 | 2 => (fr.map fun f => p.tasks.getD f z0).flatMap (cf 20)
 | 3 => ints (fr.map fun f => p.kinds.getD f 0)
 | 4 => us
 | 5 => ints (fr.map fun f => p.bits.getD f 0)
 | 6 => ts
 | 7 => ints rs
 | _ => []
def nV (fr : List Nat) (a b : Nat) : Nat → Nat
 | 0 => fr.length * 16
 | 1 => fr.length * 16
 | 6 => a
 | 7 => b
 | _ => fr.length
theorem cV_add (p : PW) (fr : List Nat) (us ts : List Value) (rs : List Int) (k : Nat) (u : Value) (i : Nat) (hi : i < 8) : cA ((p.ram.drop (k * 16)).take 16) ((p.slots.drop (k * 16)).take 16) (p.tasks.getD k z0) (p.kinds.getD k 0) u (p.bits.getD k 0) (cV p fr us ts rs) i = cV p (fr ++ [k]) (us ++ [u]) ts rs i := by
 match i, hi with
 | 0, _ => show ints _ ++ ints _ = ints _; rw [List.flatMap_append]; unfold ints; simp
 | 1, _ => show List.flatMap (cf 7) _ ++ _ = List.flatMap (cf 7) _; rw [List.flatMap_append, List.flatMap_append]; simp
 | 2, _ => show List.flatMap (cf 20) _ ++ _ = List.flatMap (cf 20) _; rw [List.map_append, List.flatMap_append]; simp
 | 3, _ => show ints _ ++ _ = ints _; rw [List.map_append]; unfold ints; simp
 | 4, _ => rfl
 | 5, _ => show ints _ ++ _ = ints _; rw [List.map_append]; unfold ints; simp
 | 6, _ => rfl
 | 7, _ => rfl
 | _ + 8, h => omega
theorem nV_add (fr : List Nat) (a b k : Nat) (i : Nat) (hi : i < 8) : nA (nV fr a b) i = nV (fr ++ [k]) a b i := by
 match i, hi with
 | 0, _ => show fr.length * 16 + 16 = _ * 16; rw [List.length_append]; simp; omega
 | 1, _ => show fr.length * 16 + 16 = _ * 16; rw [List.length_append]; simp; omega
 | 2, _ => show fr.length + 1 = (fr ++ [k]).length; rw [List.length_append]; rfl
 | 3, _ => show fr.length + 1 = (fr ++ [k]).length; rw [List.length_append]; rfl
 | 4, _ => show fr.length + 1 = (fr ++ [k]).length; rw [List.length_append]; rfl
 | 5, _ => show fr.length + 1 = (fr ++ [k]).length; rw [List.length_append]; rfl
 | 6, _ => rfl
 | 7, _ => rfl
 | _ + 8, h => omega
theorem Vf.ext {w1 : World} {vb : Nat} {V : Nat → Value} {p : PW} {B x : Nat} {X : Nat → Value} {nn nn' : Nat → Nat} {c c' : Nat → List Value} {ls ts : List (List Int)} {W : World} (h : Vf w1 vb V p B x X nn c ls ts W) (hn : ∀ i, i < 8 → nn i = nn' i) (hc : ∀ i, i < 8 → c i = c' i) : Vf w1 vb V p B x X nn' c' ls ts W :=
 ⟨h.va, h.be, h.hB, ⟨⟨h.b.r.lo, h.b.r.lt, fun i hi => by rw [← hn i hi, ← hc i hi]; exact h.b.r.own i hi, h.b.r.dj, h.b.r.nx⟩, h.b.b⟩, by rw [← hc 4 (by omega)]; exact h.l, by rw [← hc 6 (by omega)]; exact h.t⟩
theorem ready_fr {p : PW} (h : Snd p) {j : Nat} (hj : j < p.ready.length) : ∀ z ∈ p.ready[j], ∃ f : Nat, f < p.kinds.length ∧ z = f := fun z hz => by
 have h1 : brB p j p.ready[j] = false := h.b8 j hj
 unfold brB at h1
 rw [List.any_eq_false] at h1
 have h2 := h1 z hz
 cases h3 : rdB p z ((j : Int) / 4) with
 | false => unfold rpB at h2; rw [h3] at h2; simp at h2
 | true =>
  obtain ⟨f, hf, hf2⟩ := rdB_in h3
  exact ⟨f, hf2, hf⟩
theorem cores_fr {p : PW} (h : Snd p) {j : Nat} (hj : j < p.cores.length) : p.cores[j] = -1 ∨ ∃ f : Nat, f < p.kinds.length ∧ p.cores[j] = f := by
 have h1 : bcB p j p.cores[j] = false := h.b7 j hj
 unfold bcB at h1
 generalize p.cores[j] = t at h1 ⊢
 by_cases ht : t = -1
 ·exact .inl ht
 ·right
  have h2 : (t == -1) = false := by simpa using ht
  rw [h2] at h1
  cases h3 : rdB p t j with
  | false => rw [h3] at h1; cases h1
  | true =>
   obtain ⟨f, hf, hf2⟩ := rdB_in h3
   exact ⟨f, hf2, hf⟩
/-- Who runs, if he is of the part. -/
def rnV (L : List Int) (part t : Int) : Int := if t = -1 then -1 else if (lv L t.toNat == part) = true then t else -1
theorem vf_0 (w : World) (vb : Nat) (V : Nat → Value) (p : PW) (hv : ViewAt w vb V p) : Vf (w.alloc (.cells #[.slice none 0 0, .slice none 0 0, .slice none 0 0, .slice none 0 0, .slice none 0 0, .slice none 0 0, .slice none 0 0, .slice none 0 0] 43)) vb V p (w.heap.size + 1) (w.heap.size + 1) (fun _ => .slice none 0 0) (nV [] 0 0) (cV p [] [] [] []) [] [] ((w.alloc (.cells #[.slice none 0 0, .slice none 0 0, .slice none 0 0, .slice none 0 0, .slice none 0 0, .slice none 0 0, .slice none 0 0, .slice none 0 0] 43)).alloc (.cells #[.slice none 0 0, .slice none 0 0, .slice none 0 0, .slice none 0 0, .slice none 0 0, .slice none 0 0, .slice none 0 0, .slice none 0 0] 43)) := by
 have s1 : (w.alloc (.cells #[.slice none 0 0, .slice none 0 0, .slice none 0 0, .slice none 0 0, .slice none 0 0, .slice none 0 0, .slice none 0 0, .slice none 0 0] 43)).heap.size = w.heap.size + 1 := by simp
 refine ⟨hv.below (bal (Below.refl _ _) _), bal (Below.refl _ _) _, by rw [s1]; exact Nat.le_refl _, ⟨⟨Nat.le_refl _, by simp, fun i hi => ?_, fun i j hi hj hij k e => ?_, fun i hi e => ?_⟩, ⟨fun o => ?_, fun o => World.frozen?_alloc_at _ _ _ _ (by rw [s1]), by simp⟩⟩, ⟨rfl, fun j u l h => by simp [cV] at h⟩, ⟨rfl, fun j u l h => by simp [cV] at h⟩⟩
 ·have e1 : nV [] 0 0 i = 0 := by match i, hi with
   | 0, _ => rfl
   | 1, _ => rfl
   | 2, _ => rfl
   | 3, _ => rfl
   | 4, _ => rfl
   | 5, _ => rfl
   | 6, _ => rfl
   | 7, _ => rfl
   | _ + 8, h => omega
  have e2 : cV p [] [] [] [] i = [] := by match i, hi with
   | 0, _ => rfl
   | 1, _ => rfl
   | 2, _ => rfl
   | 3, _ => rfl
   | 4, _ => rfl
   | 5, _ => rfl
   | 6, _ => rfl
   | 7, _ => rfl
   | _ + 8, h => omega
  rw [e1, e2]
  exact World.ownsRow_nil _ _ _ _
 ·cases e
 ·cases e
 ·rw [cells_at _ #[.slice none 0 0, .slice none 0 0, .slice none 0 0, .slice none 0 0, .slice none 0 0, .slice none 0 0, .slice none 0 0, .slice none 0 0] 43 _ s1.symm o, List.getElem?_toArray]
  rfl
theorem kq_cells (w : World) (b : Nat) : ∀ (vs : List Value) (o : Nat), Kq (fun k => k = b) w (w.setCells b o vs)
 | vs, o => by
  suffices h : ∀ (vs : List Value) (o : Nat) (w' : World), Kq (fun k => k = b) w w' → Kq (fun k => k = b) w (w'.setCells b o vs) from h vs o w (Kq.refl _ _)
  intro vs
  induction vs with
  | nil => intro o w' h; exact h
  | cons v r ih => intro o w' h; rw [World.setCells]; exact ih (o + 1) _ (h.setCell (Or.inl rfl) v)
theorem vf_end {w w1 W W' : World} {vb : Nat} {V : Nat → Value} {p : PW} {X : Nat → Value} {nn : Nat → Nat} {c : Nat → List Value} {ls ts : List (List Int)} (hv : ViewAt w vb V p) (h : Vf w1 vb V p (w.heap.size + 1) (w.heap.size + 1) X nn c ls ts W) (hb : Below w.heap.size w W) (hk : Kq (fun k => k = w.heap.size) W W') : Vf w vb V p (w.heap.size + 1) (w.heap.size + 1) X nn c ls ts W' := by
 have g : ∀ us ls, Ls W (w.heap.size + 1) X us ls → Ls W' (w.heap.size + 1) X us ls := fun us ls h => ⟨h.1, fun j u l h1 h2 => by
  obtain ⟨q, b, off, cap, e1, e2, e3⟩ := h.2 j u l h1 h2
  rcases Nat.eq_zero_or_pos l.length with h0 | h0
  ·exact ⟨q, b, off, cap, e1, fun h => by omega, fun j hj => by omega⟩
  ·obtain ⟨f1, f2, f3, f4⟩ := e2 h0
   exact ⟨q, b, off, cap, e1, fun _ => ⟨f1, Nat.lt_of_lt_of_le f2 hk.size, f3, f4⟩, fun j hj => (hk.cell (p := ⟨b, off + j, none⟩) f2 (by show ¬ b = _; omega)).trans (e3 j hj)⟩⟩
 exact ⟨hv, hk.below hb hb.size (fun k hk e => by omega), Nat.le_succ _, h.b.kq hk (by omega) (fun i hi k e hkk => by have := ((h.b.r.own i hi).lt k e).1; omega), g _ _ h.l, g _ _ h.t⟩
set_option maxRecDepth 100000 in
set_option maxHeartbeats 16000000 in
theorem look_any (vb : Nat) (V : Nat → Value) (p : PW) (pl pp gl : Nat) (part : Int) (w : World) (hv : ViewAt w vb V p) (hs : Snd p) (r0 : RoomV (V 0)) (r2 : RoomV (V 2)) (hc : Cp w pl pp gl p.kinds.length part (ptL p)) :
  Calls Tryz.prog 25 #[.pointer (some ⟨vb, 0, none⟩), .func (.func 26) #[] #[.pointer (some ⟨pl, 0, none⟩), .pointer (some ⟨pp, 0, none⟩)]] w fun r w' => ∃ X us tv, r = .returned (.agg (eight X).toArray) ∧ Vf w vb V p (w.heap.size + 1) (w.heap.size + 1) X (nV (frL (ptL p) part p.kinds.length) p.ready.length p.cores.length) (cV p (frL (ptL p) part p.kinds.length) us tv (p.cores.map (rnV (ptL p) part))) ((frL (ptL p) part p.kinds.length).map fun f => p.lines.getD f []) (p.ready.map (thL (ptL p) part)) w' ∧ Below w.heap.size w w' := by
 have V0 := hid (vf_0 w vb V p hv)
 have HE := hid (eg_of hs)
 have HR0 := hid r0
 have HR2 := hid r2
 have BQ := hid (bal (Below.refl w.heap.size w) (.cells #[.slice none 0 0, .slice none 0 0, .slice none 0 0, .slice none 0 0, .slice none 0 0, .slice none 0 0, .slice none 0 0, .slice none 0 0] 43))
 have HCP := hid (hc.below BQ.out)
 have MQ := hid (show Mine (w.alloc (.cells #[.slice none 0 0, .slice none 0 0, .slice none 0 0, .slice none 0 0, .slice none 0 0, .slice none 0 0, .slice none 0 0, .slice none 0 0] 43)) w.heap.size #[.slice none 0 0, .slice none 0 0, .slice none 0 0, .slice none 0 0, .slice none 0 0, .slice none 0 0, .slice none 0 0, .slice none 0 0].toList from ⟨fun o => by rw [cells_new w #[.slice none 0 0, .slice none 0 0, .slice none 0 0, .slice none 0 0, .slice none 0 0, .slice none 0 0, .slice none 0 0, .slice none 0 0] 43 o, Array.getElem?_toList], fun o => World.frozen?_alloc_at _ _ _ _ rfl, by simp⟩)
 have HVW := hid hv
 have HSN := hid hs
 have hl24 : p.kinds.length ≤ 24 := hs.lf.k2
 have hln : (p.kinds.length : Int) ≤ 24 := by omega
 obtain ⟨q1, b1, o1, k1, e1, -, -⟩ := hv.v.kinds
 have c1 : ((w.alloc (.cells #[.slice none 0 0, .slice none 0 0, .slice none 0 0, .slice none 0 0, .slice none 0 0, .slice none 0 0, .slice none 0 0, .slice none 0 0] 43)).alloc (.cells #[.slice none 0 0, .slice none 0 0, .slice none 0 0, .slice none 0 0, .slice none 0 0, .slice none 0 0, .slice none 0 0, .slice none 0 0] 43)).cell? ⟨vb, 1, none⟩ = some (.slice q1 p.kinds.length k1) := by rw [← e1]; exact range_cell (hv.below (btr BQ.out V0.out.be)).r rfl
 clear hv hs r0 r2 hc e1
 go_enter Tryz.func25, Tryz.ntmps25
 go_wp2_with fail
 generalize (w.alloc (.cells #[.slice none 0 0, .slice none 0 0, .slice none 0 0, .slice none 0 0, .slice none 0 0, .slice none 0 0, .slice none 0 0, .slice none 0 0] 43)).alloc (.cells #[.slice none 0 0, .slice none 0 0, .slice none 0 0, .slice none 0 0, .slice none 0 0, .slice none 0 0, .slice none 0 0, .slice none 0 0] 43) = W2 at *
 generalize w.alloc (.cells #[.slice none 0 0, .slice none 0 0, .slice none 0 0, .slice none 0 0, .slice none 0 0, .slice none 0 0, .slice none 0 0, .slice none 0 0] 43) = wq at *
 clear c1
 go_loopw [16] (fun i wr => ∃ (k : Nat) (X : Nat → Value) (us : List Value), k ≤ p.kinds.length ∧ i = .int .i64 k ∧ Hid (Vf wq vb V p (w.heap.size + 1) (w.heap.size + 1) X (nV (frL (ptL p) part k) 0 0) (cV p (frL (ptL p) part k) us [] []) ((frL (ptL p) part k).map fun f => p.lines.getD f []) [] wr)) (fun i _ => p.kinds.length - (intOf i).toNat)
 case atStart => exact ⟨0, _, [], by omega, rfl, V0⟩
 case round =>
  obtain ⟨k, X, us, hk, rfl, HV⟩ := hrel
  by_cases hlt : k < p.kinds.length
  ·have hlt2 : (k : Int) < (p.kinds.length : Int) := by omega
   have HC := hid (isOf_any pl pp gl p.kinds.length k part (ptL p) wr (HCP.out.below HV.out.be) hlt)
   have HS := hid (frL_succ (ptL p) part k)
   have HFL := hid (frL_len (ptL p) part k)
   go_wp2_with fail
   refine HC.out.mono ?_
   rintro r w3 ⟨rfl, nd, rfl⟩
   have V3 := hid (HV.out.next (below_drewN (Below.refl wr.heap.size wr) nd))
   clear HC HV
   generalize wr.drewN nd = w4 at *
   cases hsp : lv (ptL p) k == part with
   | false =>
    rw [hsp, if_neg (by decide), List.append_nil] at HS
    clear hsp
    go_wp2_with fail
    exact ⟨⟨k + 1, X, us, by omega, by go_num, hid (by rw [HS.out]; exact V3.out)⟩, by simp [intOf]; omega⟩
   | true =>
    rw [hsp, if_pos rfl] at HS
    have HA := hid (add_any wq vb V p (w.heap.size + 1) (w.heap.size + 1) X _ _ _ _ k w4 V3.out HE.out hlt HR0.out HR2.out (fun i hi => by
     have h5 := HFL.out
     have e : nV (frL (ptL p) part k) 0 0 i ≤ (frL (ptL p) part k).length * 16 := by
      match i, hi with
      | 0, _ => exact Nat.le_refl _
      | 1, _ => exact Nat.le_refl _
      | 2, _ => show (frL (ptL p) part k).length ≤ _; omega
      | 3, _ => show (frL (ptL p) part k).length ≤ _; omega
      | 4, _ => show (frL (ptL p) part k).length ≤ _; omega
      | 5, _ => show (frL (ptL p) part k).length ≤ _; omega
      | 6, _ => exact Nat.zero_le _
      | 7, _ => exact Nat.zero_le _
      | _ + 8, h => omega
     omega))
    clear hsp
    go_wp2_with fail
    refine HA.out.mono ?_
    rintro r w5 ⟨rfl, X', u, hf⟩
    have V5 := hid (hf.ext (fun i hi => nV_add _ _ _ k i hi) (fun i hi => cV_add p _ us [] [] k u i hi))
    clear hf HA V3
    go_wp2_with fail
    refine ⟨⟨k + 1, X', us ++ [u], by omega, by go_num, hid ?_⟩, by simp [intOf]; omega⟩
    rw [HS.out, List.map_append]
    exact V5.out
  obtain rfl : p.kinds.length = k := by omega
  have hge : ¬ ((p.kinds.length : Int) < (p.kinds.length : Int)) := by omega
  have hrl : p.ready.length ≤ 16 := by have := HSN.out.lf.ready; have := HSN.out.lf.c2; omega
  have hrl2 : (p.ready.length : Int) ≤ 16 := by omega
  obtain ⟨q7, b7, o7, k7, e7, hq7, hz7⟩ := HV.out.va.v.ready
  have c7 : wr.cell? ⟨vb, 7, none⟩ = some (.slice q7 p.ready.length k7) := by rw [← e7]; exact range_cell (HV.out.va.below HV.out.be).r rfl
  have HZ7 := hid hz7
  have HQ7 := hid hq7
  obtain ⟨FR, hFR⟩ : ∃ FR, frL (ptL p) part p.kinds.length = FR := ⟨_, rfl⟩
  rw [hFR] at HV
  have HFR := hid hFR
  clear e7 hq7 hz7 hFR
  go_wp2_with fail
  clear c7 hge
  go_loopw [31] (fun i wr => ∃ (k : Nat) (X : Nat → Value) (tv : List Value), k ≤ p.ready.length ∧ i = .int .i64 k ∧ Hid (Vf wq vb V p (w.heap.size + 1) (w.heap.size + 1) X (nV FR k 0) (cV p FR us tv []) (FR.map fun f => p.lines.getD f []) ((p.ready.take k).map (thL (ptL p) part)) wr)) (fun i _ => p.ready.length - (intOf i).toNat)
  case atStart => exact ⟨0, X, [], by omega, rfl, HV⟩
  case round =>
   obtain ⟨k, X, tv, hk, rfl, HF⟩ := hrel
   by_cases hlt : k < p.ready.length
   ·have hlt2 : (k : Int) < (p.ready.length : Int) := by omega
    obtain rfl := HQ7.out (by omega)
    obtain ⟨lu, hl1, hli⟩ := HZ7.out k hlt
    have cl : wr.cell? ⟨b7, o7 + k, none⟩ = some lu := (HF.out.be.cell (World.block_lt_of_cell? _ _ hl1)).trans hl1
    have HLU := hid (fun W (hb : Below wq.heap.size wq W) => hli.below hb)
    have HLL := hid (HF.out.va.f.next _ (List.getElem_mem hlt))
    have HIN := hid (ready_fr HSN.out hlt)
    have HTK := hid (show (p.ready.take (k + 1)).map (thL (ptL p) part) = (p.ready.take k).map (thL (ptL p) part) ++ [thL (ptL p) part p.ready[k]] by rw [List.take_succ_eq_append_getElem hlt, List.map_append]; rfl)
    generalize p.ready[k] = li at HLU HLL HIN HTK
    have cx : wr.cell? ⟨w.heap.size + 1, 6, none⟩ = some (X 6) := HF.out.b.b.c 6
    have KR := hid (fun W (hb : Below wr.heap.size wr W) => show W.cell? ⟨w.heap.size + 1, 6, none⟩ = some (X 6) from (hb.cell (World.block_lt_of_cell? _ _ cx)).trans cx)
    have BD : Hid (Below wr.heap.size wr wr.drew) := hid (below_drew wr 1)
    clear hl1 hli
    go_upto_region 11 with fail
    refine wp_region_H (R := fun W => W.cell? ⟨w.heap.size + 1, 6, none⟩ = some (X 6)) [8] [0, 1, 2, 3] 5 (by kernel_rfl) (KR.out _ BD.out) (by kernel_rfl) (by kernel_rfl) (by kernel_rfl) (fun _ => ?_)
    clear cx cl
    repeat (refine rd_st rfl (by rfl) (fun _ _ _ _ h => h) ?_; apply Exists.intro; refine ⟨fun W h => ?_, ?_⟩; (focus (have h1 := h; clear h; go_simp; try rfl)); simp only [jj])
    refine rd_nil ?_
    refine wpAnyF_ready (rs := [4]) (by kernel_rfl) (by simp) (AllReadyF.cons rfl (fun K hK => ?_) AllReadyF.nil)
    rw [if_pos (by rfl)]
    go_simp
    refine (those_any lu li pl pp gl p.kinds.length part (ptL p) _ (HLU.out _ (btr HF.out.be BD.out)) HLL.out HIN.out (HCP.out.below (btr HF.out.be BD.out))).mono ?_
    rintro r w2 ⟨cu, rfl, hcu, hb2⟩
    obtain ⟨cq, cp, hcv⟩ := own_formP hcu
    subst hcv
    have B2 := hid (btr BD.out hb2)
    have IN2 := hid (inn_new (x := w.heap.size + 1) (X := X) hcu HF.out.b.r.lt (fun i hi k e => ((HF.out.b.r.own i hi).lt k e).2))
    generalize thL (ptL p) part li = tl at *
    refine hK.out _ _ trivial (fun _ => KR.out _ B2.out) (fun _ _ => ?_)
    clear hK K hcu hb2
    try simp only [jj]
    have BN := hid (show Below wr.heap.size wr (w2.alloc (.cells #[.slice cq tl.length cp] 22)) from btr B2.out (bal (Below.refl _ _) _))
    have CN := hid (show ∀ o, (w2.alloc (.cells #[.slice cq tl.length cp] 22)).cell? ⟨w2.heap.size, o, none⟩ = (#[.slice cq tl.length cp] : Array Value)[o]? from cells_new w2 #[.slice cq tl.length cp] 22)
    have IN4 := hid (show Inn (w2.alloc (.cells #[.slice cq tl.length cp] 22)) (w.heap.size + 1) X (.slice cq tl.length cp) tl from IN2.out.next (bal (Below.refl _ _) _))
    refine wpAnyF_ready (rs := [5]) (by kernel_rfl) (by simp) (AllReadyF.cons rfl (fun K hK => ?_) AllReadyF.nil)
    go_simp
    refine hK.out _ (w2.alloc (.cells #[.slice cq tl.length cp] 22)) trivial (fun _ => KR.out _ BN.out) (fun _ _ => ?_)
    clear hK K
    try simp only [jj]
    generalize w2.alloc (.cells #[.slice cq tl.length cp] 22) = W4 at BN CN IN4 ⊢
    generalize w2.heap.size = gb at CN ⊢
    obtain ⟨g, cap, w5, hrun, hvr, hkq, hat⟩ := Vr.app (i := 6) (T := 25) (z := .slice none 0 0) (HF.out.next BN.out).b.r (Nat.le_trans HF.out.b.r.lo (Nat.le_of_lt (Nat.lt_of_lt_of_le HF.out.b.r.lt BN.out.size))) (by omega) Tryz.underlying25 infoL rfl (by decide) (by decide) ⟨gb, 0, none⟩ 1 1 [.slice cq tl.length cp] rfl (fun j u hj => by rw [Addr.add_mid, Nat.zero_add, CN.out j]; simpa using hj) (fun u hu => by obtain rfl := List.mem_singleton.1 hu; rfl) (by decide) (show k + 1 ≤ 1000 by omega)
    rw [show nV FR k 0 6 = k from rfl] at hrun hvr
    have HRUN := hid hrun
    have BE5 := hid (show Below wq.heap.size wq w5 from hkq.below (btr HF.out.be BN.out) (btr HF.out.be BN.out).size (fun k hk e => by have := (((HF.out.next BN.out).b.r.own 6 (by omega)).lt k e).1; have := HF.out.hB; omega))
    have hx5 : w.heap.size + 1 < W4.heap.size := (HF.out.next BN.out).b.r.lt
    have cx5 := (hkq.cell (p := ⟨w.heap.size + 1, 6, none⟩) hx5 (HF.out.b.r.nx 6 (by omega))).trans (KR.out _ BN.out)
    have fx5 := (hkq.frozen (p := ⟨w.heap.size + 1, 6, none⟩) hx5 (HF.out.b.r.nx 6 (by omega))).trans ((HF.out.next BN.out).b.b.f 6)
    have PT := hid ((HF.out.next BN.out).put (i := 6) (by omega) hvr hkq hat)
    have IN6 := hid (IN4.out.grow (v := .slice (some ⟨g, 0, none⟩) (k + 1) cap) (i := 6) (by omega) PT.out.2.2.2.2 rfl (by rcases hat with h | h; exact .inl h; exact .inr (Nat.le_of_eq h.symm)))
    have R5 := hid cx5
    clear hrun hvr hkq hat
    refine wpAnyF_ready (rs := [6]) (by kernel_rfl) (by simp) (AllReadyF.cons rfl (fun K hK => ?_) AllReadyF.nil)
    refine wp_appV _ _ 25 rfl (X 6) (.slice (some ⟨gb, 0, none⟩) 1 1) _ rfl rfl HRUN.out ?_
    refine hK.out _ _ trivial (fun _ => R5.out) (fun _ _ => ?_)
    clear hK K
    simp only [jj]
    refine wpAnyF_groupS (by kernel_rfl) _ R5.out [7] 1 _ _ (by kernel_rfl) ?_
    repeat (refine rd_st rfl (by rfl) (fun _ _ _ _ h => h) ?_; apply Exists.intro; refine ⟨fun W h => ?_, ?_⟩; (focus (clear h; go_simp; try rfl)); simp only [jj])
    refine rd_nil ?_
    refine wpAnyF_ready (rs := [8]) (by kernel_rfl) (by simp) (AllReadyF.cons rfl (fun K hK => ?_) AllReadyF.nil)
    go_simp
    refine hK.out _ _ trivial (notClean (by kernel_rfl)) (fun _ _ => ?_)
    clear hK K
    try simp only [jj]
    refine wpAnyF_done (by kernel_rfl) ?_ _
    obtain ⟨h1, h2, h3, h4, -⟩ := PT.out
    have HF2 := hid (show Vf wq vb V p (w.heap.size + 1) (w.heap.size + 1) (ud X 6 (.slice (some ⟨g, 0, none⟩) (k + 1) cap)) (ud (nV FR k 0) 6 (k + 1)) (ud (cV p FR us tv []) 6 (tv ++ [.slice cq tl.length cp])) (FR.map fun f => p.lines.getD f []) ((p.ready.take k).map (thL (ptL p) part) ++ [tl]) (w5.setCell ⟨w.heap.size + 1, 6, none⟩ (.slice (some ⟨g, 0, none⟩) (k + 1) cap)) from ⟨HF.out.va, h2, HF.out.hB, h1, h3, (show Ls _ _ _ ((ud (cV p FR us tv []) 6 (tv ++ [.slice cq tl.length cp])) 6) _ from Ls.more (us := tv) h4 IN6.out)⟩)
    generalize w5.setCell ⟨w.heap.size + 1, 6, none⟩ _ = W6 at HF2 ⊢
    generalize ud X 6 (.slice (some ⟨g, 0, none⟩) (k + 1) cap) = X6 at HF2
    clear h1 h2 h3 h4 PT HRUN BE5 hx5 cx5 fx5 R5 KR BD HF BN CN B2 IN2 IN4 IN6
    go_wp2_with fail
    refine ⟨⟨k + 1, X6, tv ++ [.slice cq tl.length cp], by omega, by go_num, hid ?_⟩, by simp [intOf]; omega⟩
    rw [HTK.out]
    exact HF2.out.ext (fun i hi => by
     match i, hi with
     | 0, _ => rfl
     | 1, _ => rfl
     | 2, _ => rfl
     | 3, _ => rfl
     | 4, _ => rfl
     | 5, _ => rfl
     | 6, _ => rfl
     | 7, _ => rfl
     | _ + 8, h => omega) (fun i hi => by
     match i, hi with
     | 0, _ => rfl
     | 1, _ => rfl
     | 2, _ => rfl
     | 3, _ => rfl
     | 4, _ => rfl
     | 5, _ => rfl
     | 6, _ => rfl
     | 7, _ => rfl
     | _ + 8, h => omega)
   obtain rfl : p.ready.length = k := by omega
   have hge : ¬ ((p.ready.length : Int) < (p.ready.length : Int)) := by omega
   have hcl : p.cores.length ≤ 4 := HSN.out.lf.c2
   have hcl2 : (p.cores.length : Int) ≤ 4 := by omega
   obtain ⟨q6, b6, o6, k6, e6, hq6, hz6⟩ := HF.out.va.v.cores
   have c6 : wr.cell? ⟨vb, 6, none⟩ = some (.slice q6 p.cores.length k6) := by rw [← e6]; exact range_cell (HF.out.va.below HF.out.be).r rfl
   have HZ6 := hid hz6
   have HQ6 := hid hq6
   rw [List.take_length] at HF
   clear e6 hq6 hz6
   go_wp2_with fail
   clear c6 hge
   go_loopw [49] (fun i wr => ∃ (k : Nat) (X : Nat → Value), k ≤ p.cores.length ∧ i = .int .i64 k ∧ Hid (Vf wq vb V p (w.heap.size + 1) (w.heap.size + 1) X (nV FR p.ready.length k) (cV p FR us tv ((p.cores.take k).map (rnV (ptL p) part))) (FR.map fun f => p.lines.getD f []) (p.ready.map (thL (ptL p) part)) wr)) (fun i _ => p.cores.length - (intOf i).toNat)
   case atStart => exact ⟨0, X, by omega, rfl, HF⟩
   case round =>
    obtain ⟨k, X, hk, rfl, HF⟩ := hrel
    by_cases hlt : k < p.cores.length
    ·have hlt2 : (k : Int) < (p.cores.length : Int) := by omega
     obtain rfl := HQ6.out (by omega)
     have ct := (HZ6.out.below HF.out.be) k hlt
     have HTK := hid (show (p.cores.take (k + 1)).map (rnV (ptL p) part) = (p.cores.take k).map (rnV (ptL p) part) ++ [rnV (ptL p) part p.cores[k]] by rw [List.take_succ_eq_append_getElem hlt, List.map_append]; rfl)
     have HCF := hid (cores_fr HSN.out hlt)
     generalize p.cores[k] = t at ct HTK HCF
     rcases HCF.out with rfl | ⟨f, hf, rfl⟩
     ·go_upto_region 18 with fail
      generalize wr = wN at *
      have HFc := HF
      have EQ := hid (show rnV (ptL p) part (-1) = -1 from if_pos rfl)
      clear HF HCF
      have cx7 : wN.cell? ⟨w.heap.size + 1, 7, none⟩ = some (X 7) := HFc.out.b.b.c 7
      have BN := hid (bal (Below.refl wN.heap.size wN) (.cells #[.int .i64 (-1)] 3))
      obtain ⟨g, cap, w5, hrun, hvr, hkq, hat⟩ := Vr.app (i := 7) (T := 22) (z := .int .i64 0) (HFc.out.next BN.out).b.r (Nat.le_trans HFc.out.b.r.lo (Nat.le_of_lt (Nat.lt_of_lt_of_le HFc.out.b.r.lt BN.out.size))) (by omega) Tryz.underlying22 infoI rfl (by decide) (by decide) ⟨wN.heap.size, 0, none⟩ 1 1 [.int .i64 (-1)] rfl (fun j u hj => by rw [Addr.add_mid, Nat.zero_add, cells_new wN #[.int .i64 (-1)] 3 j]; simpa using hj) (int1 _) (by decide) (show k + 1 ≤ 1000 by omega)
      rw [show nV FR p.ready.length k 7 = k from rfl] at hrun hvr
      have HRUN := hid hrun
      have hx5 : w.heap.size + 1 < (wN.alloc (.cells #[.int .i64 (-1)] 3)).heap.size := (HFc.out.next BN.out).b.r.lt
      have cx5 := (hkq.cell (p := ⟨w.heap.size + 1, 7, none⟩) hx5 (HFc.out.b.r.nx 7 (by omega))).trans ((HFc.out.next BN.out).b.b.c 7)
      have fx5 := (hkq.frozen (p := ⟨w.heap.size + 1, 7, none⟩) hx5 (HFc.out.b.r.nx 7 (by omega))).trans ((HFc.out.next BN.out).b.b.f 7)
      replace cx5 : w5.cell? ⟨w.heap.size + 1, 7, none⟩ = some (X 7) := cx5
      have PT := hid ((HFc.out.next BN.out).put (i := 7) (by omega) hvr hkq hat)
      clear hrun hvr hkq hat hx5
      go_wp2_with (first | (at_builtin; refine wpList_appP rfl _ _ 22 rfl (X 7) (.slice (some ⟨wN.heap.size, 0, none⟩) 1 1) (.slice (some ⟨g, 0, none⟩) (k + 1) cap) rfl rfl HRUN.out ?_))
      obtain ⟨h1, h2, h3, h4, -⟩ := PT.out
      have HF2 := hid (show Vf wq vb V p (w.heap.size + 1) (w.heap.size + 1) (ud X 7 (.slice (some ⟨g, 0, none⟩) (k + 1) cap)) (ud (nV FR p.ready.length k) 7 (k + 1)) (ud (cV p FR us tv ((p.cores.take k).map (rnV (ptL p) part))) 7 (ints ((p.cores.take k).map (rnV (ptL p) part)) ++ [.int .i64 (-1)])) (FR.map fun f => p.lines.getD f []) (p.ready.map (thL (ptL p) part)) (w5.setCell ⟨w.heap.size + 1, 7, none⟩ (.slice (some ⟨g, 0, none⟩) (k + 1) cap)) from ⟨HFc.out.va, h2, HFc.out.hB, h1, h3, h4⟩)
      refine ⟨⟨k + 1, _, by omega, by go_num, hid (HF2.out.ext (fun i hi => by
       match i, hi with
       | 0, _ => rfl
       | 1, _ => rfl
       | 2, _ => rfl
       | 3, _ => rfl
       | 4, _ => rfl
       | 5, _ => rfl
       | 6, _ => rfl
       | 7, _ => rfl
       | _ + 8, h => omega) (fun i hi => by
       rw [HTK.out, EQ.out]
       match i, hi with
       | 0, _ => rfl
       | 1, _ => rfl
       | 2, _ => rfl
       | 3, _ => rfl
       | 4, _ => rfl
       | 5, _ => rfl
       | 6, _ => rfl
       | 7, _ => show _ = ints _; unfold ints; simp [ud]
       | _ + 8, h => omega))⟩, by simp [intOf]; omega⟩
     ·have HC := hid (isOf_any pl pp gl p.kinds.length f part (ptL p) wr (HCP.out.below HF.out.be) hf)
      have hn1 : ((f : Int) != -1) = true := by simp
      have EQ0 := hid (show rnV (ptL p) part (f : Int) = if (lv (ptL p) f == part) = true then (f : Int) else -1 by unfold rnV; rw [if_neg (by omega), Int.toNat_natCast])
      go_wp2_with fail
      refine HC.out.mono ?_
      rintro r w3 ⟨rfl, nd, rfl⟩
      have HFc := hid (HF.out.next (below_drewN (Below.refl wr.heap.size wr) nd))
      clear HF HC HCF ct
      generalize wr.drewN nd = wN at *
      cases hsp : lv (ptL p) f == part with
      | true =>
       have EQ := hid (show rnV (ptL p) part (f : Int) = (f : Int) by rw [EQ0.out, hsp]; rfl)
       clear hsp EQ0
       go_upto_region 18 with fail
       have cx7 : wN.cell? ⟨w.heap.size + 1, 7, none⟩ = some (X 7) := HFc.out.b.b.c 7
       have BN := hid (bal (Below.refl wN.heap.size wN) (.cells #[.int .i64 (f : Int)] 3))
       obtain ⟨g, cap, w5, hrun, hvr, hkq, hat⟩ := Vr.app (i := 7) (T := 22) (z := .int .i64 0) (HFc.out.next BN.out).b.r (Nat.le_trans HFc.out.b.r.lo (Nat.le_of_lt (Nat.lt_of_lt_of_le HFc.out.b.r.lt BN.out.size))) (by omega) Tryz.underlying22 infoI rfl (by decide) (by decide) ⟨wN.heap.size, 0, none⟩ 1 1 [.int .i64 (f : Int)] rfl (fun j u hj => by rw [Addr.add_mid, Nat.zero_add, cells_new wN #[.int .i64 (f : Int)] 3 j]; simpa using hj) (int1 _) (by decide) (show k + 1 ≤ 1000 by omega)
       rw [show nV FR p.ready.length k 7 = k from rfl] at hrun hvr
       have HRUN := hid hrun
       have hx5 : w.heap.size + 1 < (wN.alloc (.cells #[.int .i64 (f : Int)] 3)).heap.size := (HFc.out.next BN.out).b.r.lt
       have cx5 := (hkq.cell (p := ⟨w.heap.size + 1, 7, none⟩) hx5 (HFc.out.b.r.nx 7 (by omega))).trans ((HFc.out.next BN.out).b.b.c 7)
       have fx5 := (hkq.frozen (p := ⟨w.heap.size + 1, 7, none⟩) hx5 (HFc.out.b.r.nx 7 (by omega))).trans ((HFc.out.next BN.out).b.b.f 7)
       replace cx5 : w5.cell? ⟨w.heap.size + 1, 7, none⟩ = some (X 7) := cx5
       have PT := hid ((HFc.out.next BN.out).put (i := 7) (by omega) hvr hkq hat)
       clear hrun hvr hkq hat hx5
       go_wp2_with (first | (at_builtin; refine wpList_appP rfl _ _ 22 rfl (X 7) (.slice (some ⟨wN.heap.size, 0, none⟩) 1 1) (.slice (some ⟨g, 0, none⟩) (k + 1) cap) rfl rfl HRUN.out ?_))
       obtain ⟨h1, h2, h3, h4, -⟩ := PT.out
       have HF2 := hid (show Vf wq vb V p (w.heap.size + 1) (w.heap.size + 1) (ud X 7 (.slice (some ⟨g, 0, none⟩) (k + 1) cap)) (ud (nV FR p.ready.length k) 7 (k + 1)) (ud (cV p FR us tv ((p.cores.take k).map (rnV (ptL p) part))) 7 (ints ((p.cores.take k).map (rnV (ptL p) part)) ++ [.int .i64 (f : Int)])) (FR.map fun f => p.lines.getD f []) (p.ready.map (thL (ptL p) part)) (w5.setCell ⟨w.heap.size + 1, 7, none⟩ (.slice (some ⟨g, 0, none⟩) (k + 1) cap)) from ⟨HFc.out.va, h2, HFc.out.hB, h1, h3, h4⟩)
       refine ⟨⟨k + 1, _, by omega, by go_num, hid (HF2.out.ext (fun i hi => by
        match i, hi with
        | 0, _ => rfl
        | 1, _ => rfl
        | 2, _ => rfl
        | 3, _ => rfl
        | 4, _ => rfl
        | 5, _ => rfl
        | 6, _ => rfl
        | 7, _ => rfl
        | _ + 8, h => omega) (fun i hi => by
        rw [HTK.out, EQ.out]
        match i, hi with
        | 0, _ => rfl
        | 1, _ => rfl
        | 2, _ => rfl
        | 3, _ => rfl
        | 4, _ => rfl
        | 5, _ => rfl
        | 6, _ => rfl
        | 7, _ => show _ = ints _; unfold ints; simp [ud]
        | _ + 8, h => omega))⟩, by simp [intOf]; omega⟩
      | false =>
       have EQ := hid (show rnV (ptL p) part (f : Int) = -1 by rw [EQ0.out, hsp]; rfl)
       clear hsp EQ0
       go_upto_region 18 with fail
       have cx7 : wN.cell? ⟨w.heap.size + 1, 7, none⟩ = some (X 7) := HFc.out.b.b.c 7
       have BN := hid (bal (Below.refl wN.heap.size wN) (.cells #[.int .i64 (-1)] 3))
       obtain ⟨g, cap, w5, hrun, hvr, hkq, hat⟩ := Vr.app (i := 7) (T := 22) (z := .int .i64 0) (HFc.out.next BN.out).b.r (Nat.le_trans HFc.out.b.r.lo (Nat.le_of_lt (Nat.lt_of_lt_of_le HFc.out.b.r.lt BN.out.size))) (by omega) Tryz.underlying22 infoI rfl (by decide) (by decide) ⟨wN.heap.size, 0, none⟩ 1 1 [.int .i64 (-1)] rfl (fun j u hj => by rw [Addr.add_mid, Nat.zero_add, cells_new wN #[.int .i64 (-1)] 3 j]; simpa using hj) (int1 _) (by decide) (show k + 1 ≤ 1000 by omega)
       rw [show nV FR p.ready.length k 7 = k from rfl] at hrun hvr
       have HRUN := hid hrun
       have hx5 : w.heap.size + 1 < (wN.alloc (.cells #[.int .i64 (-1)] 3)).heap.size := (HFc.out.next BN.out).b.r.lt
       have cx5 := (hkq.cell (p := ⟨w.heap.size + 1, 7, none⟩) hx5 (HFc.out.b.r.nx 7 (by omega))).trans ((HFc.out.next BN.out).b.b.c 7)
       have fx5 := (hkq.frozen (p := ⟨w.heap.size + 1, 7, none⟩) hx5 (HFc.out.b.r.nx 7 (by omega))).trans ((HFc.out.next BN.out).b.b.f 7)
       replace cx5 : w5.cell? ⟨w.heap.size + 1, 7, none⟩ = some (X 7) := cx5
       have PT := hid ((HFc.out.next BN.out).put (i := 7) (by omega) hvr hkq hat)
       clear hrun hvr hkq hat hx5
       go_wp2_with (first | (at_builtin; refine wpList_appP rfl _ _ 22 rfl (X 7) (.slice (some ⟨wN.heap.size, 0, none⟩) 1 1) (.slice (some ⟨g, 0, none⟩) (k + 1) cap) rfl rfl HRUN.out ?_))
       obtain ⟨h1, h2, h3, h4, -⟩ := PT.out
       have HF2 := hid (show Vf wq vb V p (w.heap.size + 1) (w.heap.size + 1) (ud X 7 (.slice (some ⟨g, 0, none⟩) (k + 1) cap)) (ud (nV FR p.ready.length k) 7 (k + 1)) (ud (cV p FR us tv ((p.cores.take k).map (rnV (ptL p) part))) 7 (ints ((p.cores.take k).map (rnV (ptL p) part)) ++ [.int .i64 (-1)])) (FR.map fun f => p.lines.getD f []) (p.ready.map (thL (ptL p) part)) (w5.setCell ⟨w.heap.size + 1, 7, none⟩ (.slice (some ⟨g, 0, none⟩) (k + 1) cap)) from ⟨HFc.out.va, h2, HFc.out.hB, h1, h3, h4⟩)
       refine ⟨⟨k + 1, _, by omega, by go_num, hid (HF2.out.ext (fun i hi => by
        match i, hi with
        | 0, _ => rfl
        | 1, _ => rfl
        | 2, _ => rfl
        | 3, _ => rfl
        | 4, _ => rfl
        | 5, _ => rfl
        | 6, _ => rfl
        | 7, _ => rfl
        | _ + 8, h => omega) (fun i hi => by
        rw [HTK.out, EQ.out]
        match i, hi with
        | 0, _ => rfl
        | 1, _ => rfl
        | 2, _ => rfl
        | 3, _ => rfl
        | 4, _ => rfl
        | 5, _ => rfl
        | 6, _ => rfl
        | 7, _ => show _ = ints _; unfold ints; simp [ud]
        | _ + 8, h => omega))⟩, by simp [intOf]; omega⟩
    obtain rfl : p.cores.length = k := by omega
    have hge : ¬ ((p.cores.length : Int) < (p.cores.length : Int)) := by omega
    rw [List.take_length] at HF
    have M8 := hid (MQ.out.next HF.out.be)
    have T8 := hid (show wr.there w.heap.size 0 (eight X).toArray.size from fun j hj => ⟨by rw [Nat.zero_add, M8.out.c j]; have : j < 8 := hj; match j, this with
     | 0, _ => rfl
     | 1, _ => rfl
     | 2, _ => rfl
     | 3, _ => rfl
     | 4, _ => rfl
     | 5, _ => rfl
     | 6, _ => rfl
     | 7, _ => rfl
     | _ + 8, h => omega, M8.out.f _⟩)
    have I8 : (Tryz.prog.info? 43).map (·.size) = some 8 := by kernel_rfl
    have HIa := hid (show (Tryz.prog.info? 43).map (·.size) = some (eight X).length from I8)
    have HIb := hid (show (Tryz.prog.info? 43).map (·.size) = some (eight X).toArray.size from I8)
    have RX := hid (range_cells HF.out.b.b.c)
    have ONE := hid (show (eight X).toArray.all (·.oneCell') = true by
     have f : ∀ i, i < 8 → (X i).oneCell' = true := fun i hi => by obtain ⟨q, cp, e⟩ := own_formP (HF.out.b.r.own i hi); rw [e]; rfl
     simp [eight, f 0 (by omega), f 1 (by omega), f 2 (by omega), f 3 (by omega), f 4 (by omega), f 5 (by omega), f 6 (by omega), f 7 (by omega)])
    have R9 := hid (World.rangeAt_setCells_same wr w.heap.size 0 (eight X) T8.out)
    have K9 := hid (kq_cells wr w.heap.size (eight X) 0)
    clear I8
    go_wp2_with (first
     | ((with_reducible (show wpList _ _ _ (⟨_, Op.store 43 _ _, _, _, _, _⟩ :: _) _ _)); refine wpList_store_mid rfl 43 _ _ rfl w.heap.size 0 (eight X).toArray rfl rfl T8.out HIb.out ONE.out ?_)
     | ((with_reducible (show wpList _ _ _ (⟨_, Op.load 43 _, _, _, _, _⟩ :: _) _ _)); refine wpList_load_mid rfl 43 _ rfl (w.heap.size + 1) 0 rfl (eight X) _ RX.out Tryz.underlying43 rfl HIa.out ?_))
    generalize wr.setCells w.heap.size 0 (eight X) = W9 at R9 K9 ⊢
    refine bodyPost_ret (v := .agg (eight X).toArray) (results_c1 rfl rfl (run_loadVar_mid _ w.heap.size 0 43 (eight X) _ R9.out Tryz.underlying43 rfl HIa.out)) rfl ⟨X, rfl, ⟨us, tv, ?_⟩, ?_⟩
    ·rw [HFR.out]
     exact vf_end HVW.out HF.out (btr BQ.out HF.out.be) K9.out
    ·exact K9.out.below (btr BQ.out HF.out.be) (btr BQ.out HF.out.be).size (fun k hk e => by omega)
end Go.Proofs.YtacpjedncjpmpaaGreatDoor.Wd
