/- What was made from one slot is now made from another one: tree.hand, keyholdref.turn; an empty slot: plain.Empty; walked. -/
import Derived.Test.YtjjhodfekmpelaaGreatDoorGBx
import Derived.Test.YtjjhodfekmpelaaGreatDoorGBxMore
namespace Go.Proofs.YtjjhodfekmpelaaGreatDoor.Wd
open Go.RowKit Go.Proofs.YtjjhodfekmpelaaGreatDoor.Mem Go.Proofs.YtjjhodfekmpelaaGreatDoor.Bw Go.Proofs.YtjjhodfekmpelaaGreatDoor.Nums Go.Proofs.YtjjhodfekmpelaaGreatDoor.Mmu
def hnd1 (a b : Int) (f : Nat → Int) : Nat → Int := if f 6 = a then upd f 6 b else f
def hnd (a b : Int) (fs : List (Nat → Int)) : List (Nat → Int) := fs.map (hnd1 a b)
/-- The first k are done. -/
def hndK (a b : Int) (k : Nat) (fs : List (Nat → Int)) : List (Nat → Int) := (fs.take k).map (hnd1 a b) ++ fs.drop k
theorem hndK_len (a b : Int) (k : Nat) (fs : List (Nat → Int)) : (hndK a b k fs).length = fs.length := by
 unfold hndK
 simp
 omega
theorem hndK_zero (a b : Int) (fs : List (Nat → Int)) : hndK a b 0 fs = fs := by simp [hndK]
theorem hndK_all (a b : Int) (fs : List (Nat → Int)) : hndK a b fs.length fs = hnd a b fs := by simp [hndK, hnd]
theorem hndK_at (a b : Int) (k : Nat) (fs : List (Nat → Int)) (hk : k < fs.length) (h : k < (hndK a b k fs).length) : (hndK a b k fs)[k] = fs[k] := by
 have e : (hndK a b k fs)[k]? = fs[k]? := by
  unfold hndK
  rw [List.getElem?_append_right (by simp; omega), List.getElem?_drop]
  congr 1
  simp
  omega
 rw [List.getElem?_eq_getElem h, List.getElem?_eq_getElem hk] at e
 exact Option.some.inj e
theorem hndK_succ (a b : Int) (k : Nat) (fs : List (Nat → Int)) (hk : k < fs.length) : hndK a b (k + 1) fs = (hndK a b k fs).set k (hnd1 a b fs[k]) := by
 unfold hndK
 have e : k - (List.map (hnd1 a b) (List.take k fs)).length = 0 := by simp; omega
 rw [List.take_add_one, List.getElem?_eq_getElem hk, List.map_append, List.set_append, if_neg (by simp; omega), e]
 simp only [Option.toList_some, List.map_cons, List.map_nil, List.append_assoc, List.cons_append, List.nil_append]
 rw [List.drop_eq_getElem_cons hk]
 rfl
/-- The slots with one number turned. -/
theorem hndK_set {a b : Int} {k : Nat} {fs : List (Nat → Int)} (hk : k < fs.length) (h : k < (hndK a b k fs).length) (h6 : fs[k] 6 = a) : (hndK a b k fs).set k (upd (hndK a b k fs)[k] 6 b) = hndK a b (k + 1) fs := by
 rw [hndK_succ a b k fs hk, hndK_at a b k fs hk h]
 unfold hnd1
 rw [if_pos h6]
theorem hndK_same {a b : Int} {k : Nat} {fs : List (Nat → Int)} (hk : k < fs.length) (h6 : ¬ fs[k] 6 = a) : hndK a b k fs = hndK a b (k + 1) fs := by
 have h : k < (hndK a b k fs).length := by rw [hndK_len]; exact hk
 rw [hndK_succ a b k fs hk]
 unfold hnd1
 rw [if_neg h6, ← hndK_at a b k fs hk h, List.set_getElem_self]
/-- An empty slot. -/
def eS : Nat → Int := fun k => if k = 6 then -1 else 0
theorem info7s : (Tryz.prog.info? 76).map (·.size) = some 7 := by kernel_rfl
theorem wp_stS {ops : Array Oper} {rest : List Oper} {op : Oper} {a : Act} {w : World} {Q : Exit → Act → World → Prop} (hgd : op.guard = none) (x y : Operand) (ho : op.op = .store 76 x y)
  (b o : Nat) (hx : a.eval x = .pointer (some ⟨b, o, none⟩)) (cs : List Value) (hy : a.eval y = .agg cs.toArray) (hl : cs.length = 7) (h1 : ∀ v ∈ cs, v.oneCell' = true) (ht : w.there b o 7)
  (h : wpList Tryz.prog ops Q rest (a.put op.dst undef) (w.setCells b o cs)) : wpList Tryz.prog ops Q (op :: rest) a w :=
 wpList_store_mid hgd 76 x y ho b o cs.toArray hx hy (by simpa [hl] using ht) (by rw [info7s]; simp [hl]) (all_oneCell_toArray h1) (by simpa using h)
theorem wp_ldS {ops : Array Oper} {rest : List Oper} {op : Oper} {a : Act} {w : World} {Q : Exit → Act → World → Prop} (hgd : op.guard = none) (x : Operand) (ho : op.op = .load 76 x)
  (b o : Nat) (hx : a.eval x = .pointer (some ⟨b, o, none⟩)) (cs : List Value) (hl : cs.length = 7) (hc : w.rangeAt b o cs)
  (h : wpList Tryz.prog ops Q rest (a.put op.dst (.agg cs.toArray)) w) : wpList Tryz.prog ops Q (op :: rest) a w :=
 wpList_load_mid hgd 76 x ho b o hx cs _ hc Tryz.underlying76 rfl (by rw [info7s, hl]) h
theorem run_ldS (w : World) (b o : Nat) (cs : List Value) (hc : w.rangeAt b o cs) (hl : cs.length = 7) : (loadVar 76 ⟨b, o, none⟩).run Tryz.prog w = .ok (.agg cs.toArray) w :=
 run_loadVar_mid w b o 76 cs _ hc Tryz.underlying76 rfl (by rw [info7s, hl])
end Go.Proofs.YtjjhodfekmpelaaGreatDoor.Wd
