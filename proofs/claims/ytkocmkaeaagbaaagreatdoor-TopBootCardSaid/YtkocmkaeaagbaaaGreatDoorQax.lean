/- Texts: keyholdref.Cut, keyholdref.LinesOf, keyholdref.digits, walked. (From the texts of stage 1.) · Contracts of library functions, laid over this program by its own numbers. · Texts: strings.Split, lines.Of, lines.Number, walked. (From the texts of stage 1.) -/
import Derived.Lib.Split
import Derived.Lib.SplitLaws
import Derived.Laws.OwnMore
import Derived.OwnWalk
import Derived.Deep.QuietTactic
import Derived.BigQuiet
import Derived.Shelf.Strings.Builder1
import Derived.Shelf.Small.Wraps
import Derived.Shelf.Strings.BuilderF
import Derived.Shelf.Strings.BuilderK
import Derived.Shelf.Utf8.RuneCount
import Derived.Shelf.Strings.Search1
import Derived.Shelf.Strings.Search2
import Derived.Shelf.Strings.Search3
import Derived.Shelf.Strings.Cut
import Derived.Shelf.Strings.Count
import Derived.Shelf.LaysM
import Derived.Shelf.Strings.Shaped
import Derived.Shelf.Strings.Prefix
import Derived.Shelf.Strings.Split
import Derived.Shelf.Strings.SplitShaped
import Derived.Shelf.Unicode.Decode
import Derived.Shelf.Strings.RuneCount
import Derived.Shelf.Strings.Explode
import Derived.Shelf.Bits.Mul64
import Derived.Shelf.Unicode.DecodeSlow
import Derived.Shelf.Unicode.DecodeAny
import Derived.Shelf.Strings.BuilderCap
import Derived.Test.YtkocmkaeaagbaaaGreatDoorProg
import Derived.Test.YtkocmkaeaagbaaaGreatDoorQal
namespace Go.Proofs.YtkocmkaeaagbaaaGreatDoor.Hex
open Go.RowKit Go.Proofs.YtkocmkaeaagbaaaGreatDoor.Mem Go.Proofs.YtkocmkaeaagbaaaGreatDoor.Nums Go.Proofs.YtkocmkaeaagbaaaGreatDoor.Wd
theorem bytes_ext {a b : ByteArray} (h : a.data.toList = b.data.toList) : a = b := by
 cases a; cases b
 simp only at h
 rw [Array.ext' h]
theorem size_list (a : ByteArray) : a.size = a.data.toList.length := rfl
/-- A text cut at each such byte. -/
def glue (c : UInt8) : List (List UInt8) → List (List UInt8)
 | [] => [[c]]
 | p :: ps => (c :: p) :: ps
def cutL (at_ : UInt8) : List UInt8 → List (List UInt8)
 | [] => [[]]
 | c :: s => if c = at_ then [] :: cutL at_ s else glue c (cutL at_ s)
/-- What is gathered so far, ahead of the first piece of what is left. -/
def ahead (p : List UInt8) : List (List UInt8) → List (List UInt8)
 | [] => [p]
 | q :: qs => (p ++ q) :: qs
theorem cutL_ne (a : UInt8) (s : List UInt8) : cutL a s ≠ [] := by
 cases s with
 | nil => simp [cutL]
 | cons c s =>
  rw [cutL]
  split
  ·simp
  ·unfold glue
   split <;> simp
theorem cutL_len (a : UInt8) (s : List UInt8) : (cutL a s).length ≤ s.length + 1 := by
 induction s with
 | nil => simp [cutL]
 | cons c s ih =>
  rw [cutL]
  split
  ·simp; exact ih
  ·have : (glue c (cutL a s)).length ≤ s.length + 1 + 1 := by
    unfold glue
    split
    ·simp
    ·rename_i h; rw [h] at ih; simp at ih ⊢; omega
   simpa using this
/-- The pieces, as texts. -/
def cutB (c : UInt8) (s : ByteArray) : List ByteArray := (cutL c s.data.toList).map fun l => ⟨l.toArray⟩
end Go.Proofs.YtkocmkaeaagbaaaGreatDoor.Hex
namespace Go.Proofs.YtkocmkaeaagbaaaGreatDoor.Prs
open Go.RowKit Go.Proofs.YtkocmkaeaagbaaaGreatDoor.Mem Go.Proofs.YtkocmkaeaagbaaaGreatDoor.Nums Go.Proofs.YtkocmkaeaagbaaaGreatDoor.Hex
abbrev digitP (n : Nat) : Prop := 48 ≤ n ∧ n ≤ 57
/-- A decimal number, as its digits say. -/
def decN (l : List UInt8) : Nat := l.foldl (fun n b => n * 10 + (b.toNat - 48)) 0
theorem decN_snoc (l : List UInt8) (b : UInt8) : decN (l ++ [b]) = decN l * 10 + (b.toNat - 48) := by simp [decN]
abbrev DecP (t : ByteArray) : Prop := t.size ≠ 0 ∧ t.size ≤ 5 ∧ (∀ h : 0 < t.size, t[0].toNat = 48 → t.size = 1) ∧ ∀ j (h : j < t.size), digitP t[j].toNat
def decV (t : ByteArray) : Int := if DecP t then decN t.data.toList else -1
theorem dec_yes {t : ByteArray} (h : DecP t) : decV t = decN t.data.toList := by unfold decV; rw [if_pos h]
theorem dec_no {t : ByteArray} (h : ¬ DecP t) : decV t = -1 := by unfold decV; rw [if_neg h]
theorem decN_lt (l : List UInt8) (k : Nat) (h : l.length = k) (hd : ∀ b ∈ l, b.toNat ≤ 57) : decN l < 10 ^ k := by
 induction k generalizing l with
 | zero => rw [List.length_eq_zero_iff.1 h]; decide
 | succ k ih =>
  have hne : l ≠ [] := by rintro rfl; cases h
  rw [← List.dropLast_concat_getLast hne, decN_snoc]
  have h1 := ih l.dropLast (by simp [h]) (fun b hb => hd b (List.dropLast_subset l hb))
  have h2 := hd (l.getLast hne) (List.getLast_mem hne)
  rw [Nat.pow_succ]
  omega
theorem decN_take_lt (t : ByteArray) (k : Nat) (hk : k ≤ t.size) (h5 : t.size ≤ 5) (hd : ∀ j (h : j < t.size), j < k → digitP t[j].toNat) : decN (t.data.toList.take k) < 100000 := by
 have h1 : (t.data.toList.take k).length = k := by rw [List.length_take, ← size_list]; omega
 have h2 := decN_lt (t.data.toList.take k) k h1 (fun b hb => by
  obtain ⟨j, hj, rfl⟩ := List.getElem_of_mem hb
  have hj2 : j < t.size := by rw [size_list]; rw [List.length_take] at hj; omega
  have := hd j hj2 (by omega)
  rw [List.getElem_take]
  exact this.2)
 have h3 : (10 : Nat) ^ k ≤ 10 ^ 5 := Nat.pow_le_pow_right (by decide) (by omega)
 omega
/-- The lines of a text. -/
def linesB (s : ByteArray) : List ByteArray := if (cutB 10 s).getLast? = some ⟨#[]⟩ then (cutB 10 s).dropLast else cutB 10 s
end Go.Proofs.YtkocmkaeaagbaaaGreatDoor.Prs
namespace Go.Proofs.YtkocmkaeaagbaaaGreatDoor.Hex
open Go.RowKit Go.Proofs.YtkocmkaeaagbaaaGreatDoor.Mem Go.Proofs.YtkocmkaeaagbaaaGreatDoor.Nums Go.Proofs.YtkocmkaeaagbaaaGreatDoor.Wd
/-- Texts in memory. -/
def StrsAt (w : World) (b off : Nat) (zs : List ByteArray) : Prop := ∀ j (h : j < zs.length), w.cell? ⟨b, off + j, none⟩ = some (.string zs[j])
end Go.Proofs.YtkocmkaeaagbaaaGreatDoor.Hex
namespace Go.Proofs.YtkocmkaeaagbaaaGreatDoor.Prs
open Go.RowKit Go.Proofs.YtkocmkaeaagbaaaGreatDoor.Mem Go.Proofs.YtkocmkaeaagbaaaGreatDoor.Nums Go.Proofs.YtkocmkaeaagbaaaGreatDoor.Hex
theorem is_empty {s : ByteArray} (h : s.size = 0) : s.toList.isEmpty = true := by
 rw [List.isEmpty_iff, ByteArray.toList_eq, ← List.length_eq_zero_iff]
 exact h
theorem not_empty' {s : ByteArray} (h : s.size ≠ 0) : s.toList.isEmpty = false := by
 rw [← Bool.not_eq_true]
 intro e
 rw [List.isEmpty_iff, ByteArray.toList_eq, ← List.length_eq_zero_iff] at e
 exact h e
def linesZ (zs : List ByteArray) : List ByteArray := if zs.getLast? = some ⟨#[]⟩ then zs.dropLast else zs
theorem linesB_eq (s : ByteArray) : linesB s = linesZ (cutB 10 s) := rfl
theorem last_at {zs : List ByteArray} {L : Nat} (hL : zs.length = L + 1) : ∃ zl, zs.getLast? = some zl ∧ ∀ h : L < zs.length, zs[L] = zl := by
 have h : L < zs.length := by omega
 refine ⟨zs[L], ?_, fun _ => rfl⟩
 have e : zs.length - 1 = L := by omega
 rw [List.getLast?_eq_getElem?, e, List.getElem?_eq_getElem h]
theorem linesZ_yes {zs : List ByteArray} {zl : ByteArray} (hl : zs.getLast? = some zl) (h : zl.size = 0) : linesZ zs = zs.dropLast := by
 have e : zl = ⟨#[]⟩ := by
  apply bytes_ext
  rw [size_list] at h
  rw [List.length_eq_zero_iff.1 h]
 unfold linesZ
 rw [hl, e, if_pos rfl]
theorem linesZ_no {zs : List ByteArray} {zl : ByteArray} (hl : zs.getLast? = some zl) (h : zl.size ≠ 0) : linesZ zs = zs := by
 unfold linesZ
 rw [hl, if_neg]
 intro e
 have := Option.some.inj e
 rw [this] at h
 exact h rfl
theorem StrsAt.drop {w : World} {b : Nat} {zs : List ByteArray} (h : StrsAt w b 0 zs) : StrsAt w b 0 zs.dropLast := fun j hj => by
 have hj2 : j < zs.length := by simp at hj; omega
 rw [h j hj2]
 simp
end Go.Proofs.YtkocmkaeaagbaaaGreatDoor.Prs
namespace Go.Proofs
open Go.Shelf
def Tryz.lays169_ren : Go.Shelf.Ren := ⟨fun | 169 => 172 | n => n, fun | 70 => 216 | 9 => 9 | 0 => 0 | 72 => 219 | 37 => 217 | 127 => 241 | 3 => 3 | 5 => 5 | n => n, fun | n => n⟩
theorem Tryz.lays169 : Go.Proofs.Lays.n169 Tryz.prog Tryz.lays169_ren := {
  mixed := by kernel_rfl
  f169 := Tryz.func172.trans (congrArg some (by kernel_rfl))
  t0 := Tryz.underlying0
  a0 := Tryz.isAgg0
  z0 := Tryz.sizeOf0
  v0 := Tryz.zeroValue0
  t3 := Tryz.underlying3
  a3 := Tryz.isAgg3
  z3 := Tryz.sizeOf3
  v3 := Tryz.zeroValue3
  t9 := Tryz.underlying9
  a9 := Tryz.isAgg9
  z9 := Tryz.sizeOf9
  v9 := Tryz.zeroValue9
  t37 := Tryz.underlying217
  a37 := Tryz.isAgg217
  z37 := Tryz.sizeOf217
  v37 := Tryz.zeroValue217
  t70 := Tryz.underlying216
  a70 := Tryz.isAgg216
  z70 := Tryz.sizeOf216
  v70 := Tryz.zeroValue216
  t72 := Tryz.underlying219
  a72 := Tryz.isAgg219
  z72 := Tryz.sizeOf219
  v72 := Tryz.zeroValue219
  t127 := Tryz.underlying241
  a127 := Tryz.isAgg241
  z127 := Tryz.sizeOf241
  v127 := Tryz.zeroValue241 }
theorem Tryz.Builder_Extra_169 : Builder.Extra Tryz.prog Tryz.lays169_ren := {
  sizeBuilder := by kernel_rfl
  liesBuilder := by kernel_rfl
  t5 := Tryz.underlying5
  a5 := Tryz.isAgg5
  z5 := Tryz.sizeOf5
  v5 := Tryz.zeroValue5
  infoByte := by kernel_rfl
  cellsByte := by kernel_rfl
  sizeByte := by kernel_rfl
  neB5 := by decide }
open Go.RowKit in
theorem Tryz.Builder_String_any (B b : Nat) (l : List UInt8) (w : World) (h : Lib.IsBuilder 219 5 B b (Lib.byteCells l) w) (hBw : B ≤ w.heap.size) :
    Calls Tryz.prog 172 #[.pointer (some ⟨b, 0, none⟩)] w fun e w' => e = .returned (.string ⟨l.toArray⟩) ∧ Below B w w' := Any.Builder_String_any Tryz.lays169 Tryz.Builder_Extra_169 B b l w h hBw
def Tryz.lays103_ren : Go.Shelf.Ren := ⟨fun | 103 => 239 | 210 => 240 | 206 => 241 | n => n, fun | 9 => 9 | 4 => 4 | 24 => 165 | 3 => 3 | n => n, fun | n => n⟩
theorem Tryz.lays103 : Go.Proofs.Lays.n103 Tryz.prog Tryz.lays103_ren := {
  mixed := by kernel_rfl
  f103 := Tryz.func239.trans (congrArg some (by kernel_rfl))
  f206 := Tryz.func241.trans (congrArg some (by kernel_rfl))
  f210 := Tryz.func240.trans (congrArg some (by kernel_rfl))
  t3 := Tryz.underlying3
  a3 := Tryz.isAgg3
  z3 := Tryz.sizeOf3
  v3 := Tryz.zeroValue3
  t4 := Tryz.underlying4
  a4 := Tryz.isAgg4
  z4 := Tryz.sizeOf4
  v4 := Tryz.zeroValue4
  t9 := Tryz.underlying9
  a9 := Tryz.isAgg9
  z9 := Tryz.sizeOf9
  v9 := Tryz.zeroValue9
  t24 := Tryz.underlying165
  a24 := Tryz.isAgg165
  z24 := Tryz.sizeOf165
  v24 := Tryz.zeroValue165 }
open Go.RowKit in
theorem Tryz.strings_CutPrefix (s p : ByteArray) (w : World) :
    Calls Tryz.prog 239 #[.string s, .string p] w fun e w' => e = .returned (.tuple #[.string ⟨(Lib.trimPrefix s.data.toList p.data.toList).toArray⟩, .bool (Lib.hasPrefix s.data.toList p.data.toList)]) ∧ w' = w := Any.strings_CutPrefix Tryz.lays103 s p w
def Tryz.lays144_ren : Go.Shelf.Ren := ⟨fun | 144 => 220 | 143 => 110 | 219 => 149 | 217 => 188 | 225 => 189 | 224 => 190 | 267 => 191 | 266 => 207 | 314 => 208 | n => n, fun | 9 => 9 | 4 => 4 | 3 => 3 | 5 => 5 | 46 => 236 | 146 => 253 | 51 => 252 | n => n, fun | 1 => 3 | n => n⟩
theorem Tryz.lays144 : Go.Proofs.Lays.n144 Tryz.prog Tryz.lays144_ren := {
  mixed := by kernel_rfl
  f143 := Tryz.func110.trans (congrArg some (by kernel_rfl))
  f144 := Tryz.func220.trans (congrArg some (by kernel_rfl))
  f217 := Tryz.func188.trans (congrArg some (by kernel_rfl))
  f219 := Tryz.func149.trans (congrArg some (by kernel_rfl))
  f224 := Tryz.func190.trans (congrArg some (by kernel_rfl))
  f225 := Tryz.func189.trans (congrArg some (by kernel_rfl))
  f266 := Tryz.func207.trans (congrArg some (by kernel_rfl))
  f267 := Tryz.func191.trans (congrArg some (by kernel_rfl))
  f314 := Tryz.func208.trans (congrArg some (by kernel_rfl))
  t3 := Tryz.underlying3
  a3 := Tryz.isAgg3
  z3 := Tryz.sizeOf3
  v3 := Tryz.zeroValue3
  t4 := Tryz.underlying4
  a4 := Tryz.isAgg4
  z4 := Tryz.sizeOf4
  v4 := Tryz.zeroValue4
  t5 := Tryz.underlying5
  a5 := Tryz.isAgg5
  z5 := Tryz.sizeOf5
  v5 := Tryz.zeroValue5
  t9 := Tryz.underlying9
  a9 := Tryz.isAgg9
  z9 := Tryz.sizeOf9
  v9 := Tryz.zeroValue9
  t46 := Tryz.underlying236
  a46 := Tryz.isAgg236
  z46 := Tryz.sizeOf236
  v46 := Tryz.zeroValue236
  t51 := Tryz.underlying252
  a51 := Tryz.isAgg252
  z51 := Tryz.sizeOf252
  v51 := Tryz.zeroValue252
  t146 := Tryz.underlying253
  a146 := Tryz.isAgg253
  z146 := Tryz.sizeOf253
  v146 := Tryz.zeroValue253
  g1 := by kernel_rfl }
open Go.RowKit Go.Lib in
theorem Tryz.strings_Contains_one (s : ByteArray) (c : UInt8) (w : World) :
    Calls Tryz.prog 220 #[.string s, .string ⟨#[c]⟩] w fun e w' => e = .returned (.bool (decide (0 ≤ Lib.indexByte s.data.toList c))) ∧ w' = w := Any.strings_Contains_one Tryz.lays144 s c w
def Tryz.lays145_ren : Go.Shelf.Ren := ⟨fun | 145 => 231 | 220 => 236 | 219 => 149 | 217 => 188 | 225 => 189 | 224 => 190 | 267 => 191 | 266 => 207 | 314 => 208 | n => n, fun | 9 => 9 | 4 => 4 | 59 => 276 | 3 => 3 | 5 => 5 | 46 => 236 | 146 => 253 | 51 => 252 | n => n, fun | 1 => 3 | n => n⟩
theorem Tryz.lays145 : Go.Proofs.Lays.n145 Tryz.prog Tryz.lays145_ren := {
  mixed := by kernel_rfl
  f145 := Tryz.func231.trans (congrArg some (by kernel_rfl))
  f217 := Tryz.func188.trans (congrArg some (by kernel_rfl))
  f219 := Tryz.func149.trans (congrArg some (by kernel_rfl))
  f220 := Tryz.func236.trans (congrArg some (by kernel_rfl))
  f224 := Tryz.func190.trans (congrArg some (by kernel_rfl))
  f225 := Tryz.func189.trans (congrArg some (by kernel_rfl))
  f266 := Tryz.func207.trans (congrArg some (by kernel_rfl))
  f267 := Tryz.func191.trans (congrArg some (by kernel_rfl))
  f314 := Tryz.func208.trans (congrArg some (by kernel_rfl))
  t3 := Tryz.underlying3
  a3 := Tryz.isAgg3
  z3 := Tryz.sizeOf3
  v3 := Tryz.zeroValue3
  t4 := Tryz.underlying4
  a4 := Tryz.isAgg4
  z4 := Tryz.sizeOf4
  v4 := Tryz.zeroValue4
  t5 := Tryz.underlying5
  a5 := Tryz.isAgg5
  z5 := Tryz.sizeOf5
  v5 := Tryz.zeroValue5
  t9 := Tryz.underlying9
  a9 := Tryz.isAgg9
  z9 := Tryz.sizeOf9
  v9 := Tryz.zeroValue9
  t46 := Tryz.underlying236
  a46 := Tryz.isAgg236
  z46 := Tryz.sizeOf236
  v46 := Tryz.zeroValue236
  t51 := Tryz.underlying252
  a51 := Tryz.isAgg252
  z51 := Tryz.sizeOf252
  v51 := Tryz.zeroValue252
  t59 := Tryz.underlying276
  a59 := Tryz.isAgg276
  z59 := Tryz.sizeOf276
  v59 := Tryz.zeroValue276
  t146 := Tryz.underlying253
  a146 := Tryz.isAgg253
  z146 := Tryz.sizeOf253
  v146 := Tryz.zeroValue253
  g1 := by kernel_rfl }
open Go.RowKit Go.Lib in
theorem Tryz.strings_Cut (s sep : ByteArray) (m : Int) (w : World) (hs : s.size < 4294967281) (hm : w.cell? ⟨3, 0, none⟩ = some (.int .i64 m)) :
    Calls Tryz.prog 231 #[.string s, .string sep] w fun e w' => e = .returned (.tuple #[.string ⟨(Lib.cut s.data.toList sep.data.toList).1.toArray⟩, .string ⟨(Lib.cut s.data.toList sep.data.toList).2.1.toArray⟩, .bool (Lib.cut s.data.toList sep.data.toList).2.2]) ∧ ∃ n, w' = w.drewN n := Any.strings_Cut Tryz.lays145 s sep m w hs hm
def Tryz.laysM219_ren : Go.Shelf.Ren := ⟨fun | 219 => 149 | 217 => 188 | 225 => 189 | 224 => 190 | 267 => 191 | 266 => 207 | 314 => 208 | n => n, fun | 9 => 9 | 3 => 3 | 4 => 4 | 5 => 5 | 46 => 236 | 146 => 253 | 51 => 252 | n => n, fun | 1 => 3 | n => n⟩
theorem Tryz.laysM219 : Go.Proofs.LaysM.n219 Tryz.prog Tryz.laysM219_ren := {
  mixed := by kernel_rfl
  f217 := Tryz.func188.trans (congrArg some (by kernel_rfl))
  f219 := Tryz.func149.trans (congrArg some (by kernel_rfl))
  f224 := Tryz.func190.trans (congrArg some (by kernel_rfl))
  f225 := Tryz.func189.trans (congrArg some (by kernel_rfl))
  f266 := Tryz.func207.trans (congrArg some (by kernel_rfl))
  f267 := Tryz.func191.trans (congrArg some (by kernel_rfl))
  f314 := Tryz.func208.trans (congrArg some (by kernel_rfl))
  t3 := Tryz.underlying3
  a3 := Tryz.isAgg3
  z3 := Tryz.sizeOf3
  v3 := Tryz.zeroValue3
  t4 := Tryz.underlying4
  a4 := Tryz.isAgg4
  z4 := Tryz.sizeOf4
  v4 := Tryz.zeroValue4
  t5 := Tryz.underlying5
  a5 := Tryz.isAgg5
  z5 := Tryz.sizeOf5
  v5 := Tryz.zeroValue5
  t9 := Tryz.underlying9
  a9 := Tryz.isAgg9
  z9 := Tryz.sizeOf9
  v9 := Tryz.zeroValue9
  t46 := Tryz.underlying236
  a46 := Tryz.isAgg236
  z46 := Tryz.sizeOf236
  v46 := Tryz.zeroValue236
  t51 := Tryz.underlying252
  a51 := Tryz.isAgg252
  z51 := Tryz.sizeOf252
  v51 := Tryz.zeroValue252
  t146 := Tryz.underlying253
  a146 := Tryz.isAgg253
  z146 := Tryz.sizeOf253
  v146 := Tryz.zeroValue253
  g1 := by kernel_rfl
  i3 := by kernel_rfl
  i4 := by kernel_rfl
  i5 := by kernel_rfl
  i9 := by kernel_rfl
  i46 := by kernel_rfl
  i51 := by kernel_rfl
  i146 := by kernel_rfl
  m1 := by kernel_rfl
  s1_3 := fun w h => Go.Proofs.cell_of_shapedOpen_int (zero := #[.int .i64 0]) (t := 3) h (of_decide_eq_true (by kernel_rfl)) (by kernel_rfl) rfl (by kernel_rfl) (by kernel_rfl) Tryz.underlying3 }
def Tryz.lays100_ren : Go.Shelf.Ren := ⟨fun | 100 => 219 | 207 => 229 | n => n, fun | 9 => 9 | 4 => 4 | 3 => 3 | n => n, fun | n => n⟩
theorem Tryz.lays100 : Go.Proofs.Lays.n100 Tryz.prog Tryz.lays100_ren := {
  mixed := by kernel_rfl
  f100 := Tryz.func219.trans (congrArg some (by kernel_rfl))
  f207 := Tryz.func229.trans (congrArg some (by kernel_rfl))
  t3 := Tryz.underlying3
  a3 := Tryz.isAgg3
  z3 := Tryz.sizeOf3
  v3 := Tryz.zeroValue3
  t4 := Tryz.underlying4
  a4 := Tryz.isAgg4
  z4 := Tryz.sizeOf4
  v4 := Tryz.zeroValue4
  t9 := Tryz.underlying9
  a9 := Tryz.isAgg9
  z9 := Tryz.sizeOf9
  v9 := Tryz.zeroValue9 }
open Go.RowKit Go.Lib in
theorem Tryz.strings_HasSuffix (s p : ByteArray) (w : World) (hs : s.size ≤ 9223372036854775807) :
    Calls Tryz.prog 219 #[.string s, .string p] w fun e w' => e = .returned (.bool (Lib.hasSuffix s.data.toList p.data.toList)) ∧ w' = w := Any.strings_HasSuffix Tryz.lays100 s p w hs
def Tryz.lays102_ren : Go.Shelf.Ren := ⟨fun | 102 => 217 | 209 => 228 | 207 => 229 | n => n, fun | 9 => 9 | 4 => 4 | 3 => 3 | n => n, fun | n => n⟩
theorem Tryz.lays102 : Go.Proofs.Lays.n102 Tryz.prog Tryz.lays102_ren := {
  mixed := by kernel_rfl
  f102 := Tryz.func217.trans (congrArg some (by kernel_rfl))
  f207 := Tryz.func229.trans (congrArg some (by kernel_rfl))
  f209 := Tryz.func228.trans (congrArg some (by kernel_rfl))
  t3 := Tryz.underlying3
  a3 := Tryz.isAgg3
  z3 := Tryz.sizeOf3
  v3 := Tryz.zeroValue3
  t4 := Tryz.underlying4
  a4 := Tryz.isAgg4
  z4 := Tryz.sizeOf4
  v4 := Tryz.zeroValue4
  t9 := Tryz.underlying9
  a9 := Tryz.isAgg9
  z9 := Tryz.sizeOf9
  v9 := Tryz.zeroValue9 }
open Go.RowKit Go.Lib in
theorem Tryz.strings_TrimSuffix (s p : ByteArray) (w : World) (hs : s.size ≤ 9223372036854775807) :
    Calls Tryz.prog 217 #[.string s, .string p] w fun e w' => e = .returned (.string ⟨(Lib.trimSuffix s.data.toList p.data.toList).toArray⟩) ∧ w' = w := Any.strings_TrimSuffix Tryz.lays102 s p w hs
def Tryz.lays146_ren : Go.Shelf.Ren := ⟨fun | 146 => 38 | 221 => 73 | 268 => 108 | 138 => 109 | 143 => 110 | 195 => 146 | 197 => 147 | 218 => 148 | 219 => 149 | 260 => 187 | 217 => 188 | 225 => 189 | 224 => 190 | 267 => 191 | 266 => 207 | 314 => 208 | n => n, fun | 9 => 9 | 31 => 47 | 3 => 3 | 4 => 4 | 0 => 0 | 105 => 197 | 21 => 21 | 5 => 5 | 46 => 236 | 119 => 248 | 139 => 251 | 138 => 250 | 146 => 253 | 51 => 252 | n => n, fun | 1 => 3 | 3 => 4 | 4 => 5 | n => n⟩
theorem Tryz.lays146 : Go.Proofs.Lays.n146 Tryz.prog Tryz.lays146_ren := {
  mixed := by kernel_rfl
  f138 := Tryz.func109.trans (congrArg some (by kernel_rfl))
  f143 := Tryz.func110.trans (congrArg some (by kernel_rfl))
  f146 := Tryz.func38.trans (congrArg some (by kernel_rfl))
  f195 := Tryz.func146.trans (congrArg some (by kernel_rfl))
  f197 := Tryz.func147.trans (congrArg some (by kernel_rfl))
  f217 := Tryz.func188.trans (congrArg some (by kernel_rfl))
  f218 := Tryz.func148.trans (congrArg some (by kernel_rfl))
  f219 := Tryz.func149.trans (congrArg some (by kernel_rfl))
  f221 := Tryz.func73.trans (congrArg some (by kernel_rfl))
  f224 := Tryz.func190.trans (congrArg some (by kernel_rfl))
  f225 := Tryz.func189.trans (congrArg some (by kernel_rfl))
  f260 := Tryz.func187.trans (congrArg some (by kernel_rfl))
  f266 := Tryz.func207.trans (congrArg some (by kernel_rfl))
  f267 := Tryz.func191.trans (congrArg some (by kernel_rfl))
  f268 := Tryz.func108.trans (congrArg some (by kernel_rfl))
  f314 := Tryz.func208.trans (congrArg some (by kernel_rfl))
  t0 := Tryz.underlying0
  a0 := Tryz.isAgg0
  z0 := Tryz.sizeOf0
  v0 := Tryz.zeroValue0
  t3 := Tryz.underlying3
  a3 := Tryz.isAgg3
  z3 := Tryz.sizeOf3
  v3 := Tryz.zeroValue3
  t4 := Tryz.underlying4
  a4 := Tryz.isAgg4
  z4 := Tryz.sizeOf4
  v4 := Tryz.zeroValue4
  t5 := Tryz.underlying5
  a5 := Tryz.isAgg5
  z5 := Tryz.sizeOf5
  v5 := Tryz.zeroValue5
  t9 := Tryz.underlying9
  a9 := Tryz.isAgg9
  z9 := Tryz.sizeOf9
  v9 := Tryz.zeroValue9
  t21 := Tryz.underlying21
  a21 := Tryz.isAgg21
  z21 := Tryz.sizeOf21
  v21 := Tryz.zeroValue21
  t31 := Tryz.underlying47
  a31 := Tryz.isAgg47
  z31 := Tryz.sizeOf47
  v31 := Tryz.zeroValue47
  t46 := Tryz.underlying236
  a46 := Tryz.isAgg236
  z46 := Tryz.sizeOf236
  v46 := Tryz.zeroValue236
  t51 := Tryz.underlying252
  a51 := Tryz.isAgg252
  z51 := Tryz.sizeOf252
  v51 := Tryz.zeroValue252
  t105 := Tryz.underlying197
  a105 := Tryz.isAgg197
  z105 := Tryz.sizeOf197
  v105 := Tryz.zeroValue197
  t119 := Tryz.underlying248
  a119 := Tryz.isAgg248
  z119 := Tryz.sizeOf248
  t138 := Tryz.underlying250
  a138 := Tryz.isAgg250
  z138 := Tryz.sizeOf250
  v138 := Tryz.zeroValue250
  t139 := Tryz.underlying251
  a139 := Tryz.isAgg251
  z139 := Tryz.sizeOf251
  v139 := Tryz.zeroValue251
  t146 := Tryz.underlying253
  a146 := Tryz.isAgg253
  z146 := Tryz.sizeOf253
  v146 := Tryz.zeroValue253
  g1 := by kernel_rfl
  g3 := by kernel_rfl
  g4 := by kernel_rfl }
open Go.RowKit Go.Lib in
theorem Tryz.strings_Split (s sep : ByteArray) (m : Int) (w : World) (hs : s.size < 4294967281) (hm : w.cell? ⟨3, 0, none⟩ = some (.int .i64 m)) (h1 : 1 ≤ sep.size) :
    Calls Tryz.prog 38 #[.string s, .string sep] w fun e w' =>
      e = .returned (.slice (some ⟨w.heap.size, 0, none⟩) (Lib.countB s sep + 1) (Lib.countB s sep + 1)) ∧ w' = w.alloc (.cells ((Lib.splitB sep 0 (Lib.countB s sep) s).map Value.string).toArray 9) := Any.strings_Split Tryz.lays146 (by kernel_rfl) s sep m w hs hm h1
end Go.Proofs
namespace Go.Proofs.YtkocmkaeaagbaaaGreatDoor.Hex
open Go.RowKit Go.Proofs.YtkocmkaeaagbaaaGreatDoor.Mem Go.Proofs.YtkocmkaeaagbaaaGreatDoor.Nums Go.Proofs.YtkocmkaeaagbaaaGreatDoor.Wd Go.Proofs.YtkocmkaeaagbaaaGreatDoor.Hex Go.Proofs.YtkocmkaeaagbaaaGreatDoor.Prs
theorem splitK_ne (b c : UInt8) (h : b ≠ c) (k : Nat) (s : List UInt8) : Lib.splitK [c] 0 k (b :: s) = glue b (Lib.splitK [c] 0 k s) := by
 cases k with
 | zero => rfl
 | succ k =>
  have e : Lib.index (b :: s) [c] = if Lib.index s [c] == -1 then -1 else Lib.index s [c] + 1 := by
   rw [Lib.index]
   have : ([c] : List UInt8).isPrefixOf (b :: s) = false := by simp [List.isPrefixOf, Ne.symm h]
   rw [this]
   simp
  have hg := Lib.index_ge s [c]
  unfold Lib.splitK
  rw [e]
  by_cases h1 : (Lib.index s [c] == -1) = true
  ·rw [if_pos h1, if_pos (by decide), if_pos h1]
   rfl
  ·have h2 : Lib.index s [c] ≠ -1 := by simpa using h1
   have h3 : ¬ ((Lib.index s [c] + 1 == -1) = true) := by simp; omega
   rw [if_neg h1, if_neg h3, if_neg h1]
   have e2 : (Lib.index s [c] + 1).toNat = (Lib.index s [c]).toNat + 1 := by omega
   rw [e2]
   simp only [glue, Nat.add_zero, List.take_succ_cons, List.length_cons, List.length_nil, Nat.zero_add, List.drop_succ_cons]
theorem split_cut (c : UInt8) (s : List UInt8) : Lib.split s [c] = cutL c s := by
 unfold Lib.split
 induction s with
 | nil => rfl
 | cons b s ih =>
  by_cases h : b = c
  ·subst h
   rw [Lib.count_cons_eq, Nat.add_comm, cutL, if_pos rfl, ← ih]
   have e : Lib.index (b :: s) [b] = 0 := by rw [Lib.index]; simp [List.isPrefixOf]
   rw [Lib.splitK, e]
   rfl
  ·rw [Lib.count_cons_ne _ _ _ h, splitK_ne _ _ h, ih, cutL, if_neg h]
theorem splitB_cut (c : UInt8) (s : ByteArray) : Lib.splitB ⟨#[c]⟩ 0 (Lib.countB s ⟨#[c]⟩) s = cutB c s := by
 have h := Lib.splitB_data ⟨#[c]⟩ 0 (Lib.countB s ⟨#[c]⟩) s
 have e : Lib.splitK (⟨#[c]⟩ : ByteArray).data.toList 0 (Lib.countB s ⟨#[c]⟩) s.data.toList = cutL c s.data.toList := split_cut c s.data.toList
 rw [e] at h
 unfold cutB
 rw [← h, List.map_map]
 conv => lhs; rw [← List.map_id (Lib.splitB _ _ _ _)]
 apply List.map_congr_left
 intro x _
 cases x
 simp
theorem cutB_len (c : UInt8) (s : ByteArray) : Lib.countB s ⟨#[c]⟩ + 1 = (cutB c s).length := by
 rw [← splitB_cut, Lib.splitB_all ⟨#[c]⟩ (Nat.le_refl 1) 0 _ s rfl]
end Go.Proofs.YtkocmkaeaagbaaaGreatDoor.Hex
namespace Go.Proofs.YtkocmkaeaagbaaaGreatDoor.Prs
open Go.RowKit Go.Proofs.YtkocmkaeaagbaaaGreatDoor.Mem Go.Proofs.YtkocmkaeaagbaaaGreatDoor.Nums Go.Proofs.YtkocmkaeaagbaaaGreatDoor.Wd Go.Proofs.YtkocmkaeaagbaaaGreatDoor.Hex Go.Proofs.YtkocmkaeaagbaaaGreatDoor.Prs
abbrev NumP (b : Bool) (d : ByteArray) : Prop := DecP d ∧ (b = true → ∀ h : 0 < d.size, d[0].toNat ≠ 48)
def numD (b : Bool) (d : ByteArray) : Int × Bool := if NumP b d then ((if b = true then -(decN d.data.toList : Int) else decN d.data.toList), true) else (0, false)
theorem num_yes {b : Bool} {d : ByteArray} (h : NumP b d) : numD b d = ((if b = true then -(decN d.data.toList : Int) else decN d.data.toList), true) := by unfold numD; rw [if_pos h]
theorem num_no {b : Bool} {d : ByteArray} (h : ¬ NumP b d) : numD b d = (0, false) := by unfold numD; rw [if_neg h]
end Go.Proofs.YtkocmkaeaagbaaaGreatDoor.Prs
namespace Go.Proofs.YtkocmkaeaagbaaaGreatDoor.Hex
open Go.RowKit Go.Proofs.YtkocmkaeaagbaaaGreatDoor.Mem Go.Proofs.YtkocmkaeaagbaaaGreatDoor.Nums Go.Proofs.YtkocmkaeaagbaaaGreatDoor.Wd Go.Proofs.YtkocmkaeaagbaaaGreatDoor.Hex Go.Proofs.YtkocmkaeaagbaaaGreatDoor.Prs
theorem iter_below (w : World) (s : ByteArray) (p : Nat) : Below w.heap.size w (w.iter s p) := bal (Below.refl _ _) _
end Go.Proofs.YtkocmkaeaagbaaaGreatDoor.Hex
namespace Go.Proofs.YtkocmkaeaagbaaaGreatDoor.Prs
open Go.RowKit Go.Proofs.YtkocmkaeaagbaaaGreatDoor.Mem Go.Proofs.YtkocmkaeaagbaaaGreatDoor.Nums Go.Proofs.YtkocmkaeaagbaaaGreatDoor.Wd Go.Proofs.YtkocmkaeaagbaaaGreatDoor.Hex Go.Proofs.YtkocmkaeaagbaaaGreatDoor.Prs
theorem isDigit_any (n : Int) (w : World) :
  Calls Tryz.prog 211 #[.int .i32 n] w fun e w' => e = .returned (.bool (decide (48 ≤ n ∧ n ≤ 57))) ∧ w = w' := by
 by_cases h1 : 48 ≤ n
 ·by_cases h2 : n ≤ 57
  all_goals
   go_enter Tryz.func211, Tryz.ntmps211
   go_wp2_with fail
   go_ret
   exact ⟨ret_bool (by simp [h1, h2]), rfl⟩
 ·go_enter Tryz.func211, Tryz.ntmps211
  go_wp2_with fail
  go_ret
  exact ⟨ret_bool (by simp; omega), rfl⟩
set_option maxHeartbeats 4000000 in
theorem number_any (d : ByteArray) (w : World) :
  Calls Tryz.prog 194 #[.string d] w fun e w' => e = .returned (.tuple #[.int .i64 (numD false d).1, .bool (numD false d).2]) ∧ Below w.heap.size w w' := by
 go_enter Tryz.func194, Tryz.ntmps194
 by_cases hz : d.size = 0
 ·have HN := hid (num_no (b := false) (d := d) (fun e => e.1.1 hz))
  have he := is_empty hz
  go_wp2_with fail
  go_ret2
  exact ⟨by rw [HN.out]; rfl, Below.refl _ _⟩
 have he := not_empty' hz
 by_cases h5 : (5 : Int) < (d.size : Int)
 ·have HN := hid (num_no (b := false) (d := d) (fun e => by have := e.1.2.1; omega))
  go_wp2_with fail
  go_ret2
  exact ⟨by rw [HN.out]; rfl, Below.refl _ _⟩
 have hp : 0 < d.size := by omega
 have hp2 : (0 : Int) < (d.size : Int) := by omega
 by_cases hbad : d[0].toNat = 48 ∧ 1 < d.size
 ·obtain ⟨h0, hb⟩ := hbad
  have HN := hid (num_no (b := false) (d := d) (fun e => by have := e.1.2.2.1 hp h0; omega))
  have h0i : (d[0].toNat : Int) = 48 := by omega
  have h1 : (1 : Int) < (d.size : Int) := by omega
  go_wp2_with fail
  go_ret2
  exact ⟨by rw [HN.out]; rfl, Below.refl _ _⟩
 ·have HB := hid (show ∀ h : 0 < d.size, d[0].toNat = 48 → d.size = 1 from fun _ e => by
   by_cases h1 : d.size = 1
   ·exact h1
   ·exact absurd ⟨e, by omega⟩ hbad)
  have hq : (d[0].toNat : Int) ≠ 48 ∨ ((d[0].toNat : Int) = 48 ∧ ¬ (1 : Int) < (d.size : Int)) := by
   by_cases h0 : d[0].toNat = 48
   ·exact .inr ⟨by omega, fun h1 => hbad ⟨h0, by omega⟩⟩
   ·exact .inl (by omega)
  clear hbad
  have hs5 : d.size ≤ 5 := by omega
  rcases hq with hq | ⟨hq, hq1⟩
  all_goals
   go_wp2_with fail
   go_loopw [4] (fun v wr => ∃ k : Nat, k ≤ d.size ∧ v = .int .i64 (decN (d.data.toList.take k)) ∧ (∀ j (h : j < d.size), j < k → digitP d[j].toNat) ∧ wr = w.iter d k) (fun _ wr => d.size - wr.iterPos w.heap.size)
   case atStart => exact ⟨0, by omega, rfl, fun j _ h => by omega, rfl⟩
   case round =>
    obtain ⟨k, hk, rfl, hg, rfl⟩ := hrel
    have hn := decN_take_lt d k hk hs5 hg
    have HG := hid hg
    clear hg hq
    by_cases hlt : k < d.size
    ·have HT := hid (show d.data.toList.take (k + 1) = d.data.toList.take k ++ [d[k]] from List.take_succ_eq_append_getElem (by simpa using hlt))
     have HN := hid (show ∀ b', ¬ digitP d[k].toNat → numD b' d = (0, false) from fun b' h => num_no fun e => h (e.1.2.2.2 k hlt))
     have HS := hid (show digitP d[k].toNat → ∀ j (h : j < d.size), j < k + 1 → digitP d[j].toNat from fun h j hj hjk => by
       by_cases e : j = k
       ·subst e; exact h
       ·exact HG.out j hj (by omega))
     by_cases ha : d[k].toNat < 128
     ·have hnx := fun ty => run_next_ascii (P := Tryz.prog) w d k ty hlt ha
      by_cases hd : (48 : Int) ≤ d[k].toNat ∧ (d[k].toNat : Int) ≤ 57
      ·go_wp2_with fail
       refine (isDigit_any _ _).mono ?_
       rintro e w1 ⟨rfl, rfl⟩
       rw [decide_eq_true hd]
       obtain ⟨hd1, hd2⟩ := hd
       go_wp2_with fail
       refine ⟨⟨k + 1, by omega, ?_, HS.out (by unfold digitP; omega), rfl⟩, by simp; omega⟩
       rw [HT.out, decN_snoc]
       go_num
      ·go_wp2_with fail
       refine (isDigit_any _ _).mono ?_
       rintro e w1 ⟨rfl, rfl⟩
       rw [decide_eq_false hd]
       go_wp2_with fail
       go_ret2
       exact ⟨by rw [HN.out _ (by unfold digitP; omega)]; rfl, iter_below _ _ _⟩
     ·obtain ⟨d1, d2⟩ := decode_high d k hlt (by omega)
      have d3 := decode_le d k
      have hnx := fun ty => run_next_any (P := Tryz.prog) w d k ty hlt
      go_wp2_with fail
      refine (isDigit_any _ _).mono ?_
      rintro e w1 ⟨rfl, rfl⟩
      rw [decide_eq_false (by omega)]
      go_wp2_with fail
      go_ret2
      exact ⟨by rw [HN.out _ (by unfold digitP; omega)]; rfl, iter_below _ _ _⟩
    ·obtain rfl : k = d.size := by omega
     have hnx := fun ty => run_next_end (P := Tryz.prog) w d d.size ty hlt
     have HQ := hid (show decN (d.data.toList.take d.size) = decN d.data.toList by rw [size_list, List.take_length])
     have HN := hid (num_yes (show NumP false d from ⟨⟨hz, hs5, HB.out, fun j h => HG.out j h h⟩, fun e => by cases e⟩))
     go_wp2_with fail
     go_ret2
     exact ⟨by rw [HN.out, ← HQ.out]; rfl, iter_below _ _ _⟩
end Go.Proofs.YtkocmkaeaagbaaaGreatDoor.Prs
namespace Go.Proofs.YtkocmkaeaagbaaaGreatDoor.Hex
open Go.RowKit Go.Proofs.YtkocmkaeaagbaaaGreatDoor.Mem Go.Proofs.YtkocmkaeaagbaaaGreatDoor.Nums Go.Proofs.YtkocmkaeaagbaaaGreatDoor.Wd Go.Proofs.YtkocmkaeaagbaaaGreatDoor.Hex Go.Proofs.YtkocmkaeaagbaaaGreatDoor.Prs
/-- The library's variable internal/bytealg.MaxLen holds some number. -/
def MLok (w : World) : Prop := ∃ m, w.cell? ⟨3, 0, none⟩ = some (.int .i64 m)
theorem MLok.below {w w' : World} (h : MLok w) (hb : Below w.heap.size w w') : MLok w' := by
 obtain ⟨m, hm⟩ := h
 exact ⟨m, (hb.cell (World.block_lt_of_cell? _ _ hm)).trans hm⟩
theorem split_cap (s : ByteArray) (c : UInt8) (w : World) (hs : s.size ≤ 100000) (hM : MLok w) :
  Calls Tryz.prog 38 #[.string s, .string ⟨#[c]⟩] w fun e w' => ∃ b cap, e = .returned (.slice (some ⟨b, 0, none⟩) (cutB c s).length cap) ∧ StrsAt w' b 0 (cutB c s) ∧ Below w.heap.size w w' ∧ (cutB c s).length ≤ cap := by
 obtain ⟨m, hm⟩ := hM
 refine (Tryz.strings_Split s ⟨#[c]⟩ m w (by omega) hm (Nat.le_refl 1)).mono ?_
 rintro e w' ⟨rfl, rfl⟩
 refine ⟨w.heap.size, Lib.countB s ⟨#[c]⟩ + 1, by rw [← cutB_len], fun j hj => ?_, bal (Below.refl _ _) _, by rw [← cutB_len]; exact Nat.le_refl _⟩
 rw [Nat.zero_add, World.cell?_alloc_at _ _ _ _ rfl, splitB_cut]
 simp [List.getElem?_eq_getElem hj]
end Go.Proofs.YtkocmkaeaagbaaaGreatDoor.Hex
namespace Go.Proofs.YtkocmkaeaagbaaaGreatDoor.Prs
open Go.RowKit Go.Proofs.YtkocmkaeaagbaaaGreatDoor.Mem Go.Proofs.YtkocmkaeaagbaaaGreatDoor.Nums Go.Proofs.YtkocmkaeaagbaaaGreatDoor.Wd Go.Proofs.YtkocmkaeaagbaaaGreatDoor.Hex Go.Proofs.YtkocmkaeaagbaaaGreatDoor.Prs
set_option maxHeartbeats 1000000 in
theorem linesOf_cap (s : ByteArray) (w : World) (hs : s.size ≤ 100000) (hM : MLok w) :
  Calls Tryz.prog 17 #[.string s] w fun e w' => ∃ b cap, e = .returned (.slice (some ⟨b, 0, none⟩) (linesB s).length cap) ∧ StrsAt w' b 0 (linesB s) ∧ Below w.heap.size w w' ∧ (linesB s).length ≤ cap := by
 rw [linesB_eq]
 have HC := hid (split_cap s 10 w hs hM)
 have HNE := hid (show ∃ L, (cutB 10 s).length = L + 1 by
  have : (cutB 10 s) ≠ [] := by unfold cutB; simp [cutL_ne]
  exact ⟨(cutB 10 s).length - 1, by have := List.length_pos_iff.2 this; omega⟩)
 have HLL := hid (show (cutB 10 s).length ≤ 100001 by
  have := cutL_len 10 s.data.toList
  rw [← size_list] at this
  simp only [cutB, List.length_map]
  omega)
 clear hs hM
 generalize cutB 10 s = zs at *
 obtain ⟨L, hL⟩ := HNE.out
 have hL2 : L ≤ 100000 := by have := HLL.out; omega
 go_enter Tryz.func17, Tryz.ntmps17
 go_wp2_with fail
 refine HC.out.mono ?_
 rintro e w1 ⟨lb, lc, rfl, hS, hb, hlc⟩
 have S1 := hid hS
 have B1 := hid hb
 have hlc2 : (L : Int) + 1 ≤ (lc : Int) := by omega
 obtain ⟨zl, hzl, hzL⟩ := last_at hL
 have hLt : L < zs.length := by omega
 have cL := hS L hLt
 rw [Nat.zero_add, hzL hLt] at cL
 have HL := hid hL
 have HZL := hid hzl
 rw [hL]
 clear hS hb HC hlc HNE HLL hL hzl hzL hLt
 by_cases hz : zl.size = 0
 ·have HZ := hid (linesZ_yes HZL.out hz)
  have he := is_empty hz
  clear hz
  go_wp2_with fail
  go_ret
  refine ⟨lb, lc, ?_, ?_, B1.out, ?_⟩
  ·rw [HZ.out, List.length_dropLast, HL.out]; rfl
  ·rw [HZ.out]; exact StrsAt.drop S1.out
  ·rw [HZ.out, List.length_dropLast, HL.out]; omega
 ·have HZ := hid (linesZ_no HZL.out hz)
  have he := not_empty' hz
  clear hz
  go_wp2_with fail
  go_ret
  refine ⟨lb, lc, ?_, ?_, B1.out, ?_⟩
  ·rw [HZ.out, HL.out]; rfl
  ·rw [HZ.out]; exact S1.out
  ·rw [HZ.out, HL.out]; omega
theorem linesOf_any (s : ByteArray) (w : World) (hs : s.size ≤ 100000) (hM : MLok w) :
  Calls Tryz.prog 17 #[.string s] w fun e w' => ∃ b cap, e = .returned (.slice (some ⟨b, 0, none⟩) (linesB s).length cap) ∧ StrsAt w' b 0 (linesB s) ∧ Below w.heap.size w w' :=
 (linesOf_cap s w hs hM).mono fun _ _ ⟨b, cap, h1, h2, h3, _⟩ => ⟨b, cap, h1, h2, h3⟩
end Go.Proofs.YtkocmkaeaagbaaaGreatDoor.Prs
