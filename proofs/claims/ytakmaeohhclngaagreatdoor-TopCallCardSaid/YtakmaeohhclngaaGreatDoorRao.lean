/- Plain facts on keys as numbers: which keys may be, and how a key's parts lie in its number. · The walks of word.framesFit, word.badgeFits, word.Check. · The walks of word.parts and word.Pack. · The walk of word.Unpack. · errors.As at the two targets of api.Tell: what the model's entries for internal/reflectlite give. · errors.As at the two targets of api.Tell, walked: an error by its number, and a fault. · api.Tell and keyholdref.Is, walked. -/
import Derived.Test.YtakmaeohhclngaaGreatDoorChecked
import Derived.WalkKit
import Derived.WalkSpells
import Derived.WalkLawsBesides
import Derived.Laws.EntriesVeiled
import Derived.Laws.BitsLemmas
import Derived.Laws.Bits64
import Derived.Test.YtakmaeohhclngaaGreatDoorProg
import Derived.LaidEql
import Derived.Stop.Asserts
import Derived.RowKitTokens
namespace Go.Proofs.YtakmaeohhclngaaGreatDoor
namespace KP
def fitsB (k b l m : Int) : Bool :=
 if l < 1 ∨ 24 < l ∨ b < 0 ∨ 24 - l < b then false
 else if k = 1 then decide (0 ≤ m ∧ m ≤ l) else decide (l = 1 ∧ m = 0)
def badgeB (k g : Int) : Bool :=
 if k = 7 ∨ k = 8 then decide (0 ≤ g ∧ g ≤ 65535) else decide (g = 0)
def chk (k b l m r g : Int) : Int :=
 if k < 0 ∨ 8 < k then 3
 else if k = 0 then (if b = 0 ∧ l = 0 ∧ m = 0 ∧ r = 0 ∧ g = 0 then 0 else 2)
 else if fitsB k b l m = false then 2
 else if r < 0 ∨ 7 < r then 4
 else if badgeB k g = false then 2
 else 0
/-- A key that may be has parts within their bits. -/
theorem chk_zero {k b l m r g : Int} (h : chk k b l m r g = 0) :
  0 ≤ k ∧ k ≤ 8 ∧ 0 ≤ b ∧ b ≤ 23 ∧ 0 ≤ l ∧ l ≤ 24 ∧ 0 ≤ m ∧ m ≤ 24 ∧ 0 ≤ r ∧ r ≤ 7 ∧ 0 ≤ g ∧ g ≤ 65535 := by
 unfold chk at h
 split at h
 ·omega
 split at h
 ·split at h <;> omega
 split at h
 ·omega
 rename_i h1 h2 h3
 split at h
 ·omega
 split at h
 ·omega
 rename_i h4 h5
 simp only [Bool.not_eq_false] at h3 h5
 unfold fitsB at h3
 unfold badgeB at h5
 split at h3
 ·simp at h3
 rename_i h6
 have h7 : (0 ≤ m ∧ m ≤ l) ∨ (l = 1 ∧ m = 0) := by
  split at h3
  ·exact Or.inl (of_decide_eq_true h3)
  ·exact Or.inr (of_decide_eq_true h3)
 have h8 : (0 ≤ g ∧ g ≤ 65535) ∨ g = 0 := by
  split at h5
  ·exact Or.inl (of_decide_eq_true h5)
  ·exact Or.inr (of_decide_eq_true h5)
 omega
theorem fitsB_iff (k b l m : Int) : fitsB k b l m = true ↔ (1 ≤ l ∧ l ≤ 24 ∧ 0 ≤ b ∧ b ≤ 24 - l ∧ (k = 1 → 0 ≤ m ∧ m ≤ l) ∧ (k ≠ 1 → l = 1 ∧ m = 0)) := by
 unfold fitsB
 split
 ·simp; omega
 ·split <;> simp <;> omega
theorem badgeB_iff (k g : Int) : badgeB k g = true ↔ (0 ≤ g ∧ g ≤ 65535 ∧ (k ≠ 7 → k ≠ 8 → g = 0)) := by
 unfold badgeB
 split <;> simp <;> omega
theorem chk_1 {k b l m r g : Int} (h : k < 0 ∨ 8 < k) : chk k b l m r g = 3 := by unfold chk; rw [if_pos h]
theorem chk_2 {b l m r g : Int} (h : b = 0 ∧ l = 0 ∧ m = 0 ∧ r = 0 ∧ g = 0) : chk 0 b l m r g = 0 := by unfold chk; simp [h]
theorem chk_3 {b l m r g : Int} (h : ¬ (b = 0 ∧ l = 0 ∧ m = 0 ∧ r = 0 ∧ g = 0)) : chk 0 b l m r g = 2 := by unfold chk; rw [if_neg (by omega), if_pos rfl, if_neg h]
theorem chk_4 {k b l m r g : Int} (h : 1 ≤ k) (h8 : k ≤ 8) (f : fitsB k b l m = false) : chk k b l m r g = 2 := by unfold chk; rw [if_neg (by omega), if_neg (by omega), if_pos f]
theorem chk_5 {k b l m r g : Int} (h : 1 ≤ k) (h8 : k ≤ 8) (f : fitsB k b l m = true) (hr : r < 0 ∨ 7 < r) : chk k b l m r g = 4 := by unfold chk; rw [if_neg (by omega), if_neg (by omega), if_neg (by simp [f]), if_pos hr]
theorem chk_6 {k b l m r g : Int} (h : 1 ≤ k) (h8 : k ≤ 8) (f : fitsB k b l m = true) (hr : ¬ (r < 0 ∨ 7 < r)) (hb : badgeB k g = false) : chk k b l m r g = 2 := by unfold chk; rw [if_neg (by omega), if_neg (by omega), if_neg (by simp [f]), if_neg hr, if_pos hb]
theorem chk_7 {k b l m r g : Int} (h : 1 ≤ k) (h8 : k ≤ 8) (f : fitsB k b l m = true) (hr : ¬ (r < 0 ∨ 7 < r)) (hb : badgeB k g = true) : chk k b l m r g = 0 := by unfold chk; rw [if_neg (by omega), if_neg (by omega), if_neg (by simp [f]), if_neg hr, if_neg (by simp [hb])]
end KP
end Go.Proofs.YtakmaeohhclngaaGreatDoor
namespace Go.Proofs.YtakmaeohhclngaaGreatDoor
open Go.RowKit
theorem ret_bool {a b : Bool} (h : a = b) : Ending.returned (.bool a) = .returned (.bool b) := by rw [h]
theorem ret_int {k : IntKind} {a b : Int} (h : a = b) : Ending.returned (.int k a) = .returned (.int k b) := by rw [h]
theorem bcell {W w1 : World} (hb : Below W.heap.size W w1) : (∀ b o, b < W.heap.size → w1.cell? ⟨b, o, none⟩ = W.cell? ⟨b, o, none⟩) ∧ (∀ b o, b < W.heap.size → w1.frozen? ⟨b, o, none⟩ = W.frozen? ⟨b, o, none⟩) :=
 ⟨fun b o h => hb.cell (p := ⟨b, o, none⟩) h, fun b o h => hb.frozen (p := ⟨b, o, none⟩) h⟩
/-- An error by its number: none, or api's. -/
def errV (n : Int) : Value := if n = 0 then .nilIface else .iface 42 (.int .i64 n)
set_option maxHeartbeats 400000 in
theorem frames_any (k b l m r g : Int) (w : World) :
  Calls Tryz.prog 144 #[.agg #[.int .i64 k, .int .i64 b, .int .i64 l, .int .i64 m, .int .i64 r, .int .i64 g]] w
   fun e w' => e = .returned (.bool (KP.fitsB k b l m)) ∧ Below w.heap.size w w' := by
 go_enter Tryz.func144, Tryz.ntmps144
 go_wp2
 all_goals
  go_ret
  exact ⟨ret_bool (by rw [Bool.eq_iff_iff, KP.fitsB_iff]; simp at *; omega), (Below.refl _ _).alloc (Nat.le_refl _) _⟩
set_option maxHeartbeats 400000 in
theorem badge_any (k b l m r g : Int) (w : World) :
  Calls Tryz.prog 145 #[.agg #[.int .i64 k, .int .i64 b, .int .i64 l, .int .i64 m, .int .i64 r, .int .i64 g]] w
   fun e w' => e = .returned (.bool (KP.badgeB k g)) ∧ Below w.heap.size w w' := by
 go_enter Tryz.func145, Tryz.ntmps145
 go_wp2
 all_goals
  go_ret
  exact ⟨ret_bool (by rw [Bool.eq_iff_iff, KP.badgeB_iff]; simp at *; omega), (Below.refl _ _).alloc (Nat.le_refl _) _⟩
set_option maxHeartbeats 1000000 in
theorem check_any (k b l m r g : Int) (w : World) :
  Calls Tryz.prog 134 #[.agg #[.int .i64 k, .int .i64 b, .int .i64 l, .int .i64 m, .int .i64 r, .int .i64 g]] w
   fun e w' => e = .returned (errV (KP.chk k b l m r g)) ∧ Below w.heap.size w w' := by
 by_cases h1 : k < 0 ∨ 8 < k
 ·rw [KP.chk_1 h1]
  rcases h1 with h1 | h1
  all_goals
   go_enter Tryz.func134, Tryz.ntmps134
   go_wp2_with fail
   go_ret
   exact ⟨rfl, (Below.refl _ _).alloc (Nat.le_refl _) _⟩
 have hk0 : 0 ≤ k := by omega
 have hk8 : k ≤ 8 := by omega
 clear h1
 by_cases h0 : k = 0
 ·subst h0
  by_cases hz : b = 0 ∧ l = 0 ∧ m = 0 ∧ r = 0 ∧ g = 0
  ·rw [KP.chk_2 hz]
   obtain ⟨rfl, rfl, rfl, rfl, rfl⟩ := hz
   go_enter Tryz.func134, Tryz.ntmps134
   go_wp2_with fail
   go_ret
   exact ⟨rfl, (Below.refl _ _).alloc (Nat.le_refl _) _⟩
  ·rw [KP.chk_3 hz]
   have HZ : Hid (¬ (b = 0 ∧ l = 0 ∧ m = 0 ∧ r = 0 ∧ g = 0)) := hz
   clear hz
   go_enter Tryz.func134, Tryz.ntmps134
   go_wp2_with fail
   all_goals first | (go_ret; exact ⟨rfl, (Below.refl _ _).alloc (Nat.le_refl _) _⟩) | exact absurd ⟨by assumption, by assumption, by assumption, by assumption, by assumption⟩ HZ.out
 have hk1 : 1 ≤ k := by omega
 have hke : (k == 0) = false := by simp [h0]
 clear h0 hk0
 cases hf : KP.fitsB k b l m with
 | false =>
  rw [KP.chk_4 hk1 hk8 hf]
  go_enter Tryz.func134, Tryz.ntmps134
  go_wp2_with (go_at_call 144; refine (frames_any _ _ _ _ _ _ _).mono ?_; rintro e w' ⟨rfl, hb⟩; obtain ⟨hc, hz⟩ := bcell hb)
  go_ret
  exact ⟨rfl, ((Below.refl _ _).alloc (Nat.le_refl _) _).trans (hb.mono (by simp))⟩
 | true =>
  by_cases hr : r < 0 ∨ 7 < r
  ·rw [KP.chk_5 hk1 hk8 hf hr]
   rcases hr with hr | hr
   all_goals
    go_enter Tryz.func134, Tryz.ntmps134
    go_wp2_with (go_at_call 144; refine (frames_any _ _ _ _ _ _ _).mono ?_; rintro e w' ⟨rfl, hb⟩; obtain ⟨hc, hz⟩ := bcell hb)
    go_ret
    exact ⟨rfl, ((Below.refl _ _).alloc (Nat.le_refl _) _).trans (hb.mono (by simp))⟩
  have hr0 : 0 ≤ r := by omega
  have hr7 : r ≤ 7 := by omega
  cases hg : KP.badgeB k g with
  | false =>
   rw [KP.chk_6 hk1 hk8 hf hr hg]
   clear hr
   go_enter Tryz.func134, Tryz.ntmps134
   go_wp2_with (first | (go_at_call 144; refine (frames_any _ _ _ _ _ _ _).mono ?_; rintro e w1 ⟨rfl, hb⟩; obtain ⟨hc, hz⟩ := bcell hb) | (go_at_call 145; refine (badge_any _ _ _ _ _ _ _).mono ?_; rintro e w2 ⟨rfl, hb2⟩))
   go_ret
   exact ⟨rfl, (((Below.refl _ _).alloc (Nat.le_refl _) _).trans (hb.mono (by simp))).trans (hb2.mono (by have := hb.size; simp at this; omega))⟩
  | true =>
   rw [KP.chk_7 hk1 hk8 hf hr hg]
   clear hr
   go_enter Tryz.func134, Tryz.ntmps134
   go_wp2_with (first | (go_at_call 144; refine (frames_any _ _ _ _ _ _ _).mono ?_; rintro e w1 ⟨rfl, hb⟩; obtain ⟨hc, hz⟩ := bcell hb) | (go_at_call 145; refine (badge_any _ _ _ _ _ _ _).mono ?_; rintro e w2 ⟨rfl, hb2⟩))
   go_ret
   exact ⟨rfl, (((Below.refl _ _).alloc (Nat.le_refl _) _).trans (hb.mono (by simp))).trans (hb2.mono (by have := hb.size; simp at this; omega))⟩
theorem cells_set {W : World} {B : Nat} {arr : Array Value} (h : ∀ o, W.cell? ⟨B, o, none⟩ = arr[o]?) (i : Nat) (hi : i < arr.size) (v : Value) :
  ∀ o, (W.setCell ⟨B, i, none⟩ v).cell? ⟨B, o, none⟩ = (arr.setIfInBounds i v)[o]? := by
 intro o
 by_cases ho : i = o
 ·subst ho
  rw [World.cell?_setCell_same W _ _ ((h i).trans (Array.getElem?_eq_getElem hi))]
  simp [hi]
 ·rw [World.cell?_setCell_other W _ _ _ (by intro e; cases e; exact ho rfl), h o]
  simp [ho]
theorem cells_alloc {W : World} {C : Nat} {arr : Array Value} (h : ∀ o, W.cell? ⟨C, o, none⟩ = arr[o]?) (hlt : C < W.heap.size) (ob : Obj) :
  ∀ o, (W.alloc ob).cell? ⟨C, o, none⟩ = arr[o]? := by
 intro o
 rw [World.cell?_alloc_lt _ _ ⟨C, o, none⟩ hlt, h o]
end Go.Proofs.YtakmaeohhclngaaGreatDoor
namespace Go.Proofs.YtakmaeohhclngaaGreatDoor
open Go.RowKit Go.Extern.Stop Go.Stop Go.Extern
theorem rlm (z : Sem Value) (f : TypeId → Addr → Nat → Nat → Sem Value) (v : Value) :
  ReflectliteValue.method z f #[v] = (do match ← ReflectliteValue.parts v with | none => z | some (t, a, fl) => f t a fl (fl % 32)) := rfl
theorem methodKind (h : Value) (w : World) : (Go.method 325 147 (.agg #[h]) "Kind").run Tryz.prog w = .ok (165, h) w := by kernel_rfl
theorem methodElem (h : Value) (w : World) : (Go.method 325 147 (.agg #[h]) "Elem").run Tryz.prog w = .ok (177, .agg #[h]) w := by kernel_rfl
theorem methodImplements (h : Value) (w : World) : (Go.method 325 147 (.agg #[h]) "Implements").run Tryz.prog w = .ok (178, .agg #[h]) w := by kernel_rfl
theorem methodAssignableTo (h : Value) (w : World) : (Go.method 325 147 (.agg #[h]) "AssignableTo").run Tryz.prog w = .ok (175, .agg #[h]) w := by kernel_rfl
theorem assignEF (w : World) : (ReflectliteType.relation "AssignableTo" ReflectliteType.assignableTo #[.agg #[.pointer (some ⟨3, 42, none⟩)], .iface 147 (.agg #[.pointer (some ⟨3, 68, none⟩)])]).run Tryz.prog w = .ok (.bool false) w := by kernel_rfl
theorem valueOfP_F (t : Addr) (w : World) : (ReflectliteValue.unpack (.iface 70 (.pointer (some t)))).run Tryz.prog w
  = .ok (.agg #[.pointer (some ⟨3, 70, none⟩), .pointer (some ⟨w.heap.size, 0, none⟩), .int .u64 150]) (w.alloc (.cells #[.pointer (some t)] 70)) := by kernel_rfl
theorem typeP_F (a : Addr) (w : World) : (ReflectliteValue.methodAny (ReflectliteValue.valueError "reflectlite.Value.Type" 0) (fun t _ _ _ => ReflectliteType.toType t) #[.agg #[.pointer (some ⟨3, 70, none⟩), .pointer (some a), .int .u64 150]]).run Tryz.prog w
  = .ok (.iface 147 (.agg #[.pointer (some ⟨3, 70, none⟩)])) w := by kernel_rfl
theorem kindP_F (w : World) : ((ReflectliteType.abiMethod fun t => (fun a : Nat => Value.int IntKind.u8 (a : Int)) <$> Rtype.kind t) #[.pointer (some ⟨3, 70, none⟩)]).run Tryz.prog w = .ok (.int .u8 22) w := by kernel_rfl
theorem kindE_F (w : World) : ((ReflectliteType.abiMethod fun t => (fun a : Nat => Value.int IntKind.u8 (a : Int)) <$> Rtype.kind t) #[.pointer (some ⟨3, 68, none⟩)]).run Tryz.prog w = .ok (.int .u8 22) w := by kernel_rfl
theorem partsP_F (a : Addr) (w : World) : (ReflectliteValue.parts (.agg #[.pointer (some ⟨3, 70, none⟩), .pointer (some a), .int .u64 150])).run Tryz.prog w = .ok (some (70, a, 150)) w := by kernel_rfl
theorem isNilP_F (a p : Addr) (W : World) (ha : W.cell? a = some (.pointer (some p))) :
  (ReflectliteValue.method (ReflectliteValue.valueError "reflectlite.Value.IsNil" 0) ReflectliteValue.isNil #[.agg #[.pointer (some ⟨3, 70, none⟩), .pointer (some a), .int .u64 150]]).run Tryz.prog W = .ok (.bool false) W := by
 rw [rlm]
 simp only [Sem.run_bind, partsP_F, Result.andThen]
 simp [ReflectliteValue.isNil, loadVar, isAgg, underlying, Tryz.underlying70, ha, Result.andThen]
theorem elemP_F (w : World) : (ReflectliteType.method ReflectliteType.elem #[.agg #[.pointer (some ⟨3, 70, none⟩)]]).run Tryz.prog w = .ok (.iface 147 (.agg #[.pointer (some ⟨3, 68, none⟩)])) w := by kernel_rfl
theorem implE_F (w : World) : (ReflectliteType.relation "Implements" ReflectliteType.implements_ #[.agg #[.pointer (some ⟨3, 68, none⟩)], .iface 147 (.agg #[.pointer (some ⟨3, 32, none⟩)])]).run Tryz.prog w = .ok (.bool true) w := by kernel_rfl
theorem valueOfP_E (t : Addr) (w : World) : (ReflectliteValue.unpack (.iface 73 (.pointer (some t)))).run Tryz.prog w
  = .ok (.agg #[.pointer (some ⟨3, 73, none⟩), .pointer (some ⟨w.heap.size, 0, none⟩), .int .u64 150]) (w.alloc (.cells #[.pointer (some t)] 73)) := by kernel_rfl
theorem typeP_E (a : Addr) (w : World) : (ReflectliteValue.methodAny (ReflectliteValue.valueError "reflectlite.Value.Type" 0) (fun t _ _ _ => ReflectliteType.toType t) #[.agg #[.pointer (some ⟨3, 73, none⟩), .pointer (some a), .int .u64 150]]).run Tryz.prog w
  = .ok (.iface 147 (.agg #[.pointer (some ⟨3, 73, none⟩)])) w := by kernel_rfl
theorem kindP_E (w : World) : ((ReflectliteType.abiMethod fun t => (fun a : Nat => Value.int IntKind.u8 (a : Int)) <$> Rtype.kind t) #[.pointer (some ⟨3, 73, none⟩)]).run Tryz.prog w = .ok (.int .u8 22) w := by kernel_rfl
theorem kindE_E (w : World) : ((ReflectliteType.abiMethod fun t => (fun a : Nat => Value.int IntKind.u8 (a : Int)) <$> Rtype.kind t) #[.pointer (some ⟨3, 42, none⟩)]).run Tryz.prog w = .ok (.int .u8 2) w := by kernel_rfl
theorem partsP_E (a : Addr) (w : World) : (ReflectliteValue.parts (.agg #[.pointer (some ⟨3, 73, none⟩), .pointer (some a), .int .u64 150])).run Tryz.prog w = .ok (some (73, a, 150)) w := by kernel_rfl
theorem isNilP_E (a p : Addr) (W : World) (ha : W.cell? a = some (.pointer (some p))) :
  (ReflectliteValue.method (ReflectliteValue.valueError "reflectlite.Value.IsNil" 0) ReflectliteValue.isNil #[.agg #[.pointer (some ⟨3, 73, none⟩), .pointer (some a), .int .u64 150]]).run Tryz.prog W = .ok (.bool false) W := by
 rw [rlm]
 simp only [Sem.run_bind, partsP_E, Result.andThen]
 simp [ReflectliteValue.isNil, loadVar, isAgg, underlying, Tryz.underlying73, ha, Result.andThen]
theorem elemP_E (w : World) : (ReflectliteType.method ReflectliteType.elem #[.agg #[.pointer (some ⟨3, 73, none⟩)]]).run Tryz.prog w = .ok (.iface 147 (.agg #[.pointer (some ⟨3, 42, none⟩)])) w := by kernel_rfl
theorem implE_E (w : World) : (ReflectliteType.relation "Implements" ReflectliteType.implements_ #[.agg #[.pointer (some ⟨3, 42, none⟩)], .iface 147 (.agg #[.pointer (some ⟨3, 32, none⟩)])]).run Tryz.prog w = .ok (.bool true) w := by kernel_rfl
theorem typeOfE_E (v : Value) (w : World) : (ReflectliteType.typeOf #[.iface 42 v]).run Tryz.prog w = .ok (.iface 147 (.agg #[.pointer (some ⟨3, 42, none⟩)])) w := by kernel_rfl
theorem assignE_E (w : World) : (ReflectliteType.relation "AssignableTo" ReflectliteType.assignableTo #[.agg #[.pointer (some ⟨3, 42, none⟩)], .iface 147 (.agg #[.pointer (some ⟨3, 42, none⟩)])]).run Tryz.prog w = .ok (.bool true) w := by kernel_rfl
theorem elemOf_E (w : World) : (Rtype.elem? 73).run Tryz.prog w = .ok (some 42) w := by kernel_rfl
theorem mkE_E (p : Addr) (w : World) : (ReflectliteValue.mk 42 p ReflectliteValue.flagAddr).run Tryz.prog w = .ok (.agg #[.pointer (some ⟨3, 42, none⟩), .pointer (some p), .int .u64 386]) w := by kernel_rfl
theorem elemV_E (a p : Addr) (W : World) (ha : W.cell? a = some (.pointer (some p))) :
  (ReflectliteValue.method (ReflectliteValue.valueError "reflectlite.Value.Elem" 0) ReflectliteValue.elem #[.agg #[.pointer (some ⟨3, 73, none⟩), .pointer (some a), .int .u64 150]]).run Tryz.prog W
   = .ok (.agg #[.pointer (some ⟨3, 42, none⟩), .pointer (some p), .int .u64 386]) W := by
 rw [rlm]
 simp only [Sem.run_bind, partsP_E, Result.andThen]
 simp [ReflectliteValue.elem, loadVar, isAgg, underlying, Tryz.underlying73, ha, Result.andThen, elemOf_E, mkE_E]
theorem partsA_E (a : Addr) (w : World) : (ReflectliteValue.parts (.agg #[.pointer (some ⟨3, 42, none⟩), .pointer (some a), .int .u64 386])).run Tryz.prog w = .ok (some (42, a, 386)) w := by kernel_rfl
theorem partsE_E (a : Addr) (w : World) : (ReflectliteValue.parts (.agg #[.pointer (some ⟨3, 42, none⟩), .pointer (some a), .int .u64 130])).run Tryz.prog w = .ok (some (42, a, 130)) w := by kernel_rfl
theorem directE_E (w : World) : (Rtype.directlyAssignable 42 42).run Tryz.prog w = .ok true w := by kernel_rfl
theorem valueOfE_E (n : Int) (w : World) : (ReflectliteValue.unpack (.iface 42 (.int .i64 n))).run Tryz.prog w
  = .ok (.agg #[.pointer (some ⟨3, 42, none⟩), .pointer (some ⟨w.heap.size, 0, none⟩), .int .u64 130]) (w.alloc (.cells #[.int .i64 n] 42)) := by kernel_rfl
theorem setE_E (ta b : Addr) (n : Int) (old : Value) (W : World) (hb : W.cell? b = some (.int .i64 n)) (ht : W.cell? ta = some old) (hf : W.frozen? ta = false) :
  (ReflectliteValue.set #[.agg #[.pointer (some ⟨3, 42, none⟩), .pointer (some ta), .int .u64 386], .agg #[.pointer (some ⟨3, 42, none⟩), .pointer (some b), .int .u64 130]]).run Tryz.prog W
   = .ok (.tuple #[]) (W.setCell ta (.int .i64 n)) := by
 show (ReflectliteValue.parts (.agg #[.pointer (some ⟨3, 42, none⟩), .pointer (some ta), .int .u64 386]) >>= fun r1 => ReflectliteValue.parts (.agg #[.pointer (some ⟨3, 42, none⟩), .pointer (some b), .int .u64 130]) >>= fun r2 => _).run _ _ = _
 simp only [Sem.run_bind, partsA_E, partsE_E, Result.andThen]
 simp [ReflectliteValue.flagAddr, loadVar, isAgg, underlying, Tryz.underlying42, hb, Result.andThen, directE_E, storeVar, Value.cells, storeCells, Addr.add]
 rw [run_store Tryz.prog W ta _ _ (by rfl)]
 simp [ht, hf]
theorem noAs_E (v : Value) (xT : TypeId) (w : World) : (Instr.typeAssert (.iface 42 v) xT 152 true).run Tryz.prog w = .ok (.tuple #[.nilIface, .bool false]) w := run_typeAssert_lacksB Tryz.underlying152 (by kernel_rfl) (by kernel_rfl) v xT w
theorem noUn_E (v : Value) (xT : TypeId) (w : World) : (Instr.typeAssert (.iface 42 v) xT 155 true).run Tryz.prog w = .ok (.tuple #[.nilIface, .bool false]) w := run_typeAssert_lacksB Tryz.underlying155 (by kernel_rfl) (by kernel_rfl) v xT w
theorem noUns_E (v : Value) (xT : TypeId) (w : World) : (Instr.typeAssert (.iface 42 v) xT 157 true).run Tryz.prog w = .ok (.tuple #[.nilIface, .bool false]) w := run_typeAssert_lacksB Tryz.underlying157 (by kernel_rfl) (by kernel_rfl) v xT w
set_option maxHeartbeats 4000000 in
theorem as_F_errno (n : Int) (t : Addr) (w : World) (hg : w.cell? ⟨0, 0, none⟩ = some (.iface 147 (.agg #[.pointer (some ⟨3, 32, none⟩)]))) :
  Calls Tryz.prog 34 #[.iface 42 (.int .i64 n), .iface 70 (.pointer (some t))] w fun ev w' => ev = .returned (.bool false) ∧ Below w.heap.size w w' := by
 have x1 := @run_callFunc_extern Tryz.prog 61 _ (fun args => ReflectliteValue.unpack (args.getD 0 (.tuple #[]))) Tryz.func61 (by kernel_rfl) (by kernel_rfl) (by kernel_rfl) (by kernel_rfl)
 have x2 := @run_callFunc_extern Tryz.prog 62 _ (ReflectliteValue.methodAny (ReflectliteValue.valueError "reflectlite.Value.Type" 0) (fun t _ _ _ => ReflectliteType.toType t)) Tryz.func62 (by kernel_rfl) (by kernel_rfl) (by kernel_rfl) (by kernel_rfl)
 have x3 := @run_callFunc_extern Tryz.prog 63 _ (ReflectliteValue.method (ReflectliteValue.valueError "reflectlite.Value.IsNil" 0) ReflectliteValue.isNil) Tryz.func63 (by kernel_rfl) (by kernel_rfl) (by kernel_rfl) (by kernel_rfl)
 have x4 := @run_callFunc_extern Tryz.prog 165 _ (ReflectliteType.abiMethod fun t => do pure (.int .u8 (← Rtype.kind t))) Tryz.func165 (by kernel_rfl) (by kernel_rfl) (by kernel_rfl) (by kernel_rfl)
 have x5 := @run_callFunc_extern Tryz.prog 177 _ (ReflectliteType.method ReflectliteType.elem) Tryz.func177 (by kernel_rfl) (by kernel_rfl) (by kernel_rfl) (by kernel_rfl)
 have x6 := @run_callFunc_extern Tryz.prog 178 _ (ReflectliteType.relation "Implements" ReflectliteType.implements_) Tryz.func178 (by kernel_rfl) (by kernel_rfl) (by kernel_rfl) (by kernel_rfl)
 have x7 := @run_callFunc_extern Tryz.prog 100 _ (ReflectliteType.typeOf) Tryz.func100 (by kernel_rfl) (by kernel_rfl) (by kernel_rfl) (by kernel_rfl)
 have x8 := @run_callFunc_extern Tryz.prog 175 _ (ReflectliteType.relation "AssignableTo" ReflectliteType.assignableTo) Tryz.func175 (by kernel_rfl) (by kernel_rfl) (by kernel_rfl) (by kernel_rfl)
 have mK := methodKind
 have mE := methodElem
 have mI := methodImplements
 have mA := methodAssignableTo
 have vP := valueOfP_F
 have tP := typeP_F
 have kP := kindP_F
 have kE := kindE_F
 have eP := elemP_F
 have iE := implE_F
 have n8 := isNilP_F ⟨w.heap.size, 0, none⟩ t ((w.alloc (.cells #[.pointer (some t)] 70)).alloc (.cells #[.pointer (some ⟨3, 70, none⟩), .pointer (some ⟨w.heap.size, 0, none⟩), .int .u64 150] 101)) (by simp)
 have hlt : 0 < w.heap.size := World.block_lt_of_cell? _ _ hg
 have hg2 : ((w.alloc (.cells #[.pointer (some t)] 70)).alloc (.cells #[.pointer (some ⟨3, 70, none⟩), .pointer (some ⟨w.heap.size, 0, none⟩), .int .u64 150] 101)).cell? ⟨0, 0, none⟩ = some (.iface 147 (.agg #[.pointer (some ⟨3, 32, none⟩)])) := by
  rw [World.cell?_alloc_lt _ _ ⟨0, 0, none⟩ (by simp <;> omega), World.cell?_alloc_lt _ _ ⟨0, 0, none⟩ hlt]; exact hg
 have tO := typeOfE_E
 have a1 := assignEF
 have q1 := noAs_E
 have q2 := noUn_E
 have q3 := noUns_E
 go_enter Tryz.func34, Tryz.ntmps34
 go_wp2
 refine wp_loop_rounds 1 ?_
 rw [rounds_succ]
 go_wp2
 go_ret
 exact ⟨rfl, (((Below.refl _ _).alloc (Nat.le_refl _) _).alloc (by simp) _).alloc (by simp <;> omega) _⟩
set_option maxHeartbeats 4000000 in
theorem as_E_errno (n : Int) (t : Addr) (old : Value) (w : World) (hg : w.cell? ⟨0, 0, none⟩ = some (.iface 147 (.agg #[.pointer (some ⟨3, 32, none⟩)]))) (ht0 : w.cell? t = some old) (hf0 : w.frozen? t = false) :
  Calls Tryz.prog 34 #[.iface 42 (.int .i64 n), .iface 73 (.pointer (some t))] w fun ev w' => ev = .returned (.bool true) ∧ w' = ((((w.alloc (.cells #[.pointer (some t)] 73)).alloc (.cells #[.pointer (some ⟨3, 73, none⟩), .pointer (some ⟨w.heap.size, 0, none⟩), .int .u64 150] 101)).alloc (.cells #[.pointer (some ⟨3, 73, none⟩), .pointer (some ⟨w.heap.size, 0, none⟩), .int .u64 150] 101)).alloc (.cells #[.int .i64 n] 42)).setCell t (.int .i64 n) := by
 have x1 := @run_callFunc_extern Tryz.prog 61 _ (fun args => ReflectliteValue.unpack (args.getD 0 (.tuple #[]))) Tryz.func61 (by kernel_rfl) (by kernel_rfl) (by kernel_rfl) (by kernel_rfl)
 have x2 := @run_callFunc_extern Tryz.prog 62 _ (ReflectliteValue.methodAny (ReflectliteValue.valueError "reflectlite.Value.Type" 0) (fun t _ _ _ => ReflectliteType.toType t)) Tryz.func62 (by kernel_rfl) (by kernel_rfl) (by kernel_rfl) (by kernel_rfl)
 have x3 := @run_callFunc_extern Tryz.prog 63 _ (ReflectliteValue.method (ReflectliteValue.valueError "reflectlite.Value.IsNil" 0) ReflectliteValue.isNil) Tryz.func63 (by kernel_rfl) (by kernel_rfl) (by kernel_rfl) (by kernel_rfl)
 have x4 := @run_callFunc_extern Tryz.prog 165 _ (ReflectliteType.abiMethod fun t => do pure (.int .u8 (← Rtype.kind t))) Tryz.func165 (by kernel_rfl) (by kernel_rfl) (by kernel_rfl) (by kernel_rfl)
 have x5 := @run_callFunc_extern Tryz.prog 177 _ (ReflectliteType.method ReflectliteType.elem) Tryz.func177 (by kernel_rfl) (by kernel_rfl) (by kernel_rfl) (by kernel_rfl)
 have x6 := @run_callFunc_extern Tryz.prog 178 _ (ReflectliteType.relation "Implements" ReflectliteType.implements_) Tryz.func178 (by kernel_rfl) (by kernel_rfl) (by kernel_rfl) (by kernel_rfl)
 have x7 := @run_callFunc_extern Tryz.prog 100 _ (ReflectliteType.typeOf) Tryz.func100 (by kernel_rfl) (by kernel_rfl) (by kernel_rfl) (by kernel_rfl)
 have x8 := @run_callFunc_extern Tryz.prog 175 _ (ReflectliteType.relation "AssignableTo" ReflectliteType.assignableTo) Tryz.func175 (by kernel_rfl) (by kernel_rfl) (by kernel_rfl) (by kernel_rfl)
 have mK := methodKind
 have mE := methodElem
 have mI := methodImplements
 have mA := methodAssignableTo
 have vP := valueOfP_E
 have tP := typeP_E
 have kP := kindP_E
 have kE := kindE_E
 have eP := elemP_E
 have iE := implE_E
 have n8 := isNilP_E ⟨w.heap.size, 0, none⟩ t ((w.alloc (.cells #[.pointer (some t)] 73)).alloc (.cells #[.pointer (some ⟨3, 73, none⟩), .pointer (some ⟨w.heap.size, 0, none⟩), .int .u64 150] 101)) (by simp)
 have hlt : 0 < w.heap.size := World.block_lt_of_cell? _ _ hg
 have hg2 : ((w.alloc (.cells #[.pointer (some t)] 73)).alloc (.cells #[.pointer (some ⟨3, 73, none⟩), .pointer (some ⟨w.heap.size, 0, none⟩), .int .u64 150] 101)).cell? ⟨0, 0, none⟩ = some (.iface 147 (.agg #[.pointer (some ⟨3, 32, none⟩)])) := by
  rw [World.cell?_alloc_lt _ _ ⟨0, 0, none⟩ (by simp <;> omega), World.cell?_alloc_lt _ _ ⟨0, 0, none⟩ hlt]; exact hg
 have x9 := @run_callFunc_extern Tryz.prog 101 _ (ReflectliteValue.method (ReflectliteValue.valueError "reflectlite.Value.Elem" 0) ReflectliteValue.elem) Tryz.func101 (by kernel_rfl) (by kernel_rfl) (by kernel_rfl) (by kernel_rfl)
 have x10 := @run_callFunc_extern Tryz.prog 102 _ (ReflectliteValue.set) Tryz.func102 (by kernel_rfl) (by kernel_rfl) (by kernel_rfl) (by kernel_rfl)
 have tO := typeOfE_E
 have a1 := assignE_E
 have v1 := valueOfE_E
 have htl : t.block < w.heap.size := World.block_lt_of_cell? _ _ ht0
 have el := elemV_E ⟨w.heap.size, 0, none⟩ t (((w.alloc (.cells #[.pointer (some t)] 73)).alloc (.cells #[.pointer (some ⟨3, 73, none⟩), .pointer (some ⟨w.heap.size, 0, none⟩), .int .u64 150] 101)).alloc (.cells #[.pointer (some ⟨3, 73, none⟩), .pointer (some ⟨w.heap.size, 0, none⟩), .int .u64 150] 101)) (by rw [World.cell?_alloc_lt _ _ ⟨w.heap.size, 0, none⟩ (by simp <;> omega)]; simp)
 have st := setE_E t ⟨w.heap.size + 1 + 1 + 1, 0, none⟩ n old ((((w.alloc (.cells #[.pointer (some t)] 73)).alloc (.cells #[.pointer (some ⟨3, 73, none⟩), .pointer (some ⟨w.heap.size, 0, none⟩), .int .u64 150] 101)).alloc (.cells #[.pointer (some ⟨3, 73, none⟩), .pointer (some ⟨w.heap.size, 0, none⟩), .int .u64 150] 101)).alloc (.cells #[.int .i64 n] 42))
  (by rw [World.cell?_alloc_at _ _ _ _ (by simp)]; rfl)
  (by rw [World.cell?_alloc_lt _ _ t (by simp <;> omega), World.cell?_alloc_lt _ _ t (by simp <;> omega), World.cell?_alloc_lt _ _ t (by simp <;> omega), World.cell?_alloc_lt _ _ t htl]; exact ht0)
  (by rw [World.frozen?_alloc_old _ _ t (by simp <;> omega), World.frozen?_alloc_old _ _ t (by simp <;> omega), World.frozen?_alloc_old _ _ t (by simp <;> omega), World.frozen?_alloc_old _ _ t (Nat.ne_of_lt htl)]; exact hf0)
 go_enter Tryz.func34, Tryz.ntmps34
 go_wp2
 refine wp_loop_rounds 1 ?_
 rw [rounds_succ]
 go_wp2
 go_ret
 exact ⟨rfl, rfl⟩
/-- The library's variable errors.errorType holds the handle of the type error. -/
def ETok (w : World) : Prop := w.cell? ⟨0, 0, none⟩ = some (.iface 147 (.agg #[.pointer (some ⟨3, 32, none⟩)]))
theorem ETok.lt {w : World} (h : ETok w) : 0 < w.heap.size := World.block_lt_of_cell? _ _ h
theorem ETok.below {w w' : World} (h : ETok w) (hb : Below w.heap.size w w') : ETok w' := (hb.cell (p := ⟨0, 0, none⟩) h.lt).trans h
theorem ETok.alloc {w : World} (h : ETok w) (o : Obj) : ETok (w.alloc o) := (World.cell?_alloc_lt _ _ ⟨0, 0, none⟩ h.lt).trans h
/-- What an error tells in a world: its number, and its place. -/
def Tells (w : World) (v : Value) (n at_ : Int) : Prop :=
 (v = .nilIface ∧ n = 0 ∧ at_ = -1) ∨ (v = .iface 42 (.int .i64 n) ∧ at_ = -1) ∨
 ∃ b o, v = .iface 68 (.pointer (some ⟨b, o, none⟩)) ∧ w.cell? ⟨b, o, none⟩ = some (.int .i64 at_) ∧ w.cell? ⟨b, o + 1, none⟩ = some (.iface 42 (.int .i64 n))
theorem Tells.below {w w' : World} {v : Value} {n at_ : Int} (h : Tells w v n at_) (hb : Below w.heap.size w w') : Tells w' v n at_ := by
 rcases h with h | h | ⟨b, o, h1, h2, h3⟩
 ·exact .inl h
 ·exact .inr (.inl h)
 ·exact .inr (.inr ⟨b, o, h1, (hb.cell (p := ⟨b, o, none⟩) (World.block_lt_of_cell? _ _ h2)).trans h2, (hb.cell (p := ⟨b, o + 1, none⟩) (World.block_lt_of_cell? _ _ h3)).trans h3⟩)
theorem bal {w w' : World} (h : Below w.heap.size w w') (o : Obj) : Below w.heap.size w (w'.alloc o) := h.alloc h.size o
theorem btr {w w1 w2 : World} (h : Below w.heap.size w w1) (h2 : Below w1.heap.size w1 w2) : Below w.heap.size w w2 := h.trans (h2.mono h.size)
set_option maxHeartbeats 1000000 in
theorem tell_errno (n : Int) (w : World) (hg : ETok w) : Calls Tryz.prog 11 #[.iface 42 (.int .i64 n)] w fun e w' => e = .returned (.tuple #[.int .i64 n, .int .i64 (-1)]) ∧ Below w.heap.size w w' := by
 have HG : Hid (ETok w) := hg
 clear hg
 go_enter Tryz.func11, Tryz.ntmps11
 go_wp2_with fail
 refine (as_F_errno n _ _ (HG.out.alloc _)).mono ?_
 rintro e w1 ⟨rfl, hb1⟩
 go_wp2_with fail
 have hg2 : ETok w1 := (HG.out.alloc _).below hb1
 refine (as_E_errno n _ (.int .i64 0) _ (hg2.alloc _) (by simp) (by simp)).mono ?_
 rintro e w2 ⟨rfl, rfl⟩
 go_wp2_with fail
 go_ret2
 exact ⟨rfl, bal (bal (bal (bal (bal (btr (bal (Below.refl _ _) _) hb1) _) _) _) _) _⟩
end Go.Proofs.YtakmaeohhclngaaGreatDoor
