/- Blocks by their types; an array of 106 values, one by one. -/
import Derived.Test.YtfpkbfhaipgibaaDoorWdNew
import Derived.ArgAppend
namespace Go.Proofs.YtfpkbfhaipgibaaDoor.Wd
open Go.RowKit Go.Proofs.YtfpkbfhaipgibaaDoor.Mem Go.Proofs.YtfpkbfhaipgibaaDoor.Bw Go.Proofs.YtfpkbfhaipgibaaDoor.Nums Go.Proofs.YtfpkbfhaipgibaaDoor.Mmu

/-- The type of a block's cells. -/
def tyOf (w : World) (b : Nat) : Option TypeId := match w.heap[b]? with
  | some (.cells _ t _) => some t
  | _ => none
theorem ty_block {w w' : World} {b : Nat} (h : w'.heap[b]? = w.heap[b]?) : tyOf w' b = tyOf w b := by unfold tyOf; rw [h]
theorem ty_below {w w' : World} {b : Nat} (hb : Below w.heap.size w w') (h : b < w.heap.size) : tyOf w' b = tyOf w b := ty_block (hb.block b h)
theorem ty_lt {w : World} {b t : Nat} (h : tyOf w b = some t) : b < w.heap.size := by
  rcases Nat.lt_or_ge b w.heap.size with h1 | h1
  · exact h1
  · unfold tyOf at h
    rw [Array.getElem?_eq_none h1] at h
    cases h
theorem ty_setCell (w : World) (a : Addr) (v : Value) (b : Nat) : tyOf (w.setCell a v) b = tyOf w b := by
  by_cases h : b = a.block
  · subst h
    unfold tyOf World.setCell
    simp only [Array.getElem?_modify, if_true]
    cases w.heap[a.block]? with
    | none => rfl
    | some o => cases o <;> rfl
  · exact ty_block (Below.heap_setCell w a v b h)
theorem ty_setCells (C : Nat) (b : Nat) : ∀ (vs : List Value) (o : Nat) (w : World), tyOf (w.setCells C o vs) b = tyOf w b
  | [], _, _ => rfl
  | v :: r, o, w => by rw [World.setCells, ty_setCells C b r, ty_setCell]
theorem ty_new (w : World) (arr : Array Value) (t : TypeId) (b : Nat) (hb : b = w.heap.size) : tyOf (w.alloc (.cells arr t)) b = some t := by
  subst hb
  unfold tyOf World.alloc
  simp
theorem ty_heap {w : World} {b : Nat} {arr : Array Value} {t : TypeId} {fr : Nat × Nat} (h : w.heap[b]? = some (.cells arr t fr)) : tyOf w b = some t := by
  unfold tyOf
  rw [h]
/-- Blocks that are neither a world's own nor an answer's. -/
def GT : World → Nat → Prop := fun w b => tyOf w b ≠ some 68 ∧ tyOf w b ≠ some 25
theorem gt_new (w : World) (arr : Array Value) (t : TypeId) (h1 : t ≠ 68) (h2 : t ≠ 25) : GT (w.alloc (.cells arr t)) w.heap.size := by
  unfold GT
  rw [ty_new w arr t _ rfl]
  exact ⟨fun e => h1 (Option.some.inj e), fun e => h2 (Option.some.inj e)⟩
theorem gt_heap {w : World} {b : Nat} {arr : Array Value} {t : TypeId} {fr : Nat × Nat} (h : w.heap[b]? = some (.cells arr t fr)) (h1 : t ≠ 68) (h2 : t ≠ 25) : GT w b := by
  unfold GT
  rw [ty_heap h]
  exact ⟨fun e => h1 (Option.some.inj e), fun e => h2 (Option.some.inj e)⟩
theorem keepsT_below {w w' : World} (hb : Below w.heap.size w w') : Keeps GT w w' := fun p v hp h => by
  have hl := World.block_lt_of_cell? _ _ h
  refine ⟨(hb.cell hl).trans h, ?_⟩
  unfold GT
  rw [ty_below hb hl]
  exact hp
theorem keepsT_kp {w w' : World} {C : Nat} (hC : tyOf w C = some 68 ∨ tyOf w C = some 25) (hk : Kp (fun b => b = C) w w') : Keeps GT w w' := fun p v hp h => by
  have hl := World.block_lt_of_cell? _ _ h
  have hne : ¬ p.block = C := by
    rintro rfl
    rcases hC with h1 | h1
    · exact hp.1 h1
    · exact hp.2 h1
  refine ⟨(hk.cell hl hne).trans h, ?_⟩
  unfold GT
  rw [ty_block (hk.block p.block hl hne)]
  exact hp
theorem Kp.grown {T : Nat → Prop} {w w1 w2 : World} {row : Option Nat} (h : Kp T w w1) (hg : w1.grownBy w2 row) (hr : ∀ k, row = some k → T k ∨ w.heap.size ≤ k) : Kp T w w2 :=
  ⟨hg.os.trans h.os, hg.tape.trans h.tape, hg.output.trans h.output, Nat.le_trans h.size hg.size, fun k hk hn => (hg.block k (Nat.lt_of_lt_of_le hk h.size) (fun e => by
    rcases hr k e.symm with h1 | h1
    · exact hn h1
    · omega)).trans (h.block k hk hn)⟩
theorem Kp.setCells' {T : Nat → Prop} {w : World} {b : Nat} (hb : T b ∨ w.heap.size ≤ b) (vs : List Value) (o : Nat) (w' : World) (h : Kp T w w') : Kp T w (w'.setCells b o vs) := Kp.setCells hb vs o w' h
theorem cons_of_len {l : List Value} {n : Nat} (h : l.length = n + 1) : ∃ y l', l = y :: l' ∧ l'.length = n := by
  cases l with
  | nil => simp at h
  | cons y l' => exact ⟨y, l', rfl, by simpa using h⟩
set_option maxRecDepth 100000 in
theorem litF (t : Array Value) (h : t.size = 106) : ∃ y : Nat → Value, t = #[y 0, y 1, y 2, y 3, y 4, y 5, y 6, y 7, y 8, y 9, y 10, y 11, y 12, y 13, y 14, y 15, y 16, y 17, y 18, y 19, y 20, y 21, y 22, y 23, y 24, y 25, y 26, y 27, y 28, y 29, y 30, y 31, y 32, y 33, y 34, y 35, y 36, y 37, y 38, y 39, y 40, y 41, y 42, y 43, y 44, y 45, y 46, y 47, y 48, y 49, y 50, y 51, y 52, y 53, y 54, y 55, y 56, y 57, y 58, y 59, y 60, y 61, y 62, y 63, y 64, y 65, y 66, y 67, y 68, y 69, y 70, y 71, y 72, y 73, y 74, y 75, y 76, y 77, y 78, y 79, y 80, y 81, y 82, y 83, y 84, y 85, y 86, y 87, y 88, y 89, y 90, y 91, y 92, y 93, y 94, y 95, y 96, y 97, y 98, y 99, y 100, y 101, y 102, y 103, y 104, y 105] := by
  obtain ⟨l⟩ := t
  have h0 : l.length = 106 := by simpa using h
  clear h
  obtain ⟨y0, l1, rfl, h1⟩ := cons_of_len h0
  obtain ⟨y1, l2, rfl, h2⟩ := cons_of_len h1
  obtain ⟨y2, l3, rfl, h3⟩ := cons_of_len h2
  obtain ⟨y3, l4, rfl, h4⟩ := cons_of_len h3
  obtain ⟨y4, l5, rfl, h5⟩ := cons_of_len h4
  obtain ⟨y5, l6, rfl, h6⟩ := cons_of_len h5
  obtain ⟨y6, l7, rfl, h7⟩ := cons_of_len h6
  obtain ⟨y7, l8, rfl, h8⟩ := cons_of_len h7
  obtain ⟨y8, l9, rfl, h9⟩ := cons_of_len h8
  obtain ⟨y9, l10, rfl, h10⟩ := cons_of_len h9
  obtain ⟨y10, l11, rfl, h11⟩ := cons_of_len h10
  obtain ⟨y11, l12, rfl, h12⟩ := cons_of_len h11
  obtain ⟨y12, l13, rfl, h13⟩ := cons_of_len h12
  obtain ⟨y13, l14, rfl, h14⟩ := cons_of_len h13
  obtain ⟨y14, l15, rfl, h15⟩ := cons_of_len h14
  obtain ⟨y15, l16, rfl, h16⟩ := cons_of_len h15
  obtain ⟨y16, l17, rfl, h17⟩ := cons_of_len h16
  obtain ⟨y17, l18, rfl, h18⟩ := cons_of_len h17
  obtain ⟨y18, l19, rfl, h19⟩ := cons_of_len h18
  obtain ⟨y19, l20, rfl, h20⟩ := cons_of_len h19
  obtain ⟨y20, l21, rfl, h21⟩ := cons_of_len h20
  obtain ⟨y21, l22, rfl, h22⟩ := cons_of_len h21
  obtain ⟨y22, l23, rfl, h23⟩ := cons_of_len h22
  obtain ⟨y23, l24, rfl, h24⟩ := cons_of_len h23
  obtain ⟨y24, l25, rfl, h25⟩ := cons_of_len h24
  obtain ⟨y25, l26, rfl, h26⟩ := cons_of_len h25
  obtain ⟨y26, l27, rfl, h27⟩ := cons_of_len h26
  obtain ⟨y27, l28, rfl, h28⟩ := cons_of_len h27
  obtain ⟨y28, l29, rfl, h29⟩ := cons_of_len h28
  obtain ⟨y29, l30, rfl, h30⟩ := cons_of_len h29
  obtain ⟨y30, l31, rfl, h31⟩ := cons_of_len h30
  obtain ⟨y31, l32, rfl, h32⟩ := cons_of_len h31
  obtain ⟨y32, l33, rfl, h33⟩ := cons_of_len h32
  obtain ⟨y33, l34, rfl, h34⟩ := cons_of_len h33
  obtain ⟨y34, l35, rfl, h35⟩ := cons_of_len h34
  obtain ⟨y35, l36, rfl, h36⟩ := cons_of_len h35
  obtain ⟨y36, l37, rfl, h37⟩ := cons_of_len h36
  obtain ⟨y37, l38, rfl, h38⟩ := cons_of_len h37
  obtain ⟨y38, l39, rfl, h39⟩ := cons_of_len h38
  obtain ⟨y39, l40, rfl, h40⟩ := cons_of_len h39
  obtain ⟨y40, l41, rfl, h41⟩ := cons_of_len h40
  obtain ⟨y41, l42, rfl, h42⟩ := cons_of_len h41
  obtain ⟨y42, l43, rfl, h43⟩ := cons_of_len h42
  obtain ⟨y43, l44, rfl, h44⟩ := cons_of_len h43
  obtain ⟨y44, l45, rfl, h45⟩ := cons_of_len h44
  obtain ⟨y45, l46, rfl, h46⟩ := cons_of_len h45
  obtain ⟨y46, l47, rfl, h47⟩ := cons_of_len h46
  obtain ⟨y47, l48, rfl, h48⟩ := cons_of_len h47
  obtain ⟨y48, l49, rfl, h49⟩ := cons_of_len h48
  obtain ⟨y49, l50, rfl, h50⟩ := cons_of_len h49
  obtain ⟨y50, l51, rfl, h51⟩ := cons_of_len h50
  obtain ⟨y51, l52, rfl, h52⟩ := cons_of_len h51
  obtain ⟨y52, l53, rfl, h53⟩ := cons_of_len h52
  obtain ⟨y53, l54, rfl, h54⟩ := cons_of_len h53
  obtain ⟨y54, l55, rfl, h55⟩ := cons_of_len h54
  obtain ⟨y55, l56, rfl, h56⟩ := cons_of_len h55
  obtain ⟨y56, l57, rfl, h57⟩ := cons_of_len h56
  obtain ⟨y57, l58, rfl, h58⟩ := cons_of_len h57
  obtain ⟨y58, l59, rfl, h59⟩ := cons_of_len h58
  obtain ⟨y59, l60, rfl, h60⟩ := cons_of_len h59
  obtain ⟨y60, l61, rfl, h61⟩ := cons_of_len h60
  obtain ⟨y61, l62, rfl, h62⟩ := cons_of_len h61
  obtain ⟨y62, l63, rfl, h63⟩ := cons_of_len h62
  obtain ⟨y63, l64, rfl, h64⟩ := cons_of_len h63
  obtain ⟨y64, l65, rfl, h65⟩ := cons_of_len h64
  obtain ⟨y65, l66, rfl, h66⟩ := cons_of_len h65
  obtain ⟨y66, l67, rfl, h67⟩ := cons_of_len h66
  obtain ⟨y67, l68, rfl, h68⟩ := cons_of_len h67
  obtain ⟨y68, l69, rfl, h69⟩ := cons_of_len h68
  obtain ⟨y69, l70, rfl, h70⟩ := cons_of_len h69
  obtain ⟨y70, l71, rfl, h71⟩ := cons_of_len h70
  obtain ⟨y71, l72, rfl, h72⟩ := cons_of_len h71
  obtain ⟨y72, l73, rfl, h73⟩ := cons_of_len h72
  obtain ⟨y73, l74, rfl, h74⟩ := cons_of_len h73
  obtain ⟨y74, l75, rfl, h75⟩ := cons_of_len h74
  obtain ⟨y75, l76, rfl, h76⟩ := cons_of_len h75
  obtain ⟨y76, l77, rfl, h77⟩ := cons_of_len h76
  obtain ⟨y77, l78, rfl, h78⟩ := cons_of_len h77
  obtain ⟨y78, l79, rfl, h79⟩ := cons_of_len h78
  obtain ⟨y79, l80, rfl, h80⟩ := cons_of_len h79
  obtain ⟨y80, l81, rfl, h81⟩ := cons_of_len h80
  obtain ⟨y81, l82, rfl, h82⟩ := cons_of_len h81
  obtain ⟨y82, l83, rfl, h83⟩ := cons_of_len h82
  obtain ⟨y83, l84, rfl, h84⟩ := cons_of_len h83
  obtain ⟨y84, l85, rfl, h85⟩ := cons_of_len h84
  obtain ⟨y85, l86, rfl, h86⟩ := cons_of_len h85
  obtain ⟨y86, l87, rfl, h87⟩ := cons_of_len h86
  obtain ⟨y87, l88, rfl, h88⟩ := cons_of_len h87
  obtain ⟨y88, l89, rfl, h89⟩ := cons_of_len h88
  obtain ⟨y89, l90, rfl, h90⟩ := cons_of_len h89
  obtain ⟨y90, l91, rfl, h91⟩ := cons_of_len h90
  obtain ⟨y91, l92, rfl, h92⟩ := cons_of_len h91
  obtain ⟨y92, l93, rfl, h93⟩ := cons_of_len h92
  obtain ⟨y93, l94, rfl, h94⟩ := cons_of_len h93
  obtain ⟨y94, l95, rfl, h95⟩ := cons_of_len h94
  obtain ⟨y95, l96, rfl, h96⟩ := cons_of_len h95
  obtain ⟨y96, l97, rfl, h97⟩ := cons_of_len h96
  obtain ⟨y97, l98, rfl, h98⟩ := cons_of_len h97
  obtain ⟨y98, l99, rfl, h99⟩ := cons_of_len h98
  obtain ⟨y99, l100, rfl, h100⟩ := cons_of_len h99
  obtain ⟨y100, l101, rfl, h101⟩ := cons_of_len h100
  obtain ⟨y101, l102, rfl, h102⟩ := cons_of_len h101
  obtain ⟨y102, l103, rfl, h103⟩ := cons_of_len h102
  obtain ⟨y103, l104, rfl, h104⟩ := cons_of_len h103
  obtain ⟨y104, l105, rfl, h105⟩ := cons_of_len h104
  obtain ⟨y105, l106, rfl, h106⟩ := cons_of_len h105
  obtain rfl := List.length_eq_zero_iff.1 h106
  exact ⟨fun i => (#[y0, y1, y2, y3, y4, y5, y6, y7, y8, y9, y10, y11, y12, y13, y14, y15, y16, y17, y18, y19, y20, y21, y22, y23, y24, y25, y26, y27, y28, y29, y30, y31, y32, y33, y34, y35, y36, y37, y38, y39, y40, y41, y42, y43, y44, y45, y46, y47, y48, y49, y50, y51, y52, y53, y54, y55, y56, y57, y58, y59, y60, y61, y62, y63, y64, y65, y66, y67, y68, y69, y70, y71, y72, y73, y74, y75, y76, y77, y78, y79, y80, y81, y82, y83, y84, y85, y86, y87, y88, y89, y90, y91, y92, y93, y94, y95, y96, y97, y98, y99, y100, y101, y102, y103, y104, y105] : Array Value).getD i undef, rfl⟩
end Go.Proofs.YtfpkbfhaipgibaaDoor.Wd
