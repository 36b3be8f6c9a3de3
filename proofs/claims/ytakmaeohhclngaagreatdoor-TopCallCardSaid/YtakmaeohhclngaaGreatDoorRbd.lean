/- Lines of a text: keyholdref.bootLine, where nothing is wrong; walked. · Lines of a text: keyholdref.bootLine, where nothing is wrong: the line 'make'; walked. -/
import Derived.BigGuard
import Derived.BigQuiet
import Derived.Test.YtakmaeohhclngaaGreatDoorRbb
import Derived.Test.YtakmaeohhclngaaGreatDoorRbc
namespace Go.Proofs.YtakmaeohhclngaaGreatDoor.Wd
open Go.RowKit Go.Proofs.YtakmaeohhclngaaGreatDoor.Mem Go.Proofs.YtakmaeohhclngaaGreatDoor.Bw Go.Proofs.YtakmaeohhclngaaGreatDoor.Nums Go.Proofs.YtakmaeohhclngaaGreatDoor.Mmu Go.Proofs.YtakmaeohhclngaaGreatDoor.Hex
/-- The kinds' names, as bytes. -/
def knB : List ByteArray := [⟨#[112, 97, 103, 101]⟩, ⟨#[116, 97, 98, 108, 101]⟩, ⟨#[115, 112, 97, 99, 101]⟩, ⟨#[110, 111, 100, 101]⟩, ⟨#[116, 97, 115, 107]⟩, ⟨#[100, 111, 111, 114]⟩, ⟨#[98, 101, 108, 108]⟩]
/-- keyholdref.kindNames is as its text lays it. -/
def KnW (w : World) : Prop := ∃ kb ko cap, w.cell? ⟨1, 0, none⟩ = some (.slice (some ⟨kb, ko, none⟩) 7 cap) ∧ StrsAt w kb ko knB
theorem KnW.below {w w' : World} (h : KnW w) (hb : Below w.heap.size w w') : KnW w' := by
 obtain ⟨kb, ko, cap, h1, h2⟩ := h
 exact ⟨kb, ko, cap, cupx hb h1, StrsAt.below' h2 hb⟩
/-- A line of a text does this to a world. -/
def BLine (p p' : PW) (xs : List ByteArray) : Prop := ∀ (w : World) (wb : Nat) (tag : Nat → Nat) (V : Nat → Value) (b cap : Nat), BoxT w wb tag V p → KnW w → StrsAt w b 0 xs → xs.length ≤ cap →
 Calls Tryz.prog 45 #[.pointer (some ⟨wb, 0, none⟩), .slice (some ⟨b, 0, none⟩) xs.length cap] w fun r w' => r = .returned (.int .i64 0) ∧ ∃ tag' V', BoxT w' wb tag' V' p' ∧ Kt tag tag' w w'
theorem strs_tail {w : World} {b : Nat} {x : ByteArray} {l : List ByteArray} (h : StrsAt w b 0 (x :: l)) : w.cell? ⟨b, 0, none⟩ = some (.string x) ∧ StrsAt w b 1 l :=
 ⟨h 0 (by simp), fun j hj => by have := h (j + 1) (by simp; omega); rw [show 0 + (j + 1) = 1 + j by omega] at this; exact this⟩
theorem tagC_ge {tag : Nat → Nat} {c k : Nat} (h : c ≤ k) : tagC tag c k = 0 := if_neg (by omega)
set_option maxRecDepth 100000 in
set_option maxHeartbeats 16000000 in
theorem bClay {p : PW} {t1 t2 t3 : ByteArray} {s b n : Nat} (hp : p.Fits) (hl : ∀ l ∈ p.tlbs, l.length ≤ 100) (hok : ∀ t ∈ [t1, t2, t3], numOk t = true) (hm : [t1, t2, t3].map Prs.decV = [(s : Int), (b : Int), (n : Int)])
  (hsk : p.slots.length = p.kinds.length * 16) (hs : s < p.slots.length) (h0 : opE p s = 0) (hn : 1 ≤ n) (hb : b + n ≤ p.kinds.length) (hk : ∀ f (hf : f < p.kinds.length), b ≤ f → f < b + n → p.kinds[f] = 0) (hc : ∀ i (hi : i < p.slots.length), p.slots[i] 0 ≠ 1) :
  BLine p { p with slots := p.slots.set s (clk b n) } [⟨#[99, 108, 97, 121]⟩, t1, t2, t3] := by
 intro w wb tag V xb cap bt0 _ hS hcap
 obtain ⟨bt, kr⟩ := retagC bt0
 have T0 := hid (fun x (h : w.heap.size ≤ x) => tagC_ge (tag := tag) h)
 have KR := hid kr
 have BT := hid bt
 clear bt0 bt kr
 generalize tagC tag w.heap.size = tg at *
 obtain ⟨x0, hS1⟩ := strs_tail hS
 have NU := hid (nums_any xb 1 (cap - 1) [t1, t2, t3] w hS1 hok (by simp))
 rw [hm] at NU
 have hcp : ¬ cap = 1 := by simp at hcap; omega
 have X0 := hid (fun W (h : Below w.heap.size w W) => cupx h x0)
 have CL := hid (fun W ga ca (h : Below w.heap.size w W) (ha : IntsAt W ga 0 [(s : Int), (b : Int), (n : Int)]) => clayLine_ref wb tg V p ga ca s b n W (BT.out.below h) hp hl ha hsk hs h0 hn hb hk hc)
 clear hS hS1 hok hm hcap hsk hs h0 hn hb hk hc hp hl
 go_enter Tryz.func45, Tryz.ntmps45
 go_wp2_with fail
 refine NU.out.mono ?_
 rintro r w1 ⟨u, rfl, hu, hb1⟩
 obtain ⟨ga, ca, rfl, hc1, hg1, ha1⟩ := own_pos hu (by simp) (by simp)
 have B1 := hid hb1
 have HA := hid ha1
 have x1 := X0.out _ hb1
 clear hu hb1 ha1 x0 NU
 go_wp2_with fail
 refine (CL.out w1 ga ca B1.out HA.out).mono ?_
 rintro r w2 ⟨rfl, h1, h2⟩
 have O1 := hid h1
 have O2 := hid h2
 clear h1 h2 x1
 go_wp2_with fail
 go_ret
 exact ⟨rfl, tg, V, O1.out, KR.out.trans ((Kt.below B1.out).trans O2.out)⟩
/- arms -/
set_option maxRecDepth 100000 in
set_option maxHeartbeats 16000000 in
theorem bEnterT {p : PW} {t1 t2 t3 t4 : ByteArray} {s g f wr : Nat} (hp : p.Fits) (hl : ∀ l ∈ p.tlbs, l.length ≤ 100) (hok : ∀ t ∈ [t1, t2, t3, t4], numOk t = true) (hm : [t1, t2, t3, t4].map Prs.decV = [(s : Int), (g : Int), (f : Int), (wr : Int)]) (h0 : fmE p s 4 = 0) (hg : g ≤ 255) (hw : wr ≤ 1) (hf : f < p.kinds.length) (hr : p.ram.length = p.kinds.length * 16) (hk : p.kinds.getD f 0 = 3) (hz : p.ram.getD (s * 16 + g / 16) 0 = 0) :
  BLine p { p with ram := p.ram.set (s * 16 + g / 16) (32768 + (f : Int)) } [⟨#[101, 110, 116, 101, 114]⟩, t1, t2, t3, t4] := by
 intro w wb tag V xb cap bt0 _ hS hcap
 obtain ⟨bt, kr⟩ := retagC bt0
 have T0 := hid (fun x (h : w.heap.size ≤ x) => tagC_ge (tag := tag) h)
 have KR := hid kr
 have BT := hid bt
 clear bt0 bt kr
 generalize tagC tag w.heap.size = tg at *
 obtain ⟨x0, hS1⟩ := strs_tail hS
 have NU := hid (nums_any xb 1 (cap - 1) [t1, t2, t3, t4] w hS1 hok (by simp))
 rw [hm] at NU
 have hcp : ¬ cap = 1 := by simp at hcap; omega
 have X0 := hid (fun W (h : Below w.heap.size w W) => cupx h x0)
 have CL := hid (fun W ga ca (h : Below w.heap.size w W) (ha : IntsAt W ga 0 [(s : Int), (g : Int), (f : Int), (wr : Int)]) (htg : tg ga = 0) => enterTable_ref wb tg V p ga 0 ca s g f wr W (BT.out.below h) hp hl ha htg h0 hg hw hf hr hk hz)
 clear hS hS1 hok hm hcap h0 hg hw hf hr hk hz hp hl
 go_enter Tryz.func45, Tryz.ntmps45
 go_wp2_with fail
 refine NU.out.mono ?_
 rintro r w1 ⟨u, rfl, hu, hb1⟩
 obtain ⟨ga, ca, rfl, hc1, hg1, ha1⟩ := own_pos hu (by simp) (by simp)
 have TG := hid (T0.out ga hg1)
 have B1 := hid hb1
 have HA := hid ha1
 have x1 := X0.out _ hb1
 clear hu hb1 ha1 x0 NU hg1
 go_wp2_with fail
 refine (CL.out w1 ga ca B1.out HA.out TG.out).mono ?_
 rintro r w2 ⟨rfl, h1, h2⟩
 have O1 := hid h1
 have O2 := hid h2
 clear h1 h2 x1
 go_wp2_with fail
 go_ret
 exact ⟨rfl, tg, V, O1.out, KR.out.trans ((Kt.below B1.out).trans O2.out)⟩
set_option maxRecDepth 100000 in
set_option maxHeartbeats 16000000 in
theorem bEnterP {p : PW} {t1 t2 t3 t4 : ByteArray} {s g f wr ev : Nat} (hp : p.Fits) (hl : ∀ l ∈ p.tlbs, l.length ≤ 100) (hok : ∀ t ∈ [t1, t2, t3, t4], numOk t = true) (hm : [t1, t2, t3, t4].map Prs.decV = [(s : Int), (g : Int), (f : Int), (wr : Int)]) (h0 : fmE p s 4 = 0) (hg : g ≤ 255) (hw : wr ≤ 1) (hf : f < p.kinds.length) (hr : p.ram.length = p.kinds.length * 16) (hk : p.kinds.getD f 0 = 2) (hz : p.ram.getD (s * 16 + g / 16) 0 = ev) (hev : 0 < ev) (hev2 : ev ≤ 65535) (hpl : ev % 1024 * 16 + g % 16 < p.ram.length) (hpz : p.ram.getD (ev % 1024 * 16 + g % 16) 0 = 0) :
  BLine p { p with ram := p.ram.set (ev % 1024 * 16 + g % 16) (32768 + (wr : Int) * 16384 + (f : Int)) } [⟨#[101, 110, 116, 101, 114]⟩, t1, t2, t3, t4] := by
 intro w wb tag V xb cap bt0 _ hS hcap
 obtain ⟨bt, kr⟩ := retagC bt0
 have T0 := hid (fun x (h : w.heap.size ≤ x) => tagC_ge (tag := tag) h)
 have KR := hid kr
 have BT := hid bt
 clear bt0 bt kr
 generalize tagC tag w.heap.size = tg at *
 obtain ⟨x0, hS1⟩ := strs_tail hS
 have NU := hid (nums_any xb 1 (cap - 1) [t1, t2, t3, t4] w hS1 hok (by simp))
 rw [hm] at NU
 have hcp : ¬ cap = 1 := by simp at hcap; omega
 have X0 := hid (fun W (h : Below w.heap.size w W) => cupx h x0)
 have CL := hid (fun W ga ca (h : Below w.heap.size w W) (ha : IntsAt W ga 0 [(s : Int), (g : Int), (f : Int), (wr : Int)]) (htg : tg ga = 0) => enterPage_ref wb tg V p ga 0 ca s g f wr ev W (BT.out.below h) hp hl ha htg h0 hg hw hf hr hk hz hev hev2 hpl hpz)
 clear hS hS1 hok hm hcap h0 hg hw hf hr hk hz hev hev2 hpl hpz hp hl
 go_enter Tryz.func45, Tryz.ntmps45
 go_wp2_with fail
 refine NU.out.mono ?_
 rintro r w1 ⟨u, rfl, hu, hb1⟩
 obtain ⟨ga, ca, rfl, hc1, hg1, ha1⟩ := own_pos hu (by simp) (by simp)
 have TG := hid (T0.out ga hg1)
 have B1 := hid hb1
 have HA := hid ha1
 have x1 := X0.out _ hb1
 clear hu hb1 ha1 x0 NU hg1
 go_wp2_with fail
 refine (CL.out w1 ga ca B1.out HA.out TG.out).mono ?_
 rintro r w2 ⟨rfl, h1, h2⟩
 have O1 := hid h1
 have O2 := hid h2
 clear h1 h2 x1
 go_wp2_with fail
 go_ret
 exact ⟨rfl, tg, V, O1.out, KR.out.trans ((Kt.below B1.out).trans O2.out)⟩
set_option maxRecDepth 100000 in
set_option maxHeartbeats 16000000 in
theorem bEquip {p : PW} {t1 t2 t3 t4 t5 t6 t7 : ByteArray} {t : Nat} {N : Nat → Int} (hp : p.Fits) (hl : ∀ l ∈ p.tlbs, l.length ≤ 100) (hok : ∀ t ∈ [t1, t2, t3, t4, t5, t6, t7], numOk t = true) (hm : [t1, t2, t3, t4, t5, t6, t7].map Prs.decV = [(t : Int), N 1, N 2, N 3, N 4, N 5, N 6]) (h0 : fmE p t 6 = 0) (ht : t < p.tasks.length) (hk : ∀ k, 1 ≤ k → k < 4 → N k ≠ -1 → fmE p (N k) (eqK k) = 0) (h4 : 0 ≤ N 4) (h4b : N 4 < p.cores.length) (h5 : 0 ≤ N 5) (h5b : N 5 ≤ 3) (h6 : 0 ≤ N 6) (h6b : N 6 ≤ 3) (hst : p.tasks[t] 9 = 0) :
  BLine p (eqP p t N) [⟨#[101, 113, 117, 105, 112]⟩, t1, t2, t3, t4, t5, t6, t7] := by
 intro w wb tag V xb cap bt0 _ hS hcap
 obtain ⟨bt, kr⟩ := retagC bt0
 have T0 := hid (fun x (h : w.heap.size ≤ x) => tagC_ge (tag := tag) h)
 have KR := hid kr
 have BT := hid bt
 clear bt0 bt kr
 generalize tagC tag w.heap.size = tg at *
 obtain ⟨x0, hS1⟩ := strs_tail hS
 have NU := hid (nums_any xb 1 (cap - 1) [t1, t2, t3, t4, t5, t6, t7] w hS1 hok (by simp))
 rw [hm] at NU
 have hcp : ¬ cap = 1 := by simp at hcap; omega
 have X0 := hid (fun W (h : Below w.heap.size w W) => cupx h x0)
 have CL := hid (fun W ga ca (h : Below w.heap.size w W) (ha : IntsAt W ga 0 [(t : Int), N 1, N 2, N 3, N 4, N 5, N 6]) (htg : tg ga = 0) => equipLine_ref wb tg V p ga ca t N W (BT.out.below h) hp hl ha htg h0 ht hk h4 h4b h5 h5b h6 h6b hst)
 clear hS hS1 hok hm hcap h0 ht hk h4 h4b h5 h5b h6 h6b hst hp hl
 go_enter Tryz.func45, Tryz.ntmps45
 go_wp2_with fail
 refine NU.out.mono ?_
 rintro r w1 ⟨u, rfl, hu, hb1⟩
 obtain ⟨ga, ca, rfl, hc1, hg1, ha1⟩ := own_pos hu (by simp) (by simp)
 have TG := hid (T0.out ga hg1)
 have B1 := hid hb1
 have HA := hid ha1
 have x1 := X0.out _ hb1
 clear hu hb1 ha1 x0 NU hg1
 go_wp2_with fail
 refine (CL.out w1 ga ca B1.out HA.out TG.out).mono ?_
 rintro r w2 ⟨rfl, h1, h2⟩
 have O1 := hid h1
 have O2 := hid h2
 clear h1 h2 x1
 go_wp2_with fail
 go_ret
 exact ⟨rfl, tg, V, O1.out, KR.out.trans ((Kt.below B1.out).trans O2.out)⟩
set_option maxRecDepth 100000 in
set_option maxHeartbeats 16000000 in
theorem bCopy {p : PW} {t1 t2 t3 t4 : ByteArray} {i j r g a : Nat} {s : Nat → Int} (hp : p.Fits) (hl : ∀ l ∈ p.tlbs, l.length ≤ 100) (hok : ∀ t ∈ [t1, t2, t3, t4], numOk t = true) (hm : [t1, t2, t3, t4].map Prs.decV = [(i : Int), (j : Int), (r : Int), (g : Int)]) (hsk : p.slots.length = p.kinds.length * 16) (hb : boE p i j = 0) (hi : i < p.slots.length) (hj : j < p.slots.length) (hs : p.slots[i] = s) (h0 : s 0 ≠ 1) (hr : r ≤ 7) (hg : g ≤ 65535) (hgk : g = 0 ∨ (0 < g ∧ (s 0 = 7 ∨ s 0 = 8) ∧ s 5 = 0)) (h4 : s 4 = a) (ha : a ≤ 7) :
  BLine p { p with slots := p.slots.set j (kpS s (Bw.bw 6 a r : Nat) g i) } [⟨#[99, 111, 112, 121]⟩, t1, t2, t3, t4] := by
 intro w wb tag V xb cap bt0 _ hS hcap
 obtain ⟨bt, kr⟩ := retagC bt0
 have T0 := hid (fun x (h : w.heap.size ≤ x) => tagC_ge (tag := tag) h)
 have KR := hid kr
 have BT := hid bt
 clear bt0 bt kr
 generalize tagC tag w.heap.size = tg at *
 obtain ⟨x0, hS1⟩ := strs_tail hS
 have NU := hid (nums_any xb 1 (cap - 1) [t1, t2, t3, t4] w hS1 hok (by simp))
 rw [hm] at NU
 have hcp : ¬ cap = 1 := by simp at hcap; omega
 have X0 := hid (fun W (h : Below w.heap.size w W) => cupx h x0)
 have CL := hid (fun W (h : Below w.heap.size w W) => copyT_ref wb tg V p i j r g a s W (BT.out.below h) hp hl hsk hb hi hj hs h0 hr hg hgk h4 ha)
 clear hS hS1 hok hm hcap hsk hb hi hj hs h0 hr hg hgk h4 ha hp hl
 go_enter Tryz.func45, Tryz.ntmps45
 go_wp2_with fail
 refine NU.out.mono ?_
 rintro r w1 ⟨u, rfl, hu, hb1⟩
 obtain ⟨ga, ca, rfl, hc1, hg1, ha1⟩ := own_pos hu (by simp) (by simp)
 have TG := hid (T0.out ga hg1)
 have B1 := hid hb1
 have HA := hid ha1
 have x1 := X0.out _ hb1
 clear hu hb1 ha1 x0 NU hg1
 go_upto_region 38 with fail
 clear x1
 have B2 := hid (btr B1.out (show Below w1.heap.size w1 w1.drew from below_drew w1 1))
 have HA2 := hid (HA.out.below (show Below w1.heap.size w1 w1.drew from below_drew w1 1))
 have LTG := hid (World.block_lt_of_cell? _ _ (HA2.out 0 (by simp)))
 refine Rf.wp_region_H (R := fun W => IntsAt W ga 0 [(i : Int), (j : Int), (r : Int), (g : Int)]) [14] [0, 1, 2, 3, 4, 5, 6, 7, 8, 9, 10, 11, 12] 2 (by kernel_rfl) HA2.out (by kernel_rfl) (by kernel_rfl) (by kernel_rfl) (fun _ => ?_)
 repeat (refine Rf.rd_st rfl (by rfl) (fun _ _ _ _ h => h) ?_; apply Exists.intro; refine ⟨fun W h => ?_, ?_⟩; (focus (have h0 := h 0 (by simp); have h1 := h 1 (by simp); have h2 := h 2 (by simp); have h3 := h 3 (by simp); clear h; rw [Nat.zero_add] at h0 h1 h2 h3; simp only [List.getElem_cons_zero, List.getElem_cons_succ] at h0 h1 h2 h3; go_simp; try rfl)); simp only [jj])
 refine Rf.rd_nil ?_
 generalize w1.drew = w2 at *
 refine Rf.wpAnyF_ready (rs := [13]) (by kernel_rfl) (by simp) (Rf.AllReadyF.cons rfl (fun K hK => ?_) Rf.AllReadyF.nil)
 refine wnt (by rfl) ?_
 go_simp
 refine (CL.out w2 B2.out).mono ?_
 rintro r w3 ⟨rfl, h1, h2⟩
 have O1 := hid h1
 have O2 := hid h2
 have HA3 := hid (show IntsAt w3 ga 0 [(i : Int), (j : Int), (r : Int), (g : Int)] from fun k hk => O2.out.cell (HA2.out k hk) TG.out)
 clear h1 h2
 go_wp2_with fail
 refine hK.out _ _ trivial (fun _ => HA3.out) (fun _ _ => ?_)
 clear hK K
 try simp only [jj]
 refine Rf.wpAnyF_ready (rs := [14]) (by kernel_rfl) (by simp) (Rf.AllReadyF.cons rfl (fun K hK => ?_) Rf.AllReadyF.nil)
 refine wnt (by rfl) ?_
 go_simp
 refine hK.out _ _ trivial (Rf.notClean (by kernel_rfl)) (fun _ _ => ?_)
 clear hK K
 try simp only [jj]
 refine Rf.wpAnyF_done (by kernel_rfl) ?_ _
 go_wp2_with fail
 go_ret
 exact ⟨rfl, tg, V, O1.out, KR.out.trans ((Kt.below B2.out).trans O2.out)⟩
end Go.Proofs.YtakmaeohhclngaaGreatDoor.Wd
namespace Go.Proofs.YtakmaeohhclngaaGreatDoor.Wd
open Go.RowKit Go.Proofs.YtakmaeohhclngaaGreatDoor.Mem Go.Proofs.YtakmaeohhclngaaGreatDoor.Bw Go.Proofs.YtakmaeohhclngaaGreatDoor.Nums Go.Proofs.YtakmaeohhclngaaGreatDoor.Mmu Go.Proofs.YtakmaeohhclngaaGreatDoor.Hex
theorem byte_ne {a b : ByteArray} (h : a ≠ b) : (a.toList == b.toList) = false := by
 rw [ByteArray.toList_eq, ByteArray.toList_eq]
 refine beq_eq_false_iff_ne.2 fun e => h (bytes_ext e)
set_option maxRecDepth 100000 in
set_option maxHeartbeats 16000000 in
theorem bMake {p : PW} {xk t1 t2 t3 : ByteArray} {kk : Nat} {n m t : Int} (hp : p.Fits) (hl : ∀ l ∈ p.tlbs, l.length ≤ 100) (hs : Snd p) (hkk : kk < knB.length) (hx : knB[kk] = xk) (hne : ∀ j (hj : j < knB.length), j < kk → knB[j] ≠ xk) (hok : ∀ t ∈ [t1, t2, t3], numOk t = true) (hm : [t1, t2, t3].map Prs.decV = [n, m, t]) (hE : mkE p n (2 + (kk : Int)) m t = 0) :
  BLine p (mkP p n (2 + (kk : Int)) m t) [⟨#[109, 97, 107, 101]⟩, xk, t1, t2, t3] := by
 intro w wb tag V xb cap bt0 hkn hS hcap
 obtain ⟨bt, kr⟩ := retagC bt0
 have T0 := hid (fun x (h : w.heap.size ≤ x) => tagC_ge (tag := tag) h)
 have KR := hid kr
 have BT := hid bt
 clear bt0 bt kr
 generalize tagC tag w.heap.size = tg at *
 obtain ⟨x0, hS1⟩ := strs_tail hS
 have x1 : w.cell? ⟨xb, 1, none⟩ = some (.string xk) := hS 1 (by simp)
 have hS2 : StrsAt w xb 2 [t1, t2, t3] := fun j hj => by have := hS (j + 2) (by simp at hj ⊢; omega); rw [show 0 + (j + 2) = 2 + j by omega] at this; exact this
 have NU := hid (fun W (h : Below w.heap.size w W) => nums_any xb 2 (cap - 2) [t1, t2, t3] W (StrsAt.below' hS2 h) hok (by simp))
 rw [hm] at NU
 have hcp : ¬ cap = 2 := by simp at hcap; omega
 obtain ⟨kb, ko, kcap, kg, kst⟩ := hkn
 have KC := hid (fun W (h : Below w.heap.size w W) => (⟨cupx h x1, cupx h kg⟩ : _ ∧ _))
 have KS := hid (fun W (h : Below w.heap.size w W) j (hj : j < knB.length) => show W.cell? ⟨kb, ko + j, none⟩ = some (.string knB[j]) from cupx h (kst j hj))
 have MT := hid (fun W (h : Below w.heap.size w W) => makeThings_any n (2 + (kk : Int)) m t p hp hl hs W wb tg V (BT.out.below h))
 rw [hE] at MT
 have k7 : (kk : Int) < 7 := by have : knB.length = 7 := rfl; omega
 have k7b : ((kk : Int) == 7) = false := by simp; omega
 have HNE := hid hne
 have HX := hid hx
 have HKK := hid hkk
 clear hS hS1 hS2 hok hm hcap hp hl hs hE kst hne hx x1 kg
 go_enter Tryz.func45, Tryz.ntmps45
 go_wp2_with fail
 clear x0
 go_loopw [5] (fun i wr => ∃ (j : Nat), j ≤ kk ∧ i = .int .i64 (j : Int) ∧ Hid (Below w.heap.size w wr)) (fun i _ => kk - (intOf i).toNat)
 case atStart => exact ⟨0, by omega, rfl, hid (Below.refl _ _)⟩
 case round =>
  obtain ⟨j, hj, rfl, BR⟩ := hrel
  obtain ⟨x1, kg⟩ := KC.out _ BR.out
  have jlt : j < knB.length := by omega
  have j7 : (j : Int) < 7 := by omega
  have yj := KS.out _ BR.out j jlt
  by_cases hlt : j < kk
  ·have hn := byte_ne (HNE.out j jlt hlt)
   generalize knB[j] = y at yj hn
   clear k7b
   go_upto_region 5 with fail
   refine wp_region_quiet_lit (by kernel_rfl) (by kernel_rfl) ?_
   repeat (first | go_big_quiet_skip | (go_big_quiet_want; go_big_quiet_op; first | go_big_quiet_on | go_big_quiet_call (fail)))
   refine wpQuiet_nil ?_
   intro _ hw'
   obtain ⟨nq, hw2⟩ := hw'
   subst hw2
   have B3 := hid (below_drewN BR.out nq)
   clear x1 kg yj
   generalize wr.drewN nq = w3 at *
   go_wp2_with fail
   exact ⟨⟨j + 1, by omega, by go_num, B3⟩, by simp [intOf]; omega⟩
  obtain rfl : j = kk := by omega
  rw [HX.out] at yj
  go_upto_region 5 with fail
  refine wp_region_quiet_lit (by kernel_rfl) (by kernel_rfl) ?_
  repeat (first | go_big_quiet_skip | (go_big_quiet_want; go_big_quiet_op; first | go_big_quiet_on | go_big_quiet_call (fail)))
  refine wpQuiet_nil ?_
  intro _ hw'
  obtain ⟨nq, hw2⟩ := hw'
  subst hw2
  have B3 := hid (below_drewN BR.out nq)
  clear x1 kg yj hlt
  generalize wr.drewN nq = w3 at *
  obtain ⟨x1, kg⟩ := KC.out _ B3.out
  go_wp2_with fail
  refine (NU.out _ B3.out).mono ?_
  rintro r w1 ⟨u, rfl, hu, hb1⟩
  obtain ⟨ga, ca, rfl, hc1, hg1, ha1⟩ := own_pos hu (by simp) (by simp)
  have TG := hid (T0.out ga (Nat.le_trans B3.out.size hg1))
  have B1 := hid (btr B3.out hb1)
  have HA := hid ha1
  clear hu hb1 ha1 NU hg1 x1 kg BR
  go_upto_region 12 with fail
  have B2 := hid (btr B1.out (show Below w1.heap.size w1 w1.drew from below_drew w1 1))
  have HA2 := hid (HA.out.below (show Below w1.heap.size w1 w1.drew from below_drew w1 1))
  have LTG := hid (World.block_lt_of_cell? _ _ (HA2.out 0 (by simp)))
  refine Rf.wp_region_H (R := fun W => IntsAt W ga 0 [n, m, t]) [13] [0, 1, 2, 3, 4, 5, 6, 7, 8, 9, 10, 11] 2 (by kernel_rfl) HA2.out (by kernel_rfl) (by kernel_rfl) (by kernel_rfl) (fun _ => ?_)
  repeat (refine Rf.rd_st rfl (by rfl) (fun _ _ _ _ h => h) ?_; apply Exists.intro; refine ⟨fun W h => ?_, ?_⟩; (focus (have h0 := h 0 (by simp); have h1 := h 1 (by simp); have h2 := h 2 (by simp); clear h; rw [Nat.zero_add] at h0 h1 h2; simp only [List.getElem_cons_zero, List.getElem_cons_succ] at h0 h1 h2; go_simp; try rfl)); simp only [jj])
  refine Rf.rd_nil ?_
  generalize w1.drew = w2 at *
  refine Rf.wpAnyF_ready (rs := [12]) (by kernel_rfl) (by simp) (Rf.AllReadyF.cons rfl (fun K hK => ?_) Rf.AllReadyF.nil)
  refine wnt (by rfl) ?_
  go_simp
  rw [show IntKind.i64.wrap (2 + (j : Int)) = 2 + (j : Int) from wraps_i64 _ (by omega) (by omega)]
  refine (MT.out w2 B2.out).mono ?_
  rintro r w4 ⟨rfl, tg2, h1, h2⟩
  obtain ⟨V2, h3⟩ := h2 trivial
  have O1 := hid h3
  have O2 := hid h1
  have HA3 := hid (show IntsAt w4 ga 0 [n, m, t] from fun k hk => O2.out.cell (HA2.out k hk) TG.out)
  clear h1 h2 h3
  go_wp2_with fail
  refine hK.out _ _ trivial (fun _ => HA3.out) (fun _ _ => ?_)
  clear hK K
  try simp only [jj]
  refine Rf.wpAnyF_ready (rs := [13]) (by kernel_rfl) (by simp) (Rf.AllReadyF.cons rfl (fun K hK => ?_) Rf.AllReadyF.nil)
  refine wnt (by rfl) ?_
  go_simp
  refine hK.out _ _ trivial (Rf.notClean (by kernel_rfl)) (fun _ _ => ?_)
  clear hK K
  try simp only [jj]
  refine Rf.wpAnyF_done (by kernel_rfl) ?_ _
  go_wp2_with fail
  go_ret
  exact ⟨rfl, tg2, V2, O1.out, KR.out.trans ((Kt.below B2.out).trans O2.out)⟩
end Go.Proofs.YtakmaeohhclngaaGreatDoor.Wd
