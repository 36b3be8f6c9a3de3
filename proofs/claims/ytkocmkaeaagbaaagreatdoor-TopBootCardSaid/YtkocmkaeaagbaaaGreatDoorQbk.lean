/- A world out of a text: the order code; walked. · A world out of a text: deed.ofTable, deed.ofPage; walked. · The rest of MmuWalk: what few laws reach. · The rest of MmuWalk2: what few laws reach. · A world out of a text: deed.Enter of a table; walked. · A world out of a text: deed.Enter of a page; walked. -/
import Derived.Test.YtkocmkaeaagbaaaGreatDoorQbi
import Derived.Test.YtkocmkaeaagbaaaGreatDoorQbj
import Derived.Test.YtkocmkaeaagbaaaGreatDoorQaa
import Derived.Test.YtkocmkaeaagbaaaGreatDoorQae
namespace Go.Proofs.YtkocmkaeaagbaaaGreatDoor.Wd
open Go.RowKit Go.Proofs.YtkocmkaeaagbaaaGreatDoor.Mem Go.Proofs.YtkocmkaeaagbaaaGreatDoor.Bw Go.Proofs.YtkocmkaeaagbaaaGreatDoor.Nums Go.Proofs.YtkocmkaeaagbaaaGreatDoor.Hex Go.Proofs.YtkocmkaeaagbaaaGreatDoor.Prs Go.Proofs.YtkocmkaeaagbaaaGreatDoor.Mmu
theorem DoA.kt {w w1 w' : World} {bb : Nat} {tag tag1 : Nat → Nat} {lv : Value} {N n n1 : Nat} {r : Ending} (hk : Kt tag tag1 w w1) (hn : n ≤ n1) (hN : n ≤ N → n1 ≤ N) (h : DoA w1 bb tag1 lv N n1 r w') : DoA w bb tag lv N n r w' := by
 obtain ⟨ev, tag', h1, h2, h3, h4⟩ := h
 refine ⟨ev, tag', h1, h2, hk.trans h3, fun e => ?_⟩
 obtain ⟨V, p, n', h5, h6, h7⟩ := h4 e
 exact ⟨V, p, n', h5, Nat.le_trans hn h6, fun h => h7 (hN h)⟩
/-- What stays as it is while a text is read. -/
structure Gl (w : World) (tag : Nat → Nat) : Prop where
 m : MLok w
 n : NamesAt w
 tm : tag 3 = 0
 tn : tag 6 = 0
theorem Gl.kt {w w' : World} {tag tag' : Nat → Nat} (h : Gl w tag) (k : Kt tag tag' w w') : Gl w' tag' := by
 obtain ⟨m, hm⟩ := h.m
 exact ⟨⟨m, k.cell hm h.tm⟩, fun j hj => k.cell (h.n j hj) h.tn, k.tag0 hm h.tm, k.tag0 (h.n 0 (by decide)) h.tn⟩
theorem Bld.retag {W : World} {bb : Nat} {tag : Nat → Nat} {V : Nat → Value} {p : PW} {lv : Value} {n : Nat} (h : Bld W bb tag V p lv n) : Bld W bb (tagC tag W.heap.size) V p lv n ∧ Kt tag (tagC tag W.heap.size) W W :=
 ⟨⟨(retagC h.b).1, h.l, h.n, h.t, h.k⟩, (retagC h.b).2⟩
set_option maxRecDepth 100000 in
set_option maxHeartbeats 4000000 in
theorem bcode_any (bb : Nat) (tag : Nat → Nat) (V : Nat → Value) (p : PW) (g c n gz cz : Nat) (x : Int) (ls : List ByteArray) (w : World) (h : Bld w bb tag V p (.slice (some ⟨g, 0, none⟩) ls.length c) n) (hG : Gl w tag) (hS : StrsAt w g 0 ls) (hg : tag g = 0) (hn : n ≤ ls.length) (hc : ls.length ≤ c) (hl : ls.length ≤ 4001) (hz : ∀ t ∈ ls, t.size ≤ 4000) (hi : w.cell? ⟨gz, 0, none⟩ = some (.int .i64 x)) (hx : -1 ≤ x ∧ x ≤ 99999) (ht : tag gz = 0) :
  Calls Tryz.prog 82 #[.pointer (some ⟨bb, 0, none⟩), .slice (some ⟨gz, 0, none⟩) 1 cz] w fun r w' => DoA w bb tag (.slice (some ⟨g, 0, none⟩) ls.length c) ls.length n r w' := by
 have UT := hid (upToEnd_any bb tag V p g c n ls w h hS hg hn hc hl hz)
 have HG := hid hG
 have HI := hid hi
 have HT := hid ht
 have HX := hid hx
 clear h hG hS hg hn hc hl hz hi ht hx
 generalize (Value.slice (some ⟨g, 0, none⟩) ls.length c) = lv at *
 generalize ls.length = N at *
 go_enter Tryz.func82, Tryz.ntmps82
 go_wp2_with fail
 refine UT.out.mono ?_
 rintro r w1 (⟨rfl, hb⟩ | ⟨s, n', rfl, hk, hB, h1, h2⟩)
 ·have B1 := hid hb
  clear hb UT
  go_wp2_with fail
  go_ret
  exact DoA.no B1.out
 ·have K1 := hid hk
  have L1 := hid hB
  have N1 := hid (And.intro h1 h2)
  have G1 := hid (HG.out.kt hk)
  have EN := hid (encoded_any s w1 G1.out.m G1.out.n)
  have I1 := hid (hk.cell HI.out HT.out)
  clear hk hB h1 h2 UT
  go_wp2_with fail
  refine EN.out.mono ?_
  rintro r w2 ⟨he, hb⟩
  have B2 := hid hb
  clear hb EN
  rcases he with ⟨ev, rfl, hv⟩ | ⟨q, g', c', zs, rfl, a1, a2, a3, a4, a5⟩
  ·have HV := hid hv
   obtain ⟨t, u, rfl⟩ := hv.2
   clear hv
   go_wp2_with fail
   go_ret
   exact ⟨_, tag, rfl, HV.out.1, K1.out.trans (Kt.below B2.out), fun h => by cases h⟩
  ·have RT := hid (L1.out.retag)
   have L2 := hid (RT.out.1.below B2.out)
   have i2 := cell_up I1.out B2.out
   have LY := hid (blay_any bb (tagC tag w1.heap.size) V p lv n' N x q (if 0 < zs.length then g' else w1.heap.size) c' zs w2 L2.out HX.out (fun h => by rw [if_pos h]; exact a1 h) (by
    by_cases h : 0 < zs.length
    ·rw [if_pos h]; exact a3
    ·exact fun j hj => absurd hj (by omega)) (by
    by_cases h : 0 < zs.length
    ·rw [if_pos h]; exact if_neg (by have := a2 h; omega)
    ·rw [if_neg h]; exact if_neg (by omega)) a4 (by omega))
   clear a1 a2 a3 a4 a5
   go_wp2_with fail
   refine LY.out.mono ?_
   rintro r w3 hd
   obtain ⟨ev, tag', rfl, d1, d2, d3⟩ := hd
   have D := hid (show DoA w2 bb (tagC tag w1.heap.size) lv N n' (.returned ev) w3 from ⟨ev, tag', rfl, d1, d2, d3⟩)
   clear d1 d2 d3 LY
   go_wp2_with fail
   go_ret
   exact DoA.kt (K1.out.trans (RT.out.2.trans (Kt.below B2.out))) N1.out.1 (fun _ => N1.out.2) D.out
end Go.Proofs.YtkocmkaeaagbaaaGreatDoor.Wd
namespace Go.Proofs.YtkocmkaeaagbaaaGreatDoor.Wd
open Go.RowKit Go.Proofs.YtkocmkaeaagbaaaGreatDoor.Mem Go.Proofs.YtkocmkaeaagbaaaGreatDoor.Bw Go.Proofs.YtkocmkaeaagbaaaGreatDoor.Nums Go.Proofs.YtkocmkaeaagbaaaGreatDoor.Mmu
set_option maxHeartbeats 1000000 in
theorem ofTable_any (s g e d : Nat) (w : World) (hs : (s : Int) ≤ 1000) (he : (g : Int).tdiv 16 = (e : Int)) (he2 : (e : Int) ≤ 1000) (hd : (s : Int) * 16 + (e : Int) = (d : Int)) :
  Calls Tryz.prog 175 #[.int .i64 s, .int .i64 g] w fun r w' => r = .returned (.int .i64 (d : Int)) ∧ w = w' := by
 go_enter Tryz.func175, Tryz.ntmps175
 go_wp2_with fail
 go_ret
 exact ⟨rfl, rfl⟩
set_option maxRecDepth 100000 in
set_option maxHeartbeats 4000000 in
theorem ofPage_any (wb gr cr m s g e d : Nat) (x : Int) (lb : Bool) (f : Int) (w : World) (c0 : w.cell? ⟨wb, 0, none⟩ = some (.slice (some ⟨gr, 0, none⟩) m cr)) (cd : w.cell? ⟨gr, d, none⟩ = some (.int .i64 x)) (hdm : (d : Int) < (m : Int))
  (hs : (s : Int) ≤ 1000) (he : (g : Int).tdiv 16 = (e : Int)) (he2 : (e : Int) ≤ 1000) (hd : (s : Int) * 16 + (e : Int) = (d : Int)) (hLD : ∀ W : World, Calls Tryz.prog 204 #[.int .i64 x] W fun r w' => r = .returned (.tuple #[.int .i64 f, .bool lb, .bool true]) ∧ W = w') (hf : 0 ≤ f ∧ f ≤ 1023) (r : Nat) (hr : (g : Int).tmod 16 = (r : Int)) (hr2 : (r : Int) ≤ 15) :
  Calls Tryz.prog 176 #[.pointer (some ⟨wb, 0, none⟩), .int .i64 s, .int .i64 g] w fun z w' => z = .returned (.tuple #[.int .i64 (f * 16 + (r : Int)), .nilIface]) ∧ Below w.heap.size w w' := by
 have B0 := hid (show Below w.heap.size w w.drew from below_drew w 1)
 have C0 := hid (cell_up c0 B0.out)
 have CD := hid (cell_up cd B0.out)
 have OT := hid (ofTable_any s g e d w.drew hs he he2 hd)
 have LD := hid (hLD w.drew)
 obtain ⟨f1, f2⟩ := hf
 clear c0 cd hLD
 go_enter Tryz.func176, Tryz.ntmps176
 go_wp2_with fail
 refine Rf.wp_region_H (R := fun W => W.cell? ⟨wb, 0, none⟩ = some (.slice (some ⟨gr, 0, none⟩) m cr) ∧ W.cell? ⟨gr, d, none⟩ = some (.int .i64 x)) [14] [] 17 (by kernel_rfl) ⟨C0.out, CD.out⟩ (by kernel_rfl) (by kernel_rfl) (by kernel_rfl) (fun _ => Rf.rd_nil ?_)
 generalize w.drew = w1 at *
 have RR := hid (show (fun W : World => W.cell? ⟨wb, 0, none⟩ = some (.slice (some ⟨gr, 0, none⟩) m cr) ∧ W.cell? ⟨gr, d, none⟩ = some (.int .i64 x)) w1 from ⟨C0.out, CD.out⟩)
 refine Rf.wpAnyF_groupS (by kernel_rfl) _ RR.out [0, 1, 2] 14 _ _ (by kernel_rfl) ?_
 repeat (refine Rf.rd_st rfl (by rfl) (fun _ _ _ _ h => h) ?_; apply Exists.intro; refine ⟨fun W _ => ?_, ?_⟩; (focus (go_simp; try rfl)); simp only [jj])
 refine Rf.rd_nil ?_
 refine Rf.wpAnyF_group (by kernel_rfl) _ RR.out [3] 13 _ _ (by kernel_rfl) ?_
 refine Rf.rd_st rfl (by rfl) (fun _ _ _ _ h => h) ?_; apply Exists.intro; refine ⟨fun W h => ?_, ?_⟩; (focus (have h0 := h.1; clear h; go_simp; try rfl)); simp only [jj]
 refine Rf.rd_nil ?_
 refine Rf.wpAnyF_groupS (by kernel_rfl) _ RR.out [4, 5] 11 _ _ (by kernel_rfl) ?_
 repeat (refine Rf.rd_st rfl (by rfl) (fun _ _ _ _ h => h) ?_; apply Exists.intro; refine ⟨fun W _ => ?_, ?_⟩; (focus (go_simp; try rfl)); simp only [jj])
 refine Rf.rd_nil ?_
 refine Rf.wpAnyF_ready (rs := [6]) (by kernel_rfl) (by simp) (Rf.AllReadyF.cons rfl (fun K hK => ?_) Rf.AllReadyF.nil)
 refine wnt (by rfl) ?_
 go_simp
 refine OT.out.mono ?_
 rintro r w' ⟨rfl, rfl⟩
 go_wp2_with fail
 refine hK.out _ _ trivial (fun _ => RR.out) (fun _ _ => ?_)
 clear hK K
 try simp only [jj]
 refine Rf.wpAnyF_groupS (by kernel_rfl) _ RR.out [7] 9 _ _ (by kernel_rfl) ?_
 repeat (refine Rf.rd_st rfl (by rfl) (fun _ _ _ _ h => h) ?_; apply Exists.intro; refine ⟨fun W _ => ?_, ?_⟩; (focus (go_simp; try rfl)); simp only [jj])
 refine Rf.rd_nil ?_
 refine Rf.wpAnyF_group (by kernel_rfl) _ RR.out [8] 8 _ _ (by kernel_rfl) ?_
 refine Rf.rd_st rfl (by rfl) (fun _ _ _ _ h => h) ?_; apply Exists.intro; refine ⟨fun W h => ?_, ?_⟩; (focus (have h0 := h.2; clear h; go_simp; try rfl)); simp only [jj]
 refine Rf.rd_nil ?_
 refine Rf.wpAnyF_ready (rs := [9]) (by kernel_rfl) (by simp) (Rf.AllReadyF.cons rfl (fun K hK => ?_) Rf.AllReadyF.nil)
 refine wnt (by rfl) ?_
 go_simp
 refine LD.out.mono ?_
 rintro r w' ⟨rfl, rfl⟩
 go_wp2_with fail
 refine hK.out _ _ trivial (fun _ => RR.out) (fun _ _ => ?_)
 clear hK K
 try simp only [jj]
 refine Rf.wpAnyF_groupS (by kernel_rfl) _ RR.out [10, 11, 12, 13] 3 _ _ (by kernel_rfl) ?_
 repeat (refine Rf.rd_st rfl (by rfl) (fun _ _ _ _ h => h) ?_; apply Exists.intro; refine ⟨fun W _ => ?_, ?_⟩; (focus (go_simp; try rfl)); simp only [jj])
 refine Rf.rd_nil ?_
 refine Rf.wpAnyF_ready (rs := [14]) (by kernel_rfl) (by simp) (Rf.AllReadyF.cons rfl (fun K hK => ?_) Rf.AllReadyF.nil)
 refine wnt (by rfl) ?_
 go_simp
 refine hK.out _ _ trivial (Rf.notClean (by kernel_rfl)) (fun _ _ => ?_)
 clear hK K
 try simp only [jj]
 refine Rf.wpAnyF_ready (rs := [15]) (by kernel_rfl) (by simp) (Rf.AllReadyF.cons rfl (fun K hK => ?_) Rf.AllReadyF.nil)
 refine wnt (by rfl) ?_
 go_simp
 refine hK.out _ _ trivial (Rf.notClean (by kernel_rfl)) (fun _ _ => ?_)
 clear hK K
 try simp only [jj]
 refine Rf.wpAnyF_ready (rs := [16]) (by kernel_rfl) (by simp) (Rf.AllReadyF.cons rfl (fun K hK => ?_) Rf.AllReadyF.nil)
 refine wnt (by rfl) ?_
 go_simp
 refine hK.out _ _ trivial (Rf.notClean (by kernel_rfl)) (fun _ _ => ?_)
 clear hK K
 try simp only [jj]
 refine Rf.wpAnyF_done (by kernel_rfl) ?_ _
 clear RR OT LD he hd
 go_wp2_with fail
 go_ret2
 exact ⟨rfl, B0.out⟩
set_option maxRecDepth 100000 in
set_option maxHeartbeats 4000000 in
theorem ofPageNo_any (wb gr cr m s g e d : Nat) (x : Int) (w : World) (c0 : w.cell? ⟨wb, 0, none⟩ = some (.slice (some ⟨gr, 0, none⟩) m cr)) (cd : w.cell? ⟨gr, d, none⟩ = some (.int .i64 x)) (hdm : (d : Int) < (m : Int))
  (hs : (s : Int) ≤ 1000) (he : (g : Int).tdiv 16 = (e : Int)) (he2 : (e : Int) ≤ 1000) (hd : (s : Int) * 16 + (e : Int) = (d : Int)) (hLD : ∀ W : World, Calls Tryz.prog 204 #[.int .i64 x] W fun r w' => r = .returned (.tuple #[.int .i64 0, .bool false, .bool false]) ∧ W = w') :
  Calls Tryz.prog 176 #[.pointer (some ⟨wb, 0, none⟩), .int .i64 s, .int .i64 g] w fun z w' => z = .returned (.tuple #[.int .i64 0, .iface 29 (.int .i64 9)]) ∧ Below w.heap.size w w' := by
 have B0 := hid (show Below w.heap.size w w.drew from below_drew w 1)
 have C0 := hid (cell_up c0 B0.out)
 have CD := hid (cell_up cd B0.out)
 have OT := hid (ofTable_any s g e d w.drew hs he he2 hd)
 have LD := hid (hLD w.drew)
 clear c0 cd hLD
 go_enter Tryz.func176, Tryz.ntmps176
 go_wp2_with fail
 refine Rf.wp_region_H (R := fun W => W.cell? ⟨wb, 0, none⟩ = some (.slice (some ⟨gr, 0, none⟩) m cr) ∧ W.cell? ⟨gr, d, none⟩ = some (.int .i64 x)) [14] [] 17 (by kernel_rfl) ⟨C0.out, CD.out⟩ (by kernel_rfl) (by kernel_rfl) (by kernel_rfl) (fun _ => Rf.rd_nil ?_)
 generalize w.drew = w1 at *
 have RR := hid (show (fun W : World => W.cell? ⟨wb, 0, none⟩ = some (.slice (some ⟨gr, 0, none⟩) m cr) ∧ W.cell? ⟨gr, d, none⟩ = some (.int .i64 x)) w1 from ⟨C0.out, CD.out⟩)
 refine Rf.wpAnyF_groupS (by kernel_rfl) _ RR.out [0, 1, 2] 14 _ _ (by kernel_rfl) ?_
 repeat (refine Rf.rd_st rfl (by rfl) (fun _ _ _ _ h => h) ?_; apply Exists.intro; refine ⟨fun W _ => ?_, ?_⟩; (focus (go_simp; try rfl)); simp only [jj])
 refine Rf.rd_nil ?_
 refine Rf.wpAnyF_group (by kernel_rfl) _ RR.out [3] 13 _ _ (by kernel_rfl) ?_
 refine Rf.rd_st rfl (by rfl) (fun _ _ _ _ h => h) ?_; apply Exists.intro; refine ⟨fun W h => ?_, ?_⟩; (focus (have h0 := h.1; clear h; go_simp; try rfl)); simp only [jj]
 refine Rf.rd_nil ?_
 refine Rf.wpAnyF_groupS (by kernel_rfl) _ RR.out [4, 5] 11 _ _ (by kernel_rfl) ?_
 repeat (refine Rf.rd_st rfl (by rfl) (fun _ _ _ _ h => h) ?_; apply Exists.intro; refine ⟨fun W _ => ?_, ?_⟩; (focus (go_simp; try rfl)); simp only [jj])
 refine Rf.rd_nil ?_
 refine Rf.wpAnyF_ready (rs := [6]) (by kernel_rfl) (by simp) (Rf.AllReadyF.cons rfl (fun K hK => ?_) Rf.AllReadyF.nil)
 refine wnt (by rfl) ?_
 go_simp
 refine OT.out.mono ?_
 rintro r w' ⟨rfl, rfl⟩
 go_wp2_with fail
 refine hK.out _ _ trivial (fun _ => RR.out) (fun _ _ => ?_)
 clear hK K
 try simp only [jj]
 refine Rf.wpAnyF_groupS (by kernel_rfl) _ RR.out [7] 9 _ _ (by kernel_rfl) ?_
 repeat (refine Rf.rd_st rfl (by rfl) (fun _ _ _ _ h => h) ?_; apply Exists.intro; refine ⟨fun W _ => ?_, ?_⟩; (focus (go_simp; try rfl)); simp only [jj])
 refine Rf.rd_nil ?_
 refine Rf.wpAnyF_group (by kernel_rfl) _ RR.out [8] 8 _ _ (by kernel_rfl) ?_
 refine Rf.rd_st rfl (by rfl) (fun _ _ _ _ h => h) ?_; apply Exists.intro; refine ⟨fun W h => ?_, ?_⟩; (focus (have h0 := h.2; clear h; go_simp; try rfl)); simp only [jj]
 refine Rf.rd_nil ?_
 refine Rf.wpAnyF_ready (rs := [9]) (by kernel_rfl) (by simp) (Rf.AllReadyF.cons rfl (fun K hK => ?_) Rf.AllReadyF.nil)
 refine wnt (by rfl) ?_
 go_simp
 refine LD.out.mono ?_
 rintro r w' ⟨rfl, rfl⟩
 go_wp2_with fail
 refine hK.out _ _ trivial (fun _ => RR.out) (fun _ _ => ?_)
 clear hK K
 try simp only [jj]
 refine Rf.wpAnyF_groupS (by kernel_rfl) _ RR.out [10, 11, 12, 13] 3 _ _ (by kernel_rfl) ?_
 repeat (refine Rf.rd_st rfl (by rfl) (fun _ _ _ _ h => h) ?_; apply Exists.intro; refine ⟨fun W _ => ?_, ?_⟩; (focus (go_simp; try rfl)); simp only [jj])
 refine Rf.rd_nil ?_
 refine Rf.wpAnyF_ready (rs := [14]) (by kernel_rfl) (by simp) (Rf.AllReadyF.cons rfl (fun K hK => ?_) Rf.AllReadyF.nil)
 refine wnt (by rfl) ?_
 go_simp
 refine hK.out _ _ trivial (Rf.notClean (by kernel_rfl)) (fun _ _ => ?_)
 clear hK K
 try simp only [jj]
 refine Rf.wpAnyF_ready (rs := [15]) (by kernel_rfl) (by simp) (Rf.AllReadyF.cons rfl (fun K hK => ?_) Rf.AllReadyF.nil)
 refine wnt (by rfl) ?_
 go_simp
 refine hK.out _ _ trivial (Rf.notClean (by kernel_rfl)) (fun _ _ => ?_)
 clear hK K
 try simp only [jj]
 refine Rf.wpAnyF_ready (rs := [16]) (by kernel_rfl) (by simp) (Rf.AllReadyF.cons rfl (fun K hK => ?_) Rf.AllReadyF.nil)
 refine wnt (by rfl) ?_
 go_simp
 refine hK.out _ _ trivial (Rf.notClean (by kernel_rfl)) (fun _ _ => ?_)
 clear hK K
 try simp only [jj]
 refine Rf.wpAnyF_done (by kernel_rfl) ?_ _
 clear RR OT LD he hd
 go_wp2_with fail
 go_ret2
 exact ⟨rfl, B0.out⟩
end Go.Proofs.YtkocmkaeaagbaaaGreatDoor.Wd
namespace Go.Proofs.YtkocmkaeaagbaaaGreatDoor.Mmu
open Go.RowKit Go.Proofs.YtkocmkaeaagbaaaGreatDoor.Mem Go.Proofs.YtkocmkaeaagbaaaGreatDoor.Bw Go.Proofs.YtkocmkaeaagbaaaGreatDoor.Nums
end Go.Proofs.YtkocmkaeaagbaaaGreatDoor.Mmu
namespace Go.Proofs.YtkocmkaeaagbaaaGreatDoor.Mmu
open Go.RowKit Go.Proofs.YtkocmkaeaagbaaaGreatDoor.Mem Go.Proofs.YtkocmkaeaagbaaaGreatDoor.Bw Go.Proofs.YtkocmkaeaagbaaaGreatDoor.Nums
theorem entry_word (t : Int) (wr : Bool) (w : World) :
  Calls Tryz.prog 177 #[.int .i64 t, .bool wr] w fun e w' => e = .returned (.tuple #[.int .i64 (if 0 ≤ t ∧ t ≤ 23 then 32768 + t + (if wr = true then 16384 else 0) else 0), errV (if 0 ≤ t ∧ t ≤ 23 then 0 else 2)]) ∧ w = w' := by
 by_cases h : 0 ≤ t ∧ t ≤ 23
 ·obtain ⟨h0, h1⟩ := h
  have o15 := or15 t h0 (by omega)
  have o14 := or14 t h0 (by omega)
  cases wr with
  | true =>
   go_enter Tryz.func177, Tryz.ntmps177
   go_wp2_with fail
   go_ret2
   refine ⟨?_, rfl⟩
   show Ending.returned (.tuple #[.int .i64 (49152 + t), .nilIface]) = .returned (.tuple #[.int .i64 (32768 + t + 16384), .nilIface])
   rw [show (49152 : Int) + t = 32768 + t + 16384 by omega]
  | false =>
   go_enter Tryz.func177, Tryz.ntmps177
   go_wp2_with fail
   go_ret2
   refine ⟨?_, rfl⟩
   rfl
 ·simp only [if_neg h]
  by_cases h0 : t < 0
  ·clear h
   go_enter Tryz.func177, Tryz.ntmps177
   go_wp2_with fail
   go_ret2
   exact ⟨rfl, rfl⟩
  ·have h1 : 24 ≤ t := by omega
   clear h
   go_enter Tryz.func177, Tryz.ntmps177
   go_wp2_with fail
   go_ret2
   exact ⟨rfl, rfl⟩
end Go.Proofs.YtkocmkaeaagbaaaGreatDoor.Mmu
namespace Go.Proofs.YtkocmkaeaagbaaaGreatDoor.Wd
open Go.RowKit Go.Proofs.YtkocmkaeaagbaaaGreatDoor.Mem Go.Proofs.YtkocmkaeaagbaaaGreatDoor.Bw Go.Proofs.YtkocmkaeaagbaaaGreatDoor.Nums Go.Proofs.YtkocmkaeaagbaaaGreatDoor.Mmu
theorem entryB_any (t : Nat) (wr : Bool) (e : Int) (w : World) (ht : t ≤ 23) (he : e = 32768 + (t : Int) + (if wr = true then 16384 else 0)) :
  Calls Tryz.prog 177 #[.int .i64 t, .bool wr] w fun r w' => r = .returned (.tuple #[.int .i64 e, .nilIface]) ∧ w = w' := by
 have h := entry_word (t : Int) wr w
 have hc : 0 ≤ (t : Int) ∧ (t : Int) ≤ 23 := by omega
 simp only [if_pos hc, ← he] at h
 exact h
set_option maxRecDepth 100000 in
set_option maxHeartbeats 4000000 in
theorem enterT_any (bb : Nat) (tag : Nat → Nat) (V : Nat → Value) (p : PW) (lv : Value) (n N s g f : Nat) (w : World) (h : Bld w bb tag V p lv n) (hs : s < p.kinds.length) (h4 : p.k s = 4) (hg : g ≤ 255) (hf : f < p.kinds.length) (h3 : p.k f = 3) :
  Calls Tryz.prog 129 #[.pointer (some ⟨bb, 0, none⟩), .int .i64 s, .int .i64 g, .int .i64 f, .bool false] w fun r w' => DoA w bb tag lv N n r w' := by
 have H := hid h
 have hk2 := h.k.lf.k2
 have hram := h.k.lf.ram
 obtain ⟨e, hee⟩ : ∃ e : Nat, e = g / 16 := ⟨_, rfl⟩
 obtain ⟨d, hde⟩ : ∃ d : Nat, d = s * 16 + e := ⟨_, rfl⟩
 have hdr : d < p.ram.length := by omega
 have OT := hid (ofTable_any s g e d w (by omega) (by rw [Int.tdiv_eq_ediv_of_nonneg (by omega)]; omega) (by omega) (by omega))
 have IS := hid (pis_any bb V p (f : Int) 3 w h.view)
 rw [show isB p (f : Int) 3 = true by rw [isB_k hf, h3]; rfl] at IS
 obtain ⟨z, hz⟩ : ∃ z : Int, z = 32768 + (f : Int) := ⟨_, rfl⟩
 have EN := hid (entryB_any f false z w (by omega) (by rw [hz]; simp))
 obtain ⟨gr, cr, e0⟩ := h.b.o.ram.form (by omega)
 have RM := hid (show InT w tag 2 3 1 (.slice (some ⟨gr, 0, none⟩) p.ram.length cr) (p.ram.length, ints p.ram) by rw [← e0]; exact h.b.o.ram)
 have NE := hid (RM.out.ne h.b.g (by decide))
 have BX := hid (h.b.ramCell e0 d z)
 have BT := hid (show Bt { p with ram := p.ram.set d z } from h.k.word hdr (by omega) (by
  rw [show d / 16 = s by omega, h4]
  unfold beB
  rw [if_pos rfl, hz, show (32768 : Int) + f - 32768 = (f : Int) by omega, isB_k hf, h3]
  simp))
 have c0 : w.cell? ⟨bb, 0, none⟩ = some (V 0) := range_cell h.b.r rfl
 rw [e0] at c0
 have cr1 := RM.out.int hdr
 have cf1 := RM.out.frozen d
 have hd2 : (d : Int) < (p.ram.length : Int) := by omega
 have hlr : (p.ram.length : Int) ≤ 1000 := by omega
 generalize p.ram[d] = old at cr1
 clear h hk2 hram hee hde hdr e0 hz hs h4 hg hf h3
 by_cases ho : old = 0
 ·subst ho
  go_enter Tryz.func129, Tryz.ntmps129
  go_wp2_with fail
  refine OT.out.mono ?_
  rintro r w' ⟨rfl, rfl⟩
  go_wp2_with fail
  refine IS.out.mono ?_
  rintro r w' ⟨rfl, rfl⟩
  go_wp2_with fail
  refine EN.out.mono ?_
  rintro r w' ⟨rfl, rfl⟩
  go_wp2_with fail
  go_ret
  exact (H.out.store BX.out.1 NE.out BT.out).done BX.out.2
 ·have hob : (old == 0) = false := by simp [ho]
  clear ho
  go_enter Tryz.func129, Tryz.ntmps129
  go_wp2_with fail
  refine OT.out.mono ?_
  rintro r w' ⟨rfl, rfl⟩
  go_wp2_with fail
  refine IS.out.mono ?_
  rintro r w' ⟨rfl, rfl⟩
  go_wp2_with fail
  go_ret
  exact DoA.no (Below.refl _ _)
end Go.Proofs.YtkocmkaeaagbaaaGreatDoor.Wd
namespace Go.Proofs.YtkocmkaeaagbaaaGreatDoor.Wd
open Go.RowKit Go.Proofs.YtkocmkaeaagbaaaGreatDoor.Mem Go.Proofs.YtkocmkaeaagbaaaGreatDoor.Bw Go.Proofs.YtkocmkaeaagbaaaGreatDoor.Nums Go.Proofs.YtkocmkaeaagbaaaGreatDoor.Mmu
/-- A space's word that is not empty leads to a table. -/
theorem Bt.leads {p : PW} (h : Bt p) {d : Nat} {x : Int} (hd : d < p.ram.length) (hx : p.ram[d] = x) (h4 : p.k (d / 16) = 4) (h0 : x ≠ 0) : ∃ t : Nat, x = 32768 + (t : Int) ∧ t < p.kinds.length ∧ p.k t = 3 := by
 have he := h.ram.e d hd
 rw [h4, List.getD_eq_getElem?_getD, List.getElem?_eq_getElem hd] at he
 have hg : (some p.ram[d]).getD 0 = x := hx
 rw [hg] at he
 unfold beB at he
 rw [if_pos rfl] at he
 have hb : isB p (x - 32768) 3 = true := by
  cases e : isB p (x - 32768) 3 with
  | true => rfl
  | false => rw [e] at he; simp at he; exact absurd he h0
 obtain ⟨t, h1, h2, h3⟩ := isB_nat hb
 exact ⟨t, by omega, h2, h3⟩
set_option maxRecDepth 100000 in
set_option maxHeartbeats 4000000 in
theorem enterP_any (bb : Nat) (tag : Nat → Nat) (V : Nat → Value) (p : PW) (lv : Value) (n N s g f : Nat) (wr : Bool) (w : World) (h : Bld w bb tag V p lv n) (hs : s < p.kinds.length) (h4 : p.k s = 4) (hg : g ≤ 255) (hf : f < p.kinds.length) (h2 : p.k f = 2) :
  Calls Tryz.prog 129 #[.pointer (some ⟨bb, 0, none⟩), .int .i64 s, .int .i64 g, .int .i64 f, .bool wr] w fun r w' => DoA w bb tag lv N n r w' := by
 have H := hid h
 have hk2 := h.k.lf.k2
 have hram := h.k.lf.ram
 obtain ⟨e, hee⟩ : ∃ e : Nat, e = g / 16 := ⟨_, rfl⟩
 obtain ⟨d, hde⟩ : ∃ d : Nat, d = s * 16 + e := ⟨_, rfl⟩
 have hdr : d < p.ram.length := by omega
 have a1 : (s : Int) ≤ 1000 := by omega
 have a2 : (g : Int).tdiv 16 = (e : Int) := by rw [Int.tdiv_eq_ediv_of_nonneg (by omega)]; omega
 have a3 : (e : Int) ≤ 1000 := by omega
 have a4 : (s : Int) * 16 + (e : Int) = (d : Int) := by omega
 have OT := hid (ofTable_any s g e d w a1 a2 a3 a4)
 have IS := hid (pis_any bb V p (f : Int) 3 w h.view)
 rw [show isB p (f : Int) 3 = false by rw [isB_k hf, h2]; rfl] at IS
 obtain ⟨gr, cr, e0⟩ := h.b.o.ram.form (by omega)
 have c0 : w.cell? ⟨bb, 0, none⟩ = some (.slice (some ⟨gr, 0, none⟩) p.ram.length cr) := by rw [range_cell h.b.r (k := 0) rfl, e0]
 have RM := hid (show InT w tag 2 3 1 (.slice (some ⟨gr, 0, none⟩) p.ram.length cr) (p.ram.length, ints p.ram) by rw [← e0]; exact h.b.o.ram)
 have cd := RM.out.int hdr
 obtain ⟨x, hx⟩ : ∃ x : Int, p.ram[d] = x := ⟨_, rfl⟩
 rw [hx] at cd
 cases hld : (bits .and .i64 x 32768 == 0) with
 | true =>
  have OP := hid (ofPageNo_any bb gr cr p.ram.length s g e d x w c0 cd (by omega) a1 a2 a3 a4 (fun W => leads_no x W hld))
  clear h hk2 hram hee hde hdr e0 hs h4 hg hf h2 a1 a2 a3 a4 c0 cd hx hld
  go_enter Tryz.func129, Tryz.ntmps129
  go_wp2_with fail
  refine OT.out.mono ?_
  rintro r w' ⟨rfl, rfl⟩
  go_wp2_with fail
  refine IS.out.mono ?_
  rintro r w' ⟨rfl, rfl⟩
  go_wp2_with fail
  refine OP.out.mono ?_
  rintro r w' ⟨rfl, hb⟩
  have B1 := hid hb
  clear hb OP OT IS
  go_wp2_with fail
  go_ret
  exact DoA.no B1.out
 | false =>
  have x0 : x ≠ 0 := fun e => by
   subst e
   have : (bits .and .i64 (0 : Int) 32768 == 0) = true := by decide
   rw [this] at hld
   cases hld
  obtain ⟨t, ht, htk, ht3⟩ := h.k.leads hdr hx (by rw [show d / 16 = s by omega]; exact h4) x0
  obtain ⟨r, hr⟩ : ∃ r : Nat, r = g % 16 := ⟨_, rfl⟩
  obtain ⟨d2, hd2⟩ : ∃ d : Nat, d = t * 16 + r := ⟨_, rfl⟩
  have OP := hid (ofPage_any bb gr cr p.ram.length s g e d x (bits .and .i64 x 16384 != 0) (t : Int) w c0 cd (by omega) a1 a2 a3 a4 (fun W => by
   have := leads_yes x W hld
   rw [show x % 1024 = (t : Int) by omega] at this
   exact this) (by omega) r (by rw [Int.tmod_eq_emod_of_nonneg (by omega)]; omega) (by omega))
  rw [show (t : Int) * 16 + (r : Int) = (d2 : Int) by omega] at OP
  have hdr2 : d2 < p.ram.length := by omega
  obtain ⟨z, hz⟩ : ∃ z : Int, z = 32768 + (f : Int) + (if wr = true then 16384 else 0) := ⟨_, rfl⟩
  have EN := hid (fun W => entryB_any f wr z W (by omega) hz)
  have BT := hid (show Bt { p with ram := p.ram.set d2 z } from h.k.word hdr2 (by cases wr <;> simp at hz <;> omega) (by
   rw [show d2 / 16 = t by omega, ht3]
   unfold beB
   rw [if_neg (by decide), if_pos rfl]
   cases wr with
   | false => rw [show z - 32768 = (f : Int) by simp at hz; omega, isB_k hf, h2]; simp
   | true => rw [show z - 32768 - 16384 = (f : Int) by simp at hz; omega, isB_k hf, h2]; simp))
  have NE := hid (RM.out.ne h.b.g (by decide))
  have E0 := hid e0
  have CR := hid (RM.out.int hdr2)
  have hdi : (d2 : Int) < (p.ram.length : Int) := by omega
  have hlr : (p.ram.length : Int) ≤ 1000 := by omega
  have C0 := hid c0
  generalize p.ram[d2] = old at CR
  clear h hk2 hram hee hde hdr e0 hs h4 hg hf h2 a1 a2 a3 a4 c0 cd hx hld hr hd2 hdr2 hz x0 ht htk ht3
  go_enter Tryz.func129, Tryz.ntmps129
  go_wp2_with fail
  refine OT.out.mono ?_
  rintro r w' ⟨rfl, rfl⟩
  go_wp2_with fail
  refine IS.out.mono ?_
  rintro r w' ⟨rfl, rfl⟩
  go_wp2_with fail
  refine OP.out.mono ?_
  rintro r w1 ⟨rfl, hb⟩
  have B1 := hid hb
  have H1 := hid (H.out.below hb)
  have c0 := cell_up C0.out hb
  have cr1 := cell_up CR.out hb
  have cf1 := (show InT w1 tag 2 3 1 (.slice (some ⟨gr, 0, none⟩) p.ram.length cr) (p.ram.length, ints p.ram) by rw [← E0.out]; exact H1.out.b.o.ram).frozen d2
  have BX := hid (H1.out.b.ramCell E0.out d2 z)
  have E1 := hid (EN.out w1)
  clear hb OP OT IS EN CR C0
  by_cases ho : old = 0
  ·subst ho
   go_wp2_with fail
   refine E1.out.mono ?_
   rintro r w' ⟨rfl, rfl⟩
   go_wp2_with fail
   go_ret
   exact ((H1.out.store BX.out.1 NE.out BT.out).done BX.out.2).pre B1.out
  ·have hob : (old == 0) = false := by simp [ho]
   go_wp2_with fail
   go_ret
   exact DoA.no B1.out
end Go.Proofs.YtkocmkaeaagbaaaGreatDoor.Wd
