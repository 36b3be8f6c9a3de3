/- Qaj -/
import Derived.Test.YtaejnmmpddbbjaaGreatDoorQai
namespace Go.Proofs.YtaejnmmpddbbjaaGreatDoor.Wd
open Go.RowKit Mem Bw Nums Mmu
theorem goneP_snoc (t x:Int) (l:List Int):goneP (fun x=>x==t) (l++[x])=goneP (fun x=>x==t) l++(if x=t then [] else [x]):=by
 unfold goneP;rw[ew]
 congr 1
 by_cases h:x=t
 ·rw[ag h,List.filter_cons_of_neg (by simp[h])];rfl
 ·rw[ae h,List.filter_cons_of_pos (by simp[h])];rfl
set_option maxRecDepth 100000
set_option maxHeartbeats 4000000
theorem without_ref (v:Value) (l:List Int) (t:Int) (w:World) (S:IntsIn w v l) (hl:l.length≤1000):
  Calls Tryz.prog 43 #[v,.int .i64 t] w fun r w'=>∃u,r=.returned u∧w'.ownsRow w.heap.size 3 1 u (goneP (fun x=>x==t) l).length (ints (goneP (fun x=>x==t) l))∧Below w.heap.size w w':=by
 obtain⟨q,b,off,cap,rfl,D,I⟩:=S;have M:=hid D;have O:=hid I;have V:(l.length:Int)≤1000:=by omega
 clear D I;go_enter Tryz.func43,Tryz.ntmps43
 go_wp2_with fail
 go_loopw [5,6] (fun u i wr=>∃(k:Nat) (h:Option Addr) (cu:Nat),k≤l.length∧i=.int .i64 k∧u=.slice h (goneP (fun x=>x==t) (l.take k)).length cu∧Hid (wr.ownsRow w.heap.size 3 1 (.slice h (goneP (fun x=>x==t) (l.take k)).length cu) (goneP (fun x=>x==t) (l.take k)).length (ints (goneP (fun x=>x==t) (l.take k))))∧Hid (Below w.heap.size w wr)) (fun _ i _=>l.length - (intOf i).toNat)
 case atStart=>exact⟨0,none,0,by omega,rfl,rfl,hid (cT _ _ _ _),hid (aj _ _)⟩
 case round=>
  obtain⟨k,h,cu,hk,rfl,rfl,e,d⟩:=hrel;by_cases C:k<l.length
  ·have W:(k:Int)<(l.length:Int):=by omega
   have R:=M.out (by omega);subst R;have o:=O.out k C;have Q:=(d.cell (al _ _ o)).trans o;have A:=hid (show l.take (k+1)=l.take k++[l[k]] from bD C);have m:=hid (show (goneP (fun x=>x==t) (l.take k)).length≤1000 from aD (dG _ _) (by rw[bL];omega));obtain⟨y,G⟩:∃y,l[k]=y:=⟨_,rfl⟩
   rw[G] at Q A;have a:=hid (goneP_snoc t y (l.take k));rw[←A.out] at a;clear o G;generalize goneP (fun x=>x==t) (l.take k)=zs at e m a ⊢;by_cases f:y=t
   ·rw[ag f,dB] at a;have T:(y !=t)=false:=by simpa using f
    clear f;go_wp2_with fail
    refine⟨⟨k+1,h,cu,by omega,by go_num,by rw[a.out],hid (by rw[a.out];exact e),d⟩,by simp[intOf];omega⟩
   ·rw[ae f] at a;have T:(y !=t)=true:=by simpa using f
    have g:=hid (bal (aj wr.heap.size wr) (.cells #[.int .i64 y] 3));have z:=hid (show (wr.alloc (.cells #[.int .i64 y] 3)).cell? ⟨wr.heap.size,0,none⟩=some (.int .i64 y) from cJ wr #[.int .i64 y] 3 0);obtain⟨i0,hi,J,F,H⟩:=info_get infoI;obtain⟨X,w',E,p,B,_⟩:=run_append_own (P:=Tryz.prog) (wr.alloc (.cells #[.int .i64 y] 3)) w.heap.size 22 22 3 i0 (.int .i64 0) 1 8 Tryz.underlying22 hi J F H rfl (by decide) _ _ _ (eE e g) ⟨wr.heap.size,0,none⟩ 1 1 [.int .i64 y] rfl (fun j v c=>by
     match j,c with
     |0,c=>cases c;exact z
     |j+1,c=>simp at c) (int1 y) (by have:=m.out;unfold maxLen;omega) (by have:=m.out;omega) (aD d.size g.size)
    obtain⟨s,n,rfl⟩:=own_form p;have N:=hid E;have L:=hid (show w'.ownsRow w.heap.size 3 1 (.slice s (zs.length+1) n) (zs++[y]).length (ints (zs++[y])) by
     rw[av,show ints (zs++[y])=ints zs++[.int .i64 y] by unfold ints;simp];exact p)
    have K:=hid (show Below w.heap.size w w' from (btr d g).grown B (aD d.size g.size) (fun j c=>(e.lt j c).1));clear f E p B hi J F H g z;go_wp2_with (first|(at_builtin;refine wpList_app rfl _ _ 22 rfl (.slice h zs.length cu) (.slice (some ⟨wr.heap.size,0,none⟩) 1 1) (.slice s (zs.length+1) n) rfl rfl N ?_))
    exact⟨⟨k+1,s,n,by omega,by go_num,by rw[a.out,av];rfl,hid (by rw[a.out];have:=L.out;rw[av] at this ⊢;exact this),K⟩,by simp[intOf];omega⟩
  ·obtain rfl:k=l.length:=by omega
   have U:¬((l.length:Int)<(l.length:Int)):=by omega
   rw[dg] at e;rw[dg];go_wp2_with fail
   go_ret
   exact⟨_,rfl,e.out,d.out⟩
set_option maxRecDepth 512
set_option maxHeartbeats 200000
def nOw (t:Int) (f:Nat→Int):Nat→Int:=if f 17=t then upd f 17 (-1) else f
def stP (p:PW) (t:Nat):PW:=({p with lines:=lvs t p.lines,ready:=lvs t p.ready,cores:=p.cores.map (noT t),tasks:=p.tasks.map (nOw t)}:PW).task t 9 0 |>.task t 14 (-1)
set_option maxRecDepth 100000
set_option maxHeartbeats 8000000
theorem stopped_ref (wb:Nat) (tag:Nat→Nat) (V:Nat→Value) (p:PW) (t:Nat) (W:World) (bt:BoxT W wb tag V p) (Y:p.Fits) (ht:t<p.tasks.length):
  Calls Tryz.prog 50 #[.pointer (some ⟨wb,0,none⟩),.int .i64 t] W fun r W'=>r=.returned (.tuple #[])∧∃tag',BoxT W' wb tag' V (stP p t)∧Kt tag tag' W W':=by
 have aV:(p.lines.length:Int)≤1000:=by have:=Y.lines;omega
 have aX:(p.ready.length:Int)≤1000:=by have:=Y.ready;omega
 have aW:(p.cores.length:Int)≤1000:=by have:=Y.cores;omega
 have aU:(p.tasks.length:Int)≤1000:=by have:=Y.tasks;omega
 have ai:=hid Y.line;have aH:=hid Y.next;have B0:=hid bt;have aZ:(t:Int)<(p.tasks.length:Int):=by omega
 obtain⟨q6,g6,cap6,e6,aK⟩:=bt.o.cores.shape;obtain⟨Q,cap3,M⟩:=bt.o.tasks.form (by omega);have E6:=hid e6;have HQ:=hid aK;have E3:=hid M;have aO:=hid ht;clear bt Y e6 aK M ht;go_enter Tryz.func50,Tryz.ntmps50
 go_wp2_with fail
 go_loopw [4] (fun i wr=>∃(k:Nat) (tg:Nat→Nat),k≤p.lines.length∧i=.int .i64 k∧Hid (BoxT wr wb tg V {p with lines:=mapK (goneP fun x=>x==(t:Int)) k p.lines})∧Hid (Kt tag tg W wr)) (fun i _=>p.lines.length - (intOf i).toNat)
 case atStart=>exact⟨0,tag,by omega,rfl,hid (by rw[mapK_zero];exact B0),hid (Kt.refl _ _)⟩
 case round=>
  obtain⟨k,tg,hk,rfl,a,n⟩:=hrel;obtain⟨b,eL⟩:=a.o.lines.form;have w:=hid (show V 4=.slice (some ⟨b,0,none⟩) p.lines.length p.lines.length from eL.trans (cX (fun m=>Value.slice (some ⟨b,0,none⟩) m m) (cV _ _ _)));have J:=hid (show ListT wr tg 6 12 22 3 1 p.lines.length (.slice (some ⟨b,0,none⟩) p.lines.length p.lines.length) (ci (mapK (goneP fun x=>x==(t:Int)) k p.lines)) by
   have z:=a.o.lines;simp only at z;rw[cV,w.out] at z;exact z)
  have cl:wr.cell? ⟨wb,4,none⟩=some (.slice (some ⟨b,0,none⟩) p.lines.length p.lines.length):=by rw[af a.r (k:=4) rfl,w.out]
  clear eL;by_cases l:k<p.lines.length
  ·have aF:(k:Int)<(p.lines.length:Int):=by omega
   go_wp2_with fail
   clear cl;obtain⟨u,cu,Z⟩:=J.at (j:=k) l;have ah:=hid (show ci (mapK (goneP fun x=>x==(t:Int)) k p.lines) k=(p.lines[k].length,ints p.lines[k]) by
    have s:k<(mapK (goneP fun x=>x==(t:Int)) k p.lines).length:=by rw[cV];exact l
    unfold ci;rw[aa,ac s,aS,mapK_at _ _ _ l s])
   rw[ah.out] at Z;have HU:=hid (dm Z.1);have az:=hid (ai.out _ (aw l));have ad:=hid (fun X (h:Below wr.heap.size wr X)=>show X.frozen? ⟨b,k,none⟩=false from (J.kp (T:=fun _=>False) (.of_below h) (fun _ _=>rfl) (fun _ _ e=>e)).fr k);have L:=hid (fun X (h:Below wr.heap.size wr X)=>show X.cell? ⟨wb,4,none⟩=some (.slice (some ⟨b,0,none⟩) p.lines.length p.lines.length) by rw[af (a.below h).r (k:=4) rfl,w.out]);have C:=hid (fun X (h:Below wr.heap.size wr X)=>show X.cell? ⟨b,k,none⟩=some u from (h.cell (al _ _ cu)).trans cu);have D:Hid (Below wr.heap.size wr wr.drew):=hid (aA wr 1);have ab:=hid (fun X v (h:Below wr.heap.size wr X) (A:X.ownsRow wr.heap.size 3 1 v ((goneP fun x=>x==(t:Int)) p.lines[k]).length (ints ((goneP fun x=>x==(t:Int)) p.lines[k])))=>show BoxT (X.setCell ⟨b,k,none⟩ v) wb (tagN tg wr.heap.size (12+3*k)) V {p with lines:=mapK (goneP fun x=>x==(t:Int)) (k+1) p.lines}∧Kt tag (tagN tg wr.heap.size (12+3*k)) W (X.setCell ⟨b,k,none⟩ v) from by
    obtain⟨aG,au⟩:=J.put (tag':=tagN tg wr.heap.size (12+3*k)) (w1:=X) (u:=v) (c:=(((goneP fun x=>x==(t:Int)) p.lines[k]).length,ints ((goneP fun x=>x==(t:Int)) p.lines[k]))) (j:=k) l (fun j=>by omega) (.of_below h) (fun k hk=>cW hk) ⟨A.mono (bI _),fun j e=>by
     unfold tagN;rw[ae (by have:=(A.lt j e).1;omega)]⟩
    refine⟨a.lines au (fun k hk=>cW hk) ?_,n.trans (Kt.of (tag':=tagN tg wr.heap.size (12+3*k)) au (fun k e=>by rcases e with e|⟨j,e⟩<;>omega) (fun k hk=>cW hk))⟩;rw[cV,w.out,mapK_succ _ _ _ l,ci_set _ _ (by rw[cV];exact l)];exact aG)
   clear Z cu ah;refine wp_region_F (S:=fun X=>X.cell? ⟨wb,4,none⟩=some (.slice (some ⟨b,0,none⟩) p.lines.length p.lines.length)) (R:=fun X=>X.cell? ⟨b,k,none⟩=some u) [15] (by kernel_rfl) (L.out _ D) (C.out _ D) (fun an am=>?_);have g:=hid an;have d:=hid am;clear an am;refine tF 0 (.pointer (some ⟨wb,0,none⟩)) rfl g (fun _=>d.out) ?_;simp only[jj];refine tF 1 (.pointer (some ⟨wb,0,none⟩)) rfl g (fun _=>d.out) ?_;simp only[jj];refine tF 2 (.pointer (some ⟨wb,4,none⟩)) rfl g (fun _=>d.out) ?_;simp only[jj];refine tG 3 (.slice (some ⟨b,0,none⟩) p.lines.length p.lines.length) rfl g (fun _=>d.out) ?_;simp only[jj];refine tF 4 (.int .i64 k) rfl g (fun _=>d.out) ?_;simp only[jj];refine tF 5 (.pointer (some ⟨wb,0,none⟩)) rfl g (fun _=>d.out) ?_;simp only[jj];refine tF 6 (.pointer (some ⟨wb,0,none⟩)) rfl g (fun _=>d.out) ?_;simp only[jj];refine tF 7 (.pointer (some ⟨wb,4,none⟩)) rfl g (fun _=>d.out) ?_;simp only[jj];refine tG 8 (.slice (some ⟨b,0,none⟩) p.lines.length p.lines.length) rfl g (fun _=>d.out) ?_;simp only[jj];refine tF 9 (.int .i64 k) rfl g (fun _=>d.out) ?_;simp only[jj];refine tF 10 (.pointer (some ⟨b,k,none⟩)) rfl g (fun _=>d.out) ?_;simp only[jj];refine wpAnyF_takeR (i:=11) (v:=u) rfl (by kernel_rfl) (by kernel_rfl) (by kernel_rfl) (by kernel_rfl) (by kernel_rfl) (by kernel_rfl) (fun _ _ _ h=>h) (Or.inl ⟨by rfl,fun W h=>by have h3:=h.2;clear h;go_simp⟩) g (fun _=>d.out) ?_;simp only[jj];refine tF 12 (.int .i64 t) rfl g (fun _=>d.out) ?_;simp only[jj];refine r1 13 rfl (fun K F=>?_);go_simp
   refine (without_ref u p.lines[k] t _ (HU.below D) az).mono ?_;rintro r w1 ⟨v,rfl,A,hb⟩;obtain⟨qv,cv,rfl⟩:=own_form A;have q:=hid (btr D hb);have HO:=hid A;clear A hb;go_wp2_with fail
   refine F _ _ (L.out _ q) (fun _=>C.out _ q) (fun _ _=>?_);clear F K
   try simp only[Act.put,jD,jE,jF]
   have P:=hid (L.out _ q);have O:=hid (C.out _ q);clear g d;refine tF 14 (.pointer (some ⟨b,k,none⟩)) rfl P (fun _=>O.out) ?_;simp only[jj];have aC:=P.out;have aB:=O.out;have aD:=ad.out _ q;obtain⟨U,ao⟩:=ab.out w1 _ q HO;have B6:=hid U;have K6:=hid ao;have S6:=hid (show (w1.setCell ⟨b,k,none⟩ (.slice qv ((goneP fun x=>x==(t:Int)) p.lines[k]).length cv)).cell? ⟨wb,4,none⟩=some (.slice (some ⟨b,0,none⟩) p.lines.length p.lines.length) by rw[af U.r (k:=4) rfl,w.out]);clear U ao ab HO;refine r1 15 rfl (fun K F=>?_);go_simp
   refine F _ _ S6 (notClean (by kernel_rfl)) (fun _ _=>?_);clear F K
   try simp only[Act.put]
   refine wpAnyF_done (by kernel_rfl) ?_ _;generalize World.setCell _ _ _=W6 at*;clear L C D ad HU q P O S6 aC aB aD;go_wp2_with fail
   exact⟨⟨k+1,_,by omega,by go_num,B6,K6⟩,by simp[intOf];omega⟩
  ·obtain rfl:k=p.lines.length:=by omega
   have aE:¬((p.lines.length:Int)<(p.lines.length:Int)):=by omega
   have BL:=hid (show BoxT wr wb tg V {p with lines:=lvs t p.lines} by unfold lvs;rw[←mapK_all];exact a);have KL:=n;clear a n J w ai B0;go_wp2_with fail
   clear cl;generalize wr=wL at*;generalize tg=aQ at*;have ai:=aH
   go_loopw [5] (fun i wr=>∃(k:Nat) (tg:Nat→Nat),k≤p.ready.length∧i=.int .i64 k∧Hid (BoxT wr wb tg V {{p with lines:=lvs t p.lines} with ready:=mapK (goneP fun x=>x==(t:Int)) k p.ready})∧Hid (Kt tag tg W wr)) (fun i _=>p.ready.length - (intOf i).toNat)
   case atStart=>exact⟨0,aQ,by omega,rfl,hid (by rw[mapK_zero];exact BL),KL⟩
   case round=>
    obtain⟨k,tg,hk,rfl,a,n⟩:=hrel;obtain⟨b,eL⟩:=a.o.ready.form;have w:=hid (show V 7=.slice (some ⟨b,0,none⟩) p.ready.length p.ready.length from eL.trans (cX (fun m=>Value.slice (some ⟨b,0,none⟩) m m) (cV _ _ _)));have J:=hid (show ListT wr tg 9 13 22 3 1 p.ready.length (.slice (some ⟨b,0,none⟩) p.ready.length p.ready.length) (ci (mapK (goneP fun x=>x==(t:Int)) k p.ready)) by
     have z:=a.o.ready;simp only at z;rw[cV,w.out] at z;exact z)
    have cl:wr.cell? ⟨wb,7,none⟩=some (.slice (some ⟨b,0,none⟩) p.ready.length p.ready.length):=by rw[af a.r (k:=7) rfl,w.out]
    clear eL;by_cases l:k<p.ready.length
    ·have aF:(k:Int)<(p.ready.length:Int):=by omega
     go_wp2_with fail
     clear cl;obtain⟨u,cu,Z⟩:=J.at (j:=k) l;have ah:=hid (show ci (mapK (goneP fun x=>x==(t:Int)) k p.ready) k=(p.ready[k].length,ints p.ready[k]) by
      have s:k<(mapK (goneP fun x=>x==(t:Int)) k p.ready).length:=by rw[cV];exact l
      unfold ci;rw[aa,ac s,aS,mapK_at _ _ _ l s])
     rw[ah.out] at Z;have HU:=hid (dm Z.1);have az:=hid (ai.out _ (aw l));have ad:=hid (fun X (h:Below wr.heap.size wr X)=>show X.frozen? ⟨b,k,none⟩=false from (J.kp (T:=fun _=>False) (.of_below h) (fun _ _=>rfl) (fun _ _ e=>e)).fr k);have L:=hid (fun X (h:Below wr.heap.size wr X)=>show X.cell? ⟨wb,7,none⟩=some (.slice (some ⟨b,0,none⟩) p.ready.length p.ready.length) by rw[af (a.below h).r (k:=7) rfl,w.out]);have C:=hid (fun X (h:Below wr.heap.size wr X)=>show X.cell? ⟨b,k,none⟩=some u from (h.cell (al _ _ cu)).trans cu);have D:Hid (Below wr.heap.size wr wr.drew):=hid (aA wr 1);have ab:=hid (fun X v (h:Below wr.heap.size wr X) (A:X.ownsRow wr.heap.size 3 1 v ((goneP fun x=>x==(t:Int)) p.ready[k]).length (ints ((goneP fun x=>x==(t:Int)) p.ready[k])))=>show BoxT (X.setCell ⟨b,k,none⟩ v) wb (tagN tg wr.heap.size (13+3*k)) V {{p with lines:=lvs t p.lines} with ready:=mapK (goneP fun x=>x==(t:Int)) (k+1) p.ready}∧Kt tag (tagN tg wr.heap.size (13+3*k)) W (X.setCell ⟨b,k,none⟩ v) from by
      obtain⟨aG,au⟩:=J.put (tag':=tagN tg wr.heap.size (13+3*k)) (w1:=X) (u:=v) (c:=(((goneP fun x=>x==(t:Int)) p.ready[k]).length,ints ((goneP fun x=>x==(t:Int)) p.ready[k]))) (j:=k) l (fun j=>by omega) (.of_below h) (fun k hk=>cW hk) ⟨A.mono (bI _),fun j e=>by
       unfold tagN;rw[ae (by have:=(A.lt j e).1;omega)]⟩
      refine⟨a.ready au (fun k hk=>cW hk) ?_,n.trans (Kt.of (tag':=tagN tg wr.heap.size (13+3*k)) au (fun k e=>by rcases e with e|⟨j,e⟩<;>omega) (fun k hk=>cW hk))⟩;rw[cV,w.out,mapK_succ _ _ _ l,ci_set _ _ (by rw[cV];exact l)];exact aG)
     clear Z cu ah;refine wp_region_F (S:=fun X=>X.cell? ⟨wb,7,none⟩=some (.slice (some ⟨b,0,none⟩) p.ready.length p.ready.length)) (R:=fun X=>X.cell? ⟨b,k,none⟩=some u) [15] (by kernel_rfl) (L.out _ D) (C.out _ D) (fun an am=>?_);have g:=hid an;have d:=hid am;clear an am;refine tF 0 (.pointer (some ⟨wb,0,none⟩)) rfl g (fun _=>d.out) ?_;simp only[jj];refine tF 1 (.pointer (some ⟨wb,0,none⟩)) rfl g (fun _=>d.out) ?_;simp only[jj];refine tF 2 (.pointer (some ⟨wb,7,none⟩)) rfl g (fun _=>d.out) ?_;simp only[jj];refine tG 3 (.slice (some ⟨b,0,none⟩) p.ready.length p.ready.length) rfl g (fun _=>d.out) ?_;simp only[jj];refine tF 4 (.int .i64 k) rfl g (fun _=>d.out) ?_;simp only[jj];refine tF 5 (.pointer (some ⟨wb,0,none⟩)) rfl g (fun _=>d.out) ?_;simp only[jj];refine tF 6 (.pointer (some ⟨wb,0,none⟩)) rfl g (fun _=>d.out) ?_;simp only[jj];refine tF 7 (.pointer (some ⟨wb,7,none⟩)) rfl g (fun _=>d.out) ?_;simp only[jj];refine tG 8 (.slice (some ⟨b,0,none⟩) p.ready.length p.ready.length) rfl g (fun _=>d.out) ?_;simp only[jj];refine tF 9 (.int .i64 k) rfl g (fun _=>d.out) ?_;simp only[jj];refine tF 10 (.pointer (some ⟨b,k,none⟩)) rfl g (fun _=>d.out) ?_;simp only[jj];refine wpAnyF_takeR (i:=11) (v:=u) rfl (by kernel_rfl) (by kernel_rfl) (by kernel_rfl) (by kernel_rfl) (by kernel_rfl) (by kernel_rfl) (fun _ _ _ h=>h) (Or.inl ⟨by rfl,fun W h=>by have h3:=h.2;clear h;go_simp⟩) g (fun _=>d.out) ?_;simp only[jj];refine tF 12 (.int .i64 t) rfl g (fun _=>d.out) ?_;simp only[jj];refine r1 13 rfl (fun K F=>?_);go_simp
     refine (without_ref u p.ready[k] t _ (HU.below D) az).mono ?_;rintro r w1 ⟨v,rfl,A,hb⟩;obtain⟨qv,cv,rfl⟩:=own_form A;have q:=hid (btr D hb);have HO:=hid A;clear A hb;go_wp2_with fail
     refine F _ _ (L.out _ q) (fun _=>C.out _ q) (fun _ _=>?_);clear F K
     try simp only[Act.put,jD,jE,jF]
     have P:=hid (L.out _ q);have O:=hid (C.out _ q);clear g d;refine tF 14 (.pointer (some ⟨b,k,none⟩)) rfl P (fun _=>O.out) ?_;simp only[jj];have aC:=P.out;have aB:=O.out;have aD:=ad.out _ q;obtain⟨U,ao⟩:=ab.out w1 _ q HO;have B6:=hid U;have K6:=hid ao;have S6:=hid (show (w1.setCell ⟨b,k,none⟩ (.slice qv ((goneP fun x=>x==(t:Int)) p.ready[k]).length cv)).cell? ⟨wb,7,none⟩=some (.slice (some ⟨b,0,none⟩) p.ready.length p.ready.length) by rw[af U.r (k:=7) rfl,w.out]);clear U ao ab HO;refine r1 15 rfl (fun K F=>?_);go_simp
     refine F _ _ S6 (notClean (by kernel_rfl)) (fun _ _=>?_);clear F K
     try simp only[Act.put]
     refine wpAnyF_done (by kernel_rfl) ?_ _;generalize World.setCell _ _ _=W6 at*;clear L C D ad HU q P O S6 aC aB aD;go_wp2_with fail
     exact⟨⟨k+1,_,by omega,by go_num,B6,K6⟩,by simp[intOf];omega⟩
    ·obtain rfl:k=p.ready.length:=by omega
     have aE:¬((p.ready.length:Int)<(p.ready.length:Int)):=by omega
     have BR:=hid (show BoxT wr wb tg V {p with lines:=lvs t p.lines,ready:=lvs t p.ready} by
      have z:=a.out;rw[show mapK (goneP fun x=>x==(t:Int)) p.ready.length p.ready=lvs t p.ready from mapK_all _ _] at z;exact z)
     have C:=n;clear a n J w ai BL KL aH;go_wp2_with fail
     clear cl;generalize wr=wR at*;generalize tg=H at*
     go_loopw [6] (fun i wr=>∃(k:Nat),k≤p.cores.length∧i=.int .i64 k∧Hid (BoxT wr wb H V {p with lines:=lvs t p.lines,ready:=lvs t p.ready,cores:=mapK (noT t) k p.cores})∧Hid (Kt tag H W wr)) (fun i _=>p.cores.length - (intOf i).toNat)
     case atStart=>exact⟨0,by omega,rfl,hid (by rw[mapK_zero];exact BR),C⟩
     case round=>
      obtain⟨k,hk,rfl,a,n⟩:=hrel;by_cases l:k<p.cores.length
      ·have aF:(k:Int)<(p.cores.length:Int):=by omega
       have aP:=HQ.out (by omega);subst aP;have s:k<(mapK (noT t) k p.cores).length:=by rw[cV];exact l
       have G:V 6=.slice (some ⟨g6,0,none⟩) (mapK (noT t) k p.cores).length cap6:=by rw[cV];exact E6
       have c6:wr.cell? ⟨wb,6,none⟩=some (.slice (some ⟨g6,0,none⟩) p.cores.length cap6):=by rw[af a.r (k:=6) rfl,E6.out]
       have h2:=a.o.cores;simp only at h2;rw[G] at h2;have xk:=h2.int s;have fk:=h2.frozen k;rw[mapK_at _ _ _ l s] at xk;have E:=hid (mapK_succ (noT (t:Int)) k p.cores l);have I:=hid (mapK_at (noT (t:Int)) k p.cores l s);obtain⟨y,hy⟩:∃y,p.cores[k]=y:=⟨_,rfl⟩
       rw[hy] at xk E I;by_cases B:y=(t:Int)
       ·obtain⟨hn,ar⟩:=a.coresCell G k (-1);have N:=hid (show BoxT (wr.setCell ⟨g6,k,none⟩ (.int .i64 (-1))) wb H V {p with lines:=lvs t p.lines,ready:=lvs t p.ready,cores:=mapK (noT t) (k+1) p.cores} by
         rw[E.out,show noT (t:Int) y= -1 from ag B];exact hn)
        have ay:=hid (n.trans ar);rw[B] at xk;clear hn ar G h2 a B hy E I;go_wp2_with fail
        exact⟨⟨k+1,by omega,by go_num,N,ay⟩,by simp[intOf];omega⟩
       ·have N:=hid (show BoxT wr wb H V {p with lines:=lvs t p.lines,ready:=lvs t p.ready,cores:=mapK (noT t) (k+1) p.cores} by
         rw[E.out,show noT (t:Int) y=y from ae B, ←I.out,cF];exact a)
        have aM:(y==(t:Int))=false:=by simpa using B
        clear G h2 a B hy E I;go_wp2_with fail
        exact⟨⟨k+1,by omega,by go_num,N,n⟩,by simp[intOf];omega⟩
      ·obtain rfl:k=p.cores.length:=by omega
       have aE:¬((p.cores.length:Int)<(p.cores.length:Int)):=by omega
       have c6:wr.cell? ⟨wb,6,none⟩=some (.slice q6 p.cores.length cap6):=by rw[af a.r (k:=6) rfl,E6.out]
       have BC:=hid (show BoxT wr wb H V {p with lines:=lvs t p.lines,ready:=lvs t p.ready,cores:=p.cores.map (noT t)} by rw[←mapK_all];exact a);have KC:=n;clear a n BR C;go_wp2_with fail
       clear c6;generalize wr=wC at*;have aJ:=hid (show p.tasks.length=p.tasks.length from rfl)
       go_loopw [7] (fun i wr=>∃(k:Nat),k≤p.tasks.length∧i=.int .i64 k∧Hid (BoxT wr wb H V {p with lines:=lvs t p.lines,ready:=lvs t p.ready,cores:=p.cores.map (noT t),tasks:=mapK (nOw t) k p.tasks})∧Hid (Kt tag H W wr)) (fun i _=>p.tasks.length - (intOf i).toNat)
       case atStart=>exact⟨0,by omega,rfl,hid (by rw[mapK_zero];exact BC),KC⟩
       case round=>
        obtain⟨k,hk,rfl,a,n⟩:=hrel;have aj:=hid (show (mapK (nOw t) k p.tasks).length=p.tasks.length from (cV _ _ _).trans aJ);have c3:wr.cell? ⟨wb,3,none⟩=some (.slice (some ⟨Q,0,none⟩) p.tasks.length cap3):=by rw[af a.r (k:=3) rfl,E3.out]
        have G:V 3=.slice (some ⟨Q,0,none⟩) (mapK (nOw t) k p.tasks).length cap3:=by rw[aj.out];exact E3
        by_cases l:k<p.tasks.length
        ·have aF:(k:Int)<(p.tasks.length:Int):=by omega
         have aq:k<p.tasks.length:=by rw[aJ.out];exact l
         have s:k<(mapK (nOw t) k p.tasks).length:=by rw[aj.out];exact l
         have ax:=a.tasksAt G s (show 17<20 by omega);have aT:=a.tasksFr G (k*20+17);simp only[mapK_at (nOw t) k p.tasks aq] at ax;have E:=hid (mapK_succ (nOw (t:Int)) k p.tasks aq);have I:=hid (mapK_at (nOw (t:Int)) k p.tasks aq s);obtain⟨f,hf⟩:∃f,p.tasks[k]=f:=⟨_,rfl⟩
         rw[hf] at E I ax;by_cases B:f 17=(t:Int)
         ·obtain⟨hn,ar⟩:=a.tasksCell G s (show 17<20 by omega) (-1);have N:=hid (show BoxT (wr.setCell ⟨Q,k*20+17,none⟩ (.int .i64 (-1))) wb H V {p with lines:=lvs t p.lines,ready:=lvs t p.ready,cores:=p.cores.map (noT t),tasks:=mapK (nOw t) (k+1) p.tasks} by
           rw[E.out,show nOw (t:Int) f=upd f 17 (-1) from ag B, ←I.out];exact hn)
          have ay:=hid (n.trans ar);rw[B] at ax;clear hn ar G a B hf E I aj aq s;go_wp2_with fail
          exact⟨⟨k+1,by omega,by go_num,N,ay⟩,by simp[intOf];omega⟩
         ·have N:=hid (show BoxT wr wb H V {p with lines:=lvs t p.lines,ready:=lvs t p.ready,cores:=p.cores.map (noT t),tasks:=mapK (nOw t) (k+1) p.tasks} by
           rw[E.out,show nOw (t:Int) f=f from ae B, ←I.out,cF];exact a)
          have aM:(f 17==(t:Int))=false:=by simpa using B
          generalize f 17=y at ax aM;clear G a B hf E I aj aq s;go_wp2_with fail
          exact⟨⟨k+1,by omega,by go_num,N,n⟩,by simp[intOf];omega⟩
        ·obtain rfl:k=p.tasks.length:=by omega
         have aE:¬((p.tasks.length:Int)<(p.tasks.length:Int)):=by omega
         have BT:=hid (show BoxT wr wb H V {p with lines:=lvs t p.lines,ready:=lvs t p.ready,cores:=p.cores.map (noT t),tasks:=p.tasks.map (nOw t)} by
          have z:=a.out;simp only[mapK_all] at z;exact z)
         have KT:=n;clear a n G aj;have L0:=hid (show (p.tasks.map (nOw t)).length=p.tasks.length by simp);have M:V 3=.slice (some ⟨Q,0,none⟩) ({p with lines:=lvs t p.lines,ready:=lvs t p.ready,cores:=p.cores.map (noT t),tasks:=p.tasks.map (nOw t)}:PW).tasks.length cap3:=E3.trans (cX (fun m=>Value.slice (some ⟨Q,0,none⟩) m cap3) L0.symm);have av:t<({p with lines:=lvs t p.lines,ready:=lvs t p.ready,cores:=p.cores.map (noT t),tasks:=p.tasks.map (nOw t)}:PW).tasks.length:=by show t<(p.tasks.map (nOw t)).length;rw[L0.out];exact aO
         have x9:=BT.taskAt M av (show 9<20 by omega);have f9:=BT.tasksFr M (t*20+9);obtain⟨b1,k1⟩:=BT.task M av (show 9<20 by omega) 0;have e4:V 3=.slice (some ⟨Q,0,none⟩) (({p with lines:=lvs t p.lines,ready:=lvs t p.ready,cores:=p.cores.map (noT t),tasks:=p.tasks.map (nOw t)}:PW).task t 9 0).tasks.length cap3:=by rw[ap];exact M
         have aL:t<(({p with lines:=lvs t p.lines,ready:=lvs t p.ready,cores:=p.cores.map (noT t),tasks:=p.tasks.map (nOw t)}:PW).task t 9 0).tasks.length:=by rw[ap];exact av
         have B1:=hid b1;have K1:=hid (KT.trans k1);have E4:=hid e4;have aI:=hid aL;clear b1 k1 M e4 av aL;go_upto_region 19 with fail
         generalize World.setCell _ _ _=W1 at*;clear x9 f9 c3;have c3:W1.cell? ⟨wb,3,none⟩=some (.slice (some ⟨Q,0,none⟩) p.tasks.length cap3):=by rw[af B1.r (k:=3) rfl,E3.out]
         have a0:=B1.taskAt E4 aI (show 14<20 by omega);have aR:=B1.tasksFr E4 (t*20+14);obtain⟨b2,k2⟩:=B1.task E4 aI (show 14<20 by omega) (-1);have B2:=hid b2;have K2:=hid (K1.trans k2);clear b2 k2;go_wp2_with fail
         exact aY (aN rfl _ _ _) rfl ⟨rfl,H,B2.out,K2.out⟩
set_option maxRecDepth 512
set_option maxHeartbeats 200000
theorem map_getD (p:PW) (t:Nat) (h:(Nat→Int)→(Nat→Int)) (a:t<p.tasks.length):(p.tasks.map h).getD t bl=h (p.tasks.getD t bl):=by
 rw[aa,cR,ac a,aa,ac a];rfl
end Go.Proofs.YtaejnmmpddbbjaaGreatDoor.Wd
