/- Qak -/
import Derived.Test.YtaejnmmpddbbjaaGreatDoorQaj
set_option maxRecDepth 100000
set_option maxHeartbeats 16000000
namespace Go.Proofs.YtaejnmmpddbbjaaGreatDoor
namespace Wd
open Go.RowKit Mem Bw Nums Mmu
theorem ss (t x:Int) (l:List Int):en (fun x=>x==t) (l++[x])=en (fun x=>x==t) l++(if x=t then [] else [x]):=by
 unfold en;rw[eg]
 congr 1
 by_cases h:x=t
 ·rw[af h,List.filter_cons_of_neg (by simp[h])];rfl
 ·rw[ae h,List.filter_cons_of_pos (by simp[h])];rfl
theorem ji (v:Value) (l:List Int) (t:Int) (w:World) (N:ey w v l) (hl:l.length<=1000):
  Calls Tryz.prog 43 #[v,.int .i64 t] w fun r w'=>∃u,r=.returned u∧w'.ownsRow w.heap.size 3 1 u (en (fun x=>x==t) l).length (ec (en (fun x=>x==t) l))∧Below w.heap.size w w':=by
 obtain⟨q,b,off,cap,rfl,J,S⟩:=N;have E:=hid J;have G:=hid S;have V:(l.length:Int)<=1000:=oA;go_enter Tryz.func43,Tryz.ntmps43
 go_wp2_with fail
 go_loopw [5,6] (fun u i wr=>∃(k:Nat) (f:Option Addr) (cu:Nat),k<=l.length∧i=.int .i64 k∧u=.slice f (en (fun x=>x==t) (l.take k)).length cu∧Hid (wr.ownsRow w.heap.size 3 1 (.slice f (en (fun x=>x==t) (l.take k)).length cu) (en (fun x=>x==t) (l.take k)).length (ec (en (fun x=>x==t) (l.take k))))∧Hid (Below w.heap.size w wr)) (fun _ i _=>l.length - (intOf i).toNat)
 case atStart=>exact⟨0,none,0,oA,rfl,rfl,hid (cO _ _ _ _),hid (ai _ _)⟩
 case round=>
  obtain⟨k,f,cu,hk,rfl,rfl,e,d⟩:=hrel;by_cases A:k<l.length
  ·have W:(k:Int)<(l.length:Int):=oA;have K:=E.out oA;subst K;have s:=G.out k A;have H:=(d.cell (aj _ _ s)).trans s;have p:=hid (bu A);have m:=hid (show (en (fun x=>x==t) (l.take k)).length<=1000 from aB (dz _ _) (by rw[bI];omega));obtain⟨y,O⟩:∃y,l[k]=y:=⟨_,rfl⟩
   rw[O] at H p;have a:=hid (ss t y (l.take k));rw[<-p.out] at a;generalize en (fun x=>x==t) (l.take k)=zs at e m a ⊢;by_cases h:y=t
   ·rw[af h,du] at a;have R:(y !=t)=false:=by simpa using h
    go_wp2_with fail
    refine⟨⟨k+1,f,cu,oA,by go_num,by rw[a.out],hid (by rw[a.out];exact e),d⟩,by simp[intOf];omega⟩
   ·rw[ae h] at a;have R:(y !=t)=true:=by simpa using h
    have g:=hid (bal (ai wr.heap.size wr) (.cells #[.int .i64 y] 3));have B:=hid (cD wr #[.int .i64 y] 3 0);obtain⟨i0,hi,T,M,Q⟩:=eH jY;obtain⟨X,w',L,z,I,_⟩:=run_append_own (P:=Tryz.prog) (wr.alloc (.cells #[.int .i64 y] 3)) w.heap.size 22 22 3 i0 (.int .i64 0) 1 8 Tryz.underlying22 hi T M Q rfl oD _ _ _ (ex e g) ⟨wr.heap.size,0,none⟩ 1 1 [.int .i64 y] rfl (fun j v c=>by
     match j,c with
     |0,c=>cases c;exact B
     |j+1,c=>simp at c) (A5 y) (by have:=m.out;unfold maxLen;omega) (by have:=m.out;omega) (aB d.size g.size)
    obtain⟨o,n,rfl⟩:=fZ z;have F:=hid L;have D:=hid (show w'.ownsRow w.heap.size 3 1 (.slice o (zs.length+1) n) (zs++[y]).length (ec (zs++[y])) by
     rw[av,show ec (zs++[y])=ec zs++[.int .i64 y] by unfold ec;simp];exact z)
    have C:=hid ((btr d g).grown I (aB d.size g.size) (fun j c=>(e.lt j c).1));go_wp2_with (first|(at_builtin;refine fe rfl _ _ 22 rfl (.slice f zs.length cu) (.slice (some ⟨wr.heap.size,0,none⟩) 1 1) (.slice o (zs.length+1) n) rfl rfl F ?_))
    exact⟨⟨k+1,o,n,oA,by go_num,by rw[a.out,av];rfl,hid (by rw[a.out];have:=D.out;rw[av] at this ⊢;exact this),C⟩,by simp[intOf];omega⟩
  ·obtain rfl:k=l.length:=oA;have U:¬((l.length:Int)<(l.length:Int)):=oA;rw[cY] at e;rw[cY];go_wp2_with fail
   go_ret
   exact⟨_,rfl,e.out,d.out⟩
def nOw (t:Int) (f:Nat->Int):Nat->Int:=if f 17=t then upd f 17 (-1) else f
def stP (p:PW) (t:Nat):PW:=({p with lines:=lvs t p.lines,ready:=lvs t p.ready,D6:=p.D6.map (noT t),DY:=p.DY.map (nOw t)}:PW).task t 9 0 |>.task t 14 (-1)
theorem jf (wb:Nat) (tag:Nat->Nat) (V:Nat->Value) (p:PW) (t:Nat) (W:World) (bt:cb W wb tag V p) (O:p.Fits) (ht:t<p.DY.length):
  Calls Tryz.prog 50 #[.pointer (some ⟨wb,0,none⟩),.int .i64 t] W fun r W'=>r=.returned (.tuple #[])∧∃tag',cb W' wb tag' V (stP p t)∧Kt tag tag' W W':=by
 have aU:(p.lines.length:Int)<=1000:=by have:=O.lines;omega
 have aW:(p.ready.length:Int)<=1000:=by have:=O.ready;omega
 have aV:(p.D6.length:Int)<=1000:=by have:=O.D6;omega
 have aS:(p.DY.length:Int)<=1000:=by have:=O.DY;omega
 have an:=hid O.line;have aG:=hid O.next;have B0:=hid bt;have aY:(t:Int)<(p.DY.length:Int):=oA;obtain⟨q6,g6,cap6,e6,aM⟩:=bt.o.D6.shape;obtain⟨U,cap3,M⟩:=bt.o.DY.form oA;have E6:=hid e6;have HQ:=hid aM;have E3:=hid M;have aH:=hid ht;go_enter Tryz.func50,Tryz.ntmps50
 go_wp2_with fail
 go_loopw [4] (fun i wr=>∃(k:Nat) (tg:Nat->Nat),k<=p.lines.length∧i=.int .i64 k∧Hid (cb wr wb tg V {p with lines:=fx (en fun x=>x==(t:Int)) k p.lines})∧Hid (Kt tag tg W wr)) (fun i _=>p.lines.length - (intOf i).toNat)
 case atStart=>exact⟨0,tag,oA,rfl,hid (by rw[fD];exact B0),hid (Kt.refl _ _)⟩
 case round=>
  obtain⟨k,tg,hk,rfl,a,q⟩:=hrel;obtain⟨b,eL⟩:=a.o.lines.form;have z:=hid (eL.trans (cX (fun m=>Value.slice (some ⟨b,0,none⟩) m m) (cS _ _ _)));have F:=hid (show fy wr tg 6 12 22 3 1 p.lines.length (.slice (some ⟨b,0,none⟩) p.lines.length p.lines.length) (ci (fx (en fun x=>x==(t:Int)) k p.lines)) by
   have s:=a.o.lines;simp only at s;rw[cS,z.out] at s;exact s)
  have cl:=bg a z;by_cases l:k<p.lines.length
  ·have ay:(k:Int)<(p.lines.length:Int):=oA;go_wp2_with fail
   obtain⟨u,cu,hu⟩:=F.at (j:=k) l;have ai:=hid (show ci (fx (en fun x=>x==(t:Int)) k p.lines) k=(p.lines[k].length,ec p.lines[k]) by
    have w:k<(fx (en fun x=>x==(t:Int)) k p.lines).length:=by rw[cS];exact l
    unfold ci;rw[aa,ac w,aT,eN _ _ _ l w])
   rw[ai.out] at hu;have HU:=hid (de hu.1);have ao:=hid (an.out _ (aw l));have ag:=hid (fun X (h:Below wr.heap.size wr X)=>(F.kp (T:=fun _=>False) (.Ed h) (fun _ _=>rfl) (fun _ _ e=>e)).fr k);have I:=hid (fun X (h:Below wr.heap.size wr X)=>show X.cell? ⟨wb,4,none⟩=some (.slice (some ⟨b,0,none⟩) p.lines.length p.lines.length) by rw[ah (a.below h).r (k:=4) rfl,z.out]);have D:=hid (fun X (h:Below wr.heap.size wr X)=>(h.cell (aj _ _ cu)).trans cu);have C:=hid (aC wr 1);have ad:=hid (fun X v (h:Below wr.heap.size wr X) (A:X.ownsRow wr.heap.size 3 1 v ((en fun x=>x==(t:Int)) p.lines[k]).length (ec ((en fun x=>x==(t:Int)) p.lines[k])))=>show cb (X.setCell ⟨b,k,none⟩ v) wb (gy tg wr.heap.size (12+3*k)) V {p with lines:=fx (en fun x=>x==(t:Int)) (k+1) p.lines}∧Kt tag (gy tg wr.heap.size (12+3*k)) W (X.setCell ⟨b,k,none⟩ v) from by
    obtain⟨az,Z⟩:=F.put (tag':=gy tg wr.heap.size (12+3*k)) (w1:=X) (u:=v) (c:=(((en fun x=>x==(t:Int)) p.lines[k]).length,ec ((en fun x=>x==(t:Int)) p.lines[k]))) (j:=k) l (fun j=>oA) (.Ed h) (fun k hk=>cV hk) ⟨A.mono (bF _),fun j e=>by
     unfold gy;rw[ae (by have:=(A.lt j e).1;omega)]⟩
    refine⟨a.lines Z (fun k hk=>cV hk) ?_,q.trans (Kt.of (tag':=gy tg wr.heap.size (12+3*k)) Z (fun k e=>by rcases e with e|⟨j,e⟩<;>omega) (fun k hk=>cV hk))⟩;rw[cS,z.out,eO _ _ _ l,jq _ _ (by rw[cS];exact l)];exact az)
   refine d7 (S:=fun X=>X.cell? ⟨wb,4,none⟩=some (.slice (some ⟨b,0,none⟩) p.lines.length p.lines.length)) (R:=fun X=>X.cell? ⟨b,k,none⟩=some u) [15] oK (I.out _ C) (D.out _ C) (fun aq ap=>?_);have g:=hid aq;have d:=hid ap;refine tF 0 (.pointer (some ⟨wb,0,none⟩)) rfl g (fun _=>d.out) ?_;simp only[jj];refine tF 1 (.pointer (some ⟨wb,0,none⟩)) rfl g (fun _=>d.out) ?_;simp only[jj];refine tF 2 (.pointer (some ⟨wb,4,none⟩)) rfl g (fun _=>d.out) ?_;simp only[jj];refine tG 3 (.slice (some ⟨b,0,none⟩) p.lines.length p.lines.length) rfl g (fun _=>d.out) ?_;simp only[jj];refine tF 4 (.int .i64 k) rfl g (fun _=>d.out) ?_;simp only[jj];refine tF 5 (.pointer (some ⟨wb,0,none⟩)) rfl g (fun _=>d.out) ?_;simp only[jj];refine tF 6 (.pointer (some ⟨wb,0,none⟩)) rfl g (fun _=>d.out) ?_;simp only[jj];refine tF 7 (.pointer (some ⟨wb,4,none⟩)) rfl g (fun _=>d.out) ?_;simp only[jj];refine tG 8 (.slice (some ⟨b,0,none⟩) p.lines.length p.lines.length) rfl g (fun _=>d.out) ?_;simp only[jj];refine tF 9 (.int .i64 k) rfl g (fun _=>d.out) ?_;simp only[jj];refine tF 10 (.pointer (some ⟨b,k,none⟩)) rfl g (fun _=>d.out) ?_;simp only[jj];refine eu (i:=11) (v:=u) rfl oK oK oK oK oK oK (fun _ _ _ h=>h) (Or.inl ⟨oR,fun W h=>by have h3:=h.2;clear h;go_simp⟩) g (fun _=>d.out) ?_;simp only[jj];refine tF 12 (.int .i64 t) rfl g (fun _=>d.out) ?_;simp only[jj];refine r1 13 rfl (fun K J=>?_);go_simp
   refine (ji u p.lines[k] t _ (HU.below C) ao).mono ?_;rintro r w1 ⟨v,rfl,A,hb⟩;obtain⟨qv,cv,rfl⟩:=fZ A;have n:=hid (btr C hb);have HO:=hid A;go_wp2_with fail
   refine J _ _ (I.out _ n) (fun _=>D.out _ n) (fun _ _=>?_)
   try simp only[Act.put,jD,jE,jF]
   have Q:=hid (I.out _ n);have P:=hid (D.out _ n);refine tF 14 (.pointer (some ⟨b,k,none⟩)) rfl Q (fun _=>P.out) ?_;simp only[jj];have aJ:=Q.out;have aI:=P.out;have aL:=ag.out _ n;obtain⟨Y,au⟩:=ad.out w1 _ n HO;have B6:=hid Y;have K6:=hid au;have S6:=hid (show (w1.setCell ⟨b,k,none⟩ (.slice qv ((en fun x=>x==(t:Int)) p.lines[k]).length cv)).cell? ⟨wb,4,none⟩=some (.slice (some ⟨b,0,none⟩) p.lines.length p.lines.length) by rw[ah Y.r (k:=4) rfl,z.out]);refine r1 15 rfl (fun K J=>?_);go_simp
   refine J _ _ S6 (eF oK) (fun _ _=>?_)
   try simp only[Act.put]
   refine d5 oK ?_ _;generalize World.setCell _ _ _=W6 at*;go_wp2_with fail
   exact⟨⟨k+1,_,oA,by go_num,B6,K6⟩,by simp[intOf];omega⟩
  ·obtain rfl:k=p.lines.length:=oA;have ar:¬((p.lines.length:Int)<(p.lines.length:Int)):=oA;have BL:=hid (show cb wr wb tg V {p with lines:=lvs t p.lines} by unfold lvs;rw[<-fY];exact a);have KL:=q;go_wp2_with fail
   generalize wr=wL at*;generalize tg=aP at*;have an:=aG
   go_loopw [5] (fun i wr=>∃(k:Nat) (tg:Nat->Nat),k<=p.ready.length∧i=.int .i64 k∧Hid (cb wr wb tg V {{p with lines:=lvs t p.lines} with ready:=fx (en fun x=>x==(t:Int)) k p.ready})∧Hid (Kt tag tg W wr)) (fun i _=>p.ready.length - (intOf i).toNat)
   case atStart=>exact⟨0,aP,oA,rfl,hid (by rw[fD];exact BL),KL⟩
   case round=>
    obtain⟨k,tg,hk,rfl,a,q⟩:=hrel;obtain⟨b,eL⟩:=a.o.ready.form;have z:=hid (eL.trans (cX (fun m=>Value.slice (some ⟨b,0,none⟩) m m) (cS _ _ _)));have F:=hid (show fy wr tg 9 13 22 3 1 p.ready.length (.slice (some ⟨b,0,none⟩) p.ready.length p.ready.length) (ci (fx (en fun x=>x==(t:Int)) k p.ready)) by
     have s:=a.o.ready;simp only at s;rw[cS,z.out] at s;exact s)
    have cl:=bg a z;by_cases l:k<p.ready.length
    ·have ay:(k:Int)<(p.ready.length:Int):=oA;go_wp2_with fail
     obtain⟨u,cu,hu⟩:=F.at (j:=k) l;have ai:=hid (show ci (fx (en fun x=>x==(t:Int)) k p.ready) k=(p.ready[k].length,ec p.ready[k]) by
      have w:k<(fx (en fun x=>x==(t:Int)) k p.ready).length:=by rw[cS];exact l
      unfold ci;rw[aa,ac w,aT,eN _ _ _ l w])
     rw[ai.out] at hu;have HU:=hid (de hu.1);have ao:=hid (an.out _ (aw l));have ag:=hid (fun X (h:Below wr.heap.size wr X)=>(F.kp (T:=fun _=>False) (.Ed h) (fun _ _=>rfl) (fun _ _ e=>e)).fr k);have I:=hid (fun X (h:Below wr.heap.size wr X)=>show X.cell? ⟨wb,7,none⟩=some (.slice (some ⟨b,0,none⟩) p.ready.length p.ready.length) by rw[ah (a.below h).r (k:=7) rfl,z.out]);have D:=hid (fun X (h:Below wr.heap.size wr X)=>(h.cell (aj _ _ cu)).trans cu);have C:=hid (aC wr 1);have ad:=hid (fun X v (h:Below wr.heap.size wr X) (A:X.ownsRow wr.heap.size 3 1 v ((en fun x=>x==(t:Int)) p.ready[k]).length (ec ((en fun x=>x==(t:Int)) p.ready[k])))=>show cb (X.setCell ⟨b,k,none⟩ v) wb (gy tg wr.heap.size (13+3*k)) V {{p with lines:=lvs t p.lines} with ready:=fx (en fun x=>x==(t:Int)) (k+1) p.ready}∧Kt tag (gy tg wr.heap.size (13+3*k)) W (X.setCell ⟨b,k,none⟩ v) from by
      obtain⟨az,Z⟩:=F.put (tag':=gy tg wr.heap.size (13+3*k)) (w1:=X) (u:=v) (c:=(((en fun x=>x==(t:Int)) p.ready[k]).length,ec ((en fun x=>x==(t:Int)) p.ready[k]))) (j:=k) l (fun j=>oA) (.Ed h) (fun k hk=>cV hk) ⟨A.mono (bF _),fun j e=>by
       unfold gy;rw[ae (by have:=(A.lt j e).1;omega)]⟩
      refine⟨a.ready Z (fun k hk=>cV hk) ?_,q.trans (Kt.of (tag':=gy tg wr.heap.size (13+3*k)) Z (fun k e=>by rcases e with e|⟨j,e⟩<;>omega) (fun k hk=>cV hk))⟩;rw[cS,z.out,eO _ _ _ l,jq _ _ (by rw[cS];exact l)];exact az)
     refine d7 (S:=fun X=>X.cell? ⟨wb,7,none⟩=some (.slice (some ⟨b,0,none⟩) p.ready.length p.ready.length)) (R:=fun X=>X.cell? ⟨b,k,none⟩=some u) [15] oK (I.out _ C) (D.out _ C) (fun aq ap=>?_);have g:=hid aq;have d:=hid ap;refine tF 0 (.pointer (some ⟨wb,0,none⟩)) rfl g (fun _=>d.out) ?_;simp only[jj];refine tF 1 (.pointer (some ⟨wb,0,none⟩)) rfl g (fun _=>d.out) ?_;simp only[jj];refine tF 2 (.pointer (some ⟨wb,7,none⟩)) rfl g (fun _=>d.out) ?_;simp only[jj];refine tG 3 (.slice (some ⟨b,0,none⟩) p.ready.length p.ready.length) rfl g (fun _=>d.out) ?_;simp only[jj];refine tF 4 (.int .i64 k) rfl g (fun _=>d.out) ?_;simp only[jj];refine tF 5 (.pointer (some ⟨wb,0,none⟩)) rfl g (fun _=>d.out) ?_;simp only[jj];refine tF 6 (.pointer (some ⟨wb,0,none⟩)) rfl g (fun _=>d.out) ?_;simp only[jj];refine tF 7 (.pointer (some ⟨wb,7,none⟩)) rfl g (fun _=>d.out) ?_;simp only[jj];refine tG 8 (.slice (some ⟨b,0,none⟩) p.ready.length p.ready.length) rfl g (fun _=>d.out) ?_;simp only[jj];refine tF 9 (.int .i64 k) rfl g (fun _=>d.out) ?_;simp only[jj];refine tF 10 (.pointer (some ⟨b,k,none⟩)) rfl g (fun _=>d.out) ?_;simp only[jj];refine eu (i:=11) (v:=u) rfl oK oK oK oK oK oK (fun _ _ _ h=>h) (Or.inl ⟨oR,fun W h=>by have h3:=h.2;clear h;go_simp⟩) g (fun _=>d.out) ?_;simp only[jj];refine tF 12 (.int .i64 t) rfl g (fun _=>d.out) ?_;simp only[jj];refine r1 13 rfl (fun K J=>?_);go_simp
     refine (ji u p.ready[k] t _ (HU.below C) ao).mono ?_;rintro r w1 ⟨v,rfl,A,hb⟩;obtain⟨qv,cv,rfl⟩:=fZ A;have n:=hid (btr C hb);have HO:=hid A;go_wp2_with fail
     refine J _ _ (I.out _ n) (fun _=>D.out _ n) (fun _ _=>?_)
     try simp only[Act.put,jD,jE,jF]
     have Q:=hid (I.out _ n);have P:=hid (D.out _ n);refine tF 14 (.pointer (some ⟨b,k,none⟩)) rfl Q (fun _=>P.out) ?_;simp only[jj];have aJ:=Q.out;have aI:=P.out;have aL:=ag.out _ n;obtain⟨Y,au⟩:=ad.out w1 _ n HO;have B6:=hid Y;have K6:=hid au;have S6:=hid (show (w1.setCell ⟨b,k,none⟩ (.slice qv ((en fun x=>x==(t:Int)) p.ready[k]).length cv)).cell? ⟨wb,7,none⟩=some (.slice (some ⟨b,0,none⟩) p.ready.length p.ready.length) by rw[ah Y.r (k:=7) rfl,z.out]);refine r1 15 rfl (fun K J=>?_);go_simp
     refine J _ _ S6 (eF oK) (fun _ _=>?_)
     try simp only[Act.put]
     refine d5 oK ?_ _;generalize World.setCell _ _ _=W6 at*;go_wp2_with fail
     exact⟨⟨k+1,_,oA,by go_num,B6,K6⟩,by simp[intOf];omega⟩
    ·obtain rfl:k=p.ready.length:=oA;have ar:¬((p.ready.length:Int)<(p.ready.length:Int)):=oA;have BR:=hid (show cb wr wb tg V {p with lines:=lvs t p.lines,ready:=lvs t p.ready} by
      have s:=a.out;rw[show fx (en fun x=>x==(t:Int)) p.ready.length p.ready=lvs t p.ready from fY _ _] at s;exact s)
     have D:=q;go_wp2_with fail
     generalize wr=wR at*;generalize tg=B at*
     go_loopw [6] (fun i wr=>∃(k:Nat),k<=p.D6.length∧i=.int .i64 k∧Hid (cb wr wb B V {p with lines:=lvs t p.lines,ready:=lvs t p.ready,D6:=fx (noT t) k p.D6})∧Hid (Kt tag B W wr)) (fun i _=>p.D6.length - (intOf i).toNat)
     case atStart=>exact⟨0,oA,rfl,hid (by rw[fD];exact BR),D⟩
     case round=>
      obtain⟨k,hk,rfl,a,q⟩:=hrel;by_cases l:k<p.D6.length
      ·have ay:(k:Int)<(p.D6.length:Int):=oA;have aN:=HQ.out oA;subst aN;have w:k<(fx (noT t) k p.D6).length:=by rw[cS];exact l
       have N:V 6=.slice (some ⟨g6,0,none⟩) (fx (noT t) k p.D6).length cap6:=by rw[cS];exact E6
       have c6:=bg a E6;have h2:=a.o.D6;simp only at h2;rw[N] at h2;have xk:=h2.int w;have fk:=h2.frozen k;rw[eN _ _ _ l w] at xk;have H:=hid (eO (noT (t:Int)) k p.D6 l);have L:=hid (eN (noT (t:Int)) k p.D6 l w);obtain⟨y,hy⟩:∃y,p.D6[k]=y:=⟨_,rfl⟩
       rw[hy] at xk H L;by_cases E:y=(t:Int)
       ·obtain⟨hn,ax⟩:=a.En N k (-1);have G:=hid (show cb (wr.setCell ⟨g6,k,none⟩ (.int .i64 (-1))) wb B V {p with lines:=lvs t p.lines,ready:=lvs t p.ready,D6:=fx (noT t) (k+1) p.D6} by
         rw[H.out,show noT (t:Int) y= -1 from af E];exact hn)
        have al:=hid (q.trans ax);rw[E] at xk;go_wp2_with fail
        exact⟨⟨k+1,oA,by go_num,G,al⟩,by simp[intOf];omega⟩
       ·have G:=hid (show cb wr wb B V {p with lines:=lvs t p.lines,ready:=lvs t p.ready,D6:=fx (noT t) (k+1) p.D6} by
         rw[H.out,show noT (t:Int) y=y from ae E, <-L.out,cw];exact a)
        have aF:(y==(t:Int))=false:=by simpa using E
        go_wp2_with fail
        exact⟨⟨k+1,oA,by go_num,G,q⟩,by simp[intOf];omega⟩
      ·obtain rfl:k=p.D6.length:=oA;have ar:¬((p.D6.length:Int)<(p.D6.length:Int)):=oA;have c6:=bg a E6;have BC:=hid (show cb wr wb B V {p with lines:=lvs t p.lines,ready:=lvs t p.ready,D6:=p.D6.map (noT t)} by rw[<-fY];exact a);have KC:=q;go_wp2_with fail
       generalize wr=wC at*;have aE:=hid (show p.DY.length=p.DY.length from rfl)
       go_loopw [7] (fun i wr=>∃(k:Nat),k<=p.DY.length∧i=.int .i64 k∧Hid (cb wr wb B V {p with lines:=lvs t p.lines,ready:=lvs t p.ready,D6:=p.D6.map (noT t),DY:=fx (nOw t) k p.DY})∧Hid (Kt tag B W wr)) (fun i _=>p.DY.length - (intOf i).toNat)
       case atStart=>exact⟨0,oA,rfl,hid (by rw[fD];exact BC),KC⟩
       case round=>
        obtain⟨k,hk,rfl,a,q⟩:=hrel;have aB:=hid (show (fx (nOw t) k p.DY).length=p.DY.length from (cS _ _ _).trans aE);have c3:=bg a E3;have N:V 3=.slice (some ⟨U,0,none⟩) (fx (nOw t) k p.DY).length cap3:=by rw[aB.out];exact E3
        by_cases l:k<p.DY.length
        ·have ay:(k:Int)<(p.DY.length:Int):=oA;have av:k<p.DY.length:=by rw[aE.out];exact l
         have w:k<(fx (nOw t) k p.DY).length:=by rw[aB.out];exact l
         have ab:=a.Er N w (show 17<20 by omega);have aR:=a.Ef N (k*20+17);simp only[eN (nOw t) k p.DY av] at ab;have H:=hid (eO (nOw (t:Int)) k p.DY av);have L:=hid (eN (nOw (t:Int)) k p.DY av w);obtain⟨f,hf⟩:∃f,p.DY[k]=f:=⟨_,rfl⟩
         rw[hf] at H L ab;by_cases E:f 17=(t:Int)
         ·obtain⟨hn,ax⟩:=a.Ei N w (show 17<20 by omega) (-1);have G:=hid (show cb (wr.setCell ⟨U,k*20+17,none⟩ (.int .i64 (-1))) wb B V {p with lines:=lvs t p.lines,ready:=lvs t p.ready,D6:=p.D6.map (noT t),DY:=fx (nOw t) (k+1) p.DY} by
           rw[H.out,show nOw (t:Int) f=upd f 17 (-1) from af E, <-L.out];exact hn)
          have al:=hid (q.trans ax);rw[E] at ab;go_wp2_with fail
          exact⟨⟨k+1,oA,by go_num,G,al⟩,by simp[intOf];omega⟩
         ·have G:=hid (show cb wr wb B V {p with lines:=lvs t p.lines,ready:=lvs t p.ready,D6:=p.D6.map (noT t),DY:=fx (nOw t) (k+1) p.DY} by
           rw[H.out,show nOw (t:Int) f=f from ae E, <-L.out,cw];exact a)
          have aF:(f 17==(t:Int))=false:=by simpa using E
          generalize f 17=y at ab aF;go_wp2_with fail
          exact⟨⟨k+1,oA,by go_num,G,q⟩,by simp[intOf];omega⟩
        ·obtain rfl:k=p.DY.length:=oA;have ar:¬((p.DY.length:Int)<(p.DY.length:Int)):=oA;have BT:=hid (show cb wr wb B V {p with lines:=lvs t p.lines,ready:=lvs t p.ready,D6:=p.D6.map (noT t),DY:=p.DY.map (nOw t)} by
          have s:=a.out;simp only[fY] at s;exact s)
         have KT:=q;have L0:=hid (show (p.DY.map (nOw t)).length=p.DY.length by simp);have M:V 3=.slice (some ⟨U,0,none⟩) ({p with lines:=lvs t p.lines,ready:=lvs t p.ready,D6:=p.D6.map (noT t),DY:=p.DY.map (nOw t)}:PW).DY.length cap3:=E3.trans (cX (fun m=>Value.slice (some ⟨U,0,none⟩) m cap3) L0.symm);have aA:t<({p with lines:=lvs t p.lines,ready:=lvs t p.ready,D6:=p.D6.map (noT t),DY:=p.DY.map (nOw t)}:PW).DY.length:=by show t<(p.DY.map (nOw t)).length;rw[L0.out];exact aH
         have x9:=BT.Ec M aA (show 9<20 by omega);have f9:=BT.Ef M (t*20+9);obtain⟨b1,k1⟩:=BT.task M aA (show 9<20 by omega) 0;have e4:V 3=.slice (some ⟨U,0,none⟩) (({p with lines:=lvs t p.lines,ready:=lvs t p.ready,D6:=p.D6.map (noT t),DY:=p.DY.map (nOw t)}:PW).task t 9 0).DY.length cap3:=by rw[am];exact M
         have aO:t<(({p with lines:=lvs t p.lines,ready:=lvs t p.ready,D6:=p.D6.map (noT t),DY:=p.DY.map (nOw t)}:PW).task t 9 0).DY.length:=by rw[am];exact aA
         have B1:=hid b1;have K1:=hid (KT.trans k1);have E4:=hid e4;have aD:=hid aO;go_upto_region 19 with fail
         generalize World.setCell _ _ _=W1 at*;have c3:=bg B1 E3;have aZ:=B1.Ec E4 aD (show 14<20 by omega);have aQ:=B1.Ef E4 (t*20+14);obtain⟨b2,k2⟩:=B1.task E4 aD (show 14<20 by omega) (-1);have B2:=hid b2;have K2:=hid (K1.trans k2);go_wp2_with fail
         exact aX (aK rfl _ _ _) rfl ⟨rfl,B,B2.out,K2.out⟩
theorem qZ (p:PW) (t:Nat) (h:(Nat->Int)->(Nat->Int)) (a:t<p.DY.length):(p.DY.map h).getD t bl=h (p.DY.getD t bl):=by
 rw[aa,cM,ac a,aa,ac a];rfl
