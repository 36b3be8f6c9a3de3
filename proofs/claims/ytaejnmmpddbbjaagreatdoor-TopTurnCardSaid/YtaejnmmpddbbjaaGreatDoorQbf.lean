/- Qbf -/
import Derived.BigGuard
import Derived.Test.YtaejnmmpddbbjaaGreatDoorQbe
import Derived.Test.YtaejnmmpddbbjaaGreatDoorQav
set_option maxRecDepth 100000
set_option maxHeartbeats 16000000
namespace Go.Proofs.YtaejnmmpddbbjaaGreatDoor
namespace Wd
open Go.RowKit Mem Bw Nums Mmu Hex
theorem uH (wb:Nat) (tag:Nat->Nat) (V:Nat->Value) (p:PW) (i j r g:Nat) (s:Nat->Int) (w:World) (bt:di w wb tag V p) (B:p.Fits) (hl:∀l∈p.ID,l.length<=100) (O:p.IB.length=p.kinds.length*16)
  (K:boE p i j=0) (hi:i<p.IB.length) (N:p.IB[i]=s) (J:0<=s 5) (M:¬(s 0≠1∧r<=7∧g<=65535∧(g=0∨(s 0=7∨s 0=8)∧s 5=0))):
  Calls Tryz.prog 13 #[.pointer (some ⟨wb,0,none⟩),.int .i64 i,.int .i64 j,.int .i64 r,.int .i64 g] w fun x w'=>∃e:Int,(1<=e∧e<=13)∧x=.returned (.int .i64 e)∧Below w.heap.size w w':=by
 have F:=hid bt;have y:=hid (lZ wb V p i j w (bt.view B hl) O);rw[K] at y;obtain⟨A,R,e2⟩:=bt.o.IB.form (by show 0<p.IB.length;omega);have c2:=r11 2 bt.r;rw[e2] at c2;have I:=hid (show w.rangeAt A (i*7) (cf 6 s) from uc (fun k v C=>by
  have hk:k<7:=by have:=(List.getElem?_eq_some_iff.1 C).1;rw[az] at this;exact this
  have:=F.IU e2 hi hk;rw[N] at this;rw[this, <-C,dm 7 _ k hk]))
 have Y:(p.IB.length:Int)<=1000:=by have:=B.IB;omega
 have X:(i:Int)<(p.IB.length:Int):=oA;have b:=hid (fun W:World=>Isa.fF r 7 W);have c:=hid (fun W:World=>Isa.fF g 65535 W);have u:=hid (bal (ag w.heap.size w) (.cells zK 78));have z:=hid (aR w zK 78 w.heap.size 6 rfl oD);have H:=hid (show Kp (fun k=>k=w.heap.size) (w.alloc (.cells zK 78)) ((w.alloc (.cells zK 78)).setCells w.heap.size 0 (cf 6 s)) from aK (T:=fun k=>k=w.heap.size) (.inl rfl) _ _ _ (aV _ _));have a:=hid (H.below u u.size (fun k hk e=>oA));have f:=hid (World.rangeAt_setCells_same _ w.heap.size 0 (cf 6 s) (by rw[az];exact z));have h:=hid M;have G:=hid J;go_enter Tryz.func13,Tryz.ntmps13
 go_wp2_with fail
 refine y.mono ?_;rintro q w1 ⟨rfl,rfl⟩;go_upto_region 5 with (first|((with_reducible refine gld 78 ?_);refine uA rfl _ rfl A (i*7) rfl (cf 6 s) (az _ _) I ?_)|((with_reducible refine gst 78 ?_);refine hJ rfl _ _ rfl w.heap.size 0 rfl (cf 6 s) rfl (az _ _) (cC _ _) z ?_))
 generalize World.setCells _ _ _ _=Q at a f ⊢;generalize w.heap.size=Z at f ⊢;have P:=cS f (dm 6 _ 0 oA);have E:=cS f (dm 6 _ 5 oA);rw[aC] at P E;by_cases d:s 0=1
 ·have n0:(s 0==1)=true:=by simpa using d
  go_wp2_with fail
  go_ret
  exact⟨3,oD,rfl,a.out⟩
 have n0:(s 0==1)=false:=by simpa using d
 by_cases t:r<=7
 rotate_left
 ·rw[show decide ((r:Int)<0∨7<(r:Int))=true from aA oA] at b;go_wp2_with fail
  refine (b.out _).mono ?_;rintro q w2 ⟨rfl,rfl⟩;go_wp2_with fail
  go_ret
  exact⟨2,oD,rfl,a.out⟩
 rw[show decide ((r:Int)<0∨7<(r:Int))=false from aw oA] at b;by_cases n:g<=65535
 rotate_left
 ·rw[show decide ((g:Int)<0∨65535<(g:Int))=true from aA oA] at c;go_wp2_with fail
  refine (b.out _).mono ?_;rintro q w2 ⟨rfl,rfl⟩;go_wp2_with fail
  refine (c.out _).mono ?_;rintro q w2 ⟨rfl,rfl⟩;go_wp2_with fail
  go_ret
  exact⟨2,oD,rfl,a.out⟩
 rw[show decide ((g:Int)<0∨65535<(g:Int))=false from aw oA] at c;have L:=Nat.pos_of_ne_zero fun e=>h.out ⟨d,t,n,.inl e⟩;have S:=aA oA;have U:=aA L;by_cases m:s 5=0
 ·have D:s 0≠7∧s 0≠8:=⟨fun e=>h.out ⟨d,t,n,.inr ⟨.inl e,m⟩⟩,fun e=>h.out ⟨d,t,n,.inr ⟨.inr e,m⟩⟩⟩;have m7:(s 0 !=7)=true:=by simpa using D.1
  have m8:(s 0 !=8)=true:=by simpa using D.2
  rw[m] at E;go_wp2_with fail
  refine (b.out _).mono ?_;rintro q w2 ⟨rfl,rfl⟩;go_wp2_with fail
  refine (c.out _).mono ?_;rintro q w2 ⟨rfl,rfl⟩;go_wp2_with fail
  go_ret
  exact⟨4,oD,rfl,a.out⟩
 ·have m5:=aA (by have:=G.out;omega);go_wp2_with fail
  refine (b.out _).mono ?_;rintro q w2 ⟨rfl,rfl⟩;go_wp2_with fail
  refine (c.out _).mono ?_;rintro q w2 ⟨rfl,rfl⟩;go_wp2_with fail
  go_ret
  exact⟨4,oD,rfl,a.out⟩
theorem uG (a b r g:Int) (p:PW) (h:p.Fits) (hl:∀l∈p.ID,l.length<=100) (i:p.IB.length=p.kinds.length*16) (e:boE p a b≠0) (W:World) (wb:Nat) (tag:Nat->Nat) (V:Nat->Value) (bt:di W wb tag V p):
  Calls Tryz.prog 13 #[.pointer (some ⟨wb,0,none⟩),.int .i64 a,.int .i64 b,.int .i64 r,.int .i64 g] W fun x d=>x=.returned (.int .i64 (boE p a b))∧d=W:=by
 have c:=hid (lZ wb V p a b W (bt.view h hl) i);have f:(boE p a b !=0)=true:=by simpa using e
 generalize boE p a b=x at c f ⊢;go_enter Tryz.func13,Tryz.ntmps13
 go_wp2_with fail
 refine c.mono ?_;rintro q w1 ⟨rfl,rfl⟩;go_wp2_with fail
 go_ret
 exact⟨rfl,rfl⟩
end Wd
namespace Wd
open Go.RowKit Mem Bw Nums Mmu
theorem nf (a:Int) (p:PW) (i:p.Fits) (hl:∀l∈p.ID,l.length<=100) (m:Snd p) (W:World) (wb:Nat) (tag:Nat->Nat) (V:Nat->Value) (bt:di W wb tag V p):
  Calls Tryz.prog 18 #[.pointer (some ⟨wb,0,none⟩),.int .i64 a] W fun x g=>x=.returned (.int .i64 (srE p a))∧∃tag',Kt tag tag' W g∧(srE p a=0->∃z,di g wb tag' z (srP p a))∧(srE p a≠0->g=W):=by
 have d:=hid (kg wb V p a W (bt.view i hl));by_cases c:thE p a 6=0
 rotate_left
 ·have b:=hid (show srE p a=thE p a 6 from ae c);have A:(thE p a 6 !=0)=true:=by simpa using c
  rw[b.out];have j:=hid c;generalize thE p a 6=x at d A j ⊢;go_enter Tryz.func18,Tryz.ntmps18
  go_wp2_with fail
  refine d.mono ?_;rintro q w1 ⟨rfl,rfl⟩;go_wp2_with fail
  go_ret
  exact⟨rfl,tag,eO _ _,fun h=>(absurd h j),fun _=>rfl⟩
 obtain⟨t,n,rfl,hk⟩:=uq c;rw[c] at d;have r:t<p.IA.length:=by rw[m.lf.IA];exact n
 obtain⟨J,I,k⟩:=bt.o.IA.form oA;have H:=bh bt k;have G:=bt.IH k r (show 9<20 by omega);have M:(t:Int)<(p.IA.length:Int):=oA;have L:(p.IA.length:Int)<=1000:=by have:=i.IA;omega
 obtain⟨D,E,F,r4⟩:=lN m n hk;have w:=hid (gZ wb tag V p t (rdN p t) W bt i r D F r4 E);have f:=hid (show srE p t=if p.IA.getD t bl 9=0 then 0 else 7 by unfold srE;rw[ah c,af]);have v:=hid (show srP p t=wnP p t (rdN p t) by unfold srP;rw[af]);generalize p.IA.getD t bl 9=y at G f;by_cases e:y=0
 ·have b:=hid (f.trans (ah e));subst e;rw[b.out];go_enter Tryz.func18,Tryz.ntmps18
  go_wp2_with fail
  refine d.mono ?_;rintro q w1 ⟨rfl,rfl⟩;go_wp2_with fail
  refine w.mono ?_;rintro q w2 ⟨rfl,tag',B,C⟩;have s:=hid B;have u:=hid C;go_wp2_with fail
  go_ret
  exact⟨rfl,tag',u.out,fun _=>⟨V,by rw[v.out];exact s⟩,fun h=>absurd (by first|rfl|assumption|exact b) h⟩
 ·have b:=hid (f.trans (ae e));have K:(y !=0)=true:=by simpa using e
  rw[b.out];go_enter Tryz.func18,Tryz.ntmps18
  go_wp2_with fail
  refine d.mono ?_;rintro q w1 ⟨rfl,rfl⟩;go_wp2_with fail
  go_ret
  exact⟨rfl,tag,eO _ _,fun h=>(by cases h),fun _=>rfl⟩
theorem pO (a:Int) (p:PW) (g:p.Fits) (hl:∀l∈p.ID,l.length<=100) (s:Snd p) (W:World) (wb:Nat) (tag:Nat->Nat) (V:Nat->Value) (bt:di W wb tag V p):
  Calls Tryz.prog 144 #[.pointer (some ⟨wb,0,none⟩),.int .i64 a] W fun x d=>x=.returned (.int .i64 (thE p a 6))∧∃tag',Kt tag tag' W d∧(thE p a 6=0->∃m,di d wb tag' m (stP p a.toNat))∧(thE p a 6≠0->d=W):=by
 have c:=hid (kg wb V p a W (bt.view g hl));by_cases b:thE p a 6=0
 rotate_left
 ·have n:(thE p a 6==0)=false:=by simpa using b
  have f:=hid b;generalize thE p a 6=x at c n f ⊢;go_enter Tryz.func144,Tryz.ntmps144
  go_wp2_with fail
  refine c.mono ?_;rintro q w1 ⟨rfl,rfl⟩;go_wp2_with fail
  go_ret
  exact⟨rfl,tag,eO _ _,fun h=>(absurd h f),fun _=>rfl⟩
 obtain⟨t,u,rfl,hk⟩:=uq b;rw[b] at c;have k:=hid (ka wb tag V p t W bt g (by rw[s.lf.IA];exact u));have e:=hid b;rw[af];go_enter Tryz.func144,Tryz.ntmps144
 go_wp2_with fail
 refine c.mono ?_;rintro q w1 ⟨rfl,rfl⟩;go_wp2_with fail
 refine k.mono ?_;rintro q w2 ⟨rfl,tag',o,r⟩;have i:=hid o;have j:=hid r;go_wp2_with fail
 go_ret
 exact⟨by rw[e.out];rfl,tag',j.out,fun _=>⟨V,i.out⟩,fun h=>absurd (by first|rfl|assumption|exact e) h⟩
theorem nJ (a b:Int) (p:PW) (f:p.Fits) (hl:∀l∈p.ID,l.length<=100) (J:Snd p) (W:World) (wb:Nat) (tag:Nat->Nat) (V:Nat->Value) (bt:di W wb tag V p):
  Calls Tryz.prog 19 #[.pointer (some ⟨wb,0,none⟩),.int .i64 a,.int .i64 b] W fun x W'=>x=.returned (.int .i64 (rkE p a b))∧∃tag',Kt tag tag' W W'∧(rkE p a b=0->∃V',di W' wb tag' V' (rkP p a b))∧(rkE p a b≠0->W'=W):=by
 have E:=hid (kg wb V p a W (bt.view f hl));by_cases B:thE p a 6=0
 rotate_left
 ·have HE:=hid (show rkE p a b=thE p a 6 from ae B);have aE:(thE p a 6 !=0)=true:=by simpa using B
  rw[HE.out];have HN:=hid B;generalize thE p a 6=x at E aE HN ⊢;go_enter Tryz.func19,Tryz.ntmps19
  go_wp2_with fail
  refine E.mono ?_;rintro q w1 ⟨rfl,rfl⟩;go_wp2_with fail
  go_ret
  exact⟨rfl,tag,eO _ _,fun h=>(absurd h HN),fun _=>rfl⟩
 obtain⟨t,ht,rfl,hk⟩:=uq B;rw[B] at E;have P:=hid (show rkE p t b=if dH 0 3 b then 0 else 2 by unfold rkE;rw[ah B]);have Q:=hid (fF b 3 W)
 cases C:dH 0 3 b with
 |false=>
  rw[C,ae oD] at P;have af:decide (b<0∨3<b)=true:=aA (by have:=dp C;omega);rw[af] at Q;rw[P.out];go_enter Tryz.func19,Tryz.ntmps19
  go_wp2_with fail
  refine E.mono ?_;rintro q w1 ⟨rfl,rfl⟩;go_wp2_with fail
  refine Q.mono ?_;rintro q w1 ⟨rfl,rfl⟩;go_wp2_with fail
  go_ret
  exact⟨rfl,tag,eO _ _,fun h=>(by cases h),fun _=>rfl⟩
 |true=>
 rw[C,ah rfl] at P;have aR:=ay C;have af:decide (b<0∨3<b)=false:=aw oA;rw[af] at Q;rw[P.out];have ab:t<p.IA.length:=by rw[J.lf.IA];exact ht
 obtain⟨g3,cap3,G⟩:=bt.o.IA.form oA;have E3:=hid G;have an:=hid ab;have aZ:(t:Int)<(p.IA.length:Int):=oA;have aW:(p.IA.length:Int)<=1000:=by have:=f.IA;omega
 have aX:(p.ready.length:Int)<=1000:=by have:=f.ready;omega
 have am:=hid f.next;have B0:=hid bt;have ag:=hid (C5 J ht hk b);have LT:=ap p t 10 b;have O:=gQ p t 10 18 b ab oD;have N:(p.task t 10 b).IA.getD t bl 10=b:=by rw[fR p t 10 10 b ab,ah rfl]
 obtain⟨_,_,aQ,_⟩:=qL (gW J ht hk).1;have aS:=J.lf.c2;have r1:rdN (p.task t 10 b) t<p.ready.length:=by
  unfold rdN;rw[O,N,J.lf.ready];omega
 have r2:(p.task t 10 b).IA.getD t bl 18*4+(p.task t 10 b).IA.getD t bl 10=(rdN (p.task t 10 b) t:Int):=by
  unfold rdN;rw[O,N];omega
 have Z:(({p with ready:=lvs t p.ready}:PW).task t 10 b).Fits:=⟨f.IE,f.kinds,f.IB,by rw[ap];exact f.IA,f.lines,f.line,f.bits,f.IC,by show (lvs t p.ready).length<=1000;rw[iY];exact f.ready,fun l hm=>by
  have d:=hm;unfold lvs at d;obtain⟨l0,h2,rfl⟩:=List.mem_map.1 d;exact aB (dG _ _) (f.next l0 h2),f.ID,f.IF⟩
 have HW:=hid (fun X tg (h:di X wb tg V (({p with ready:=lvs t p.ready}:PW).task t 10 b))=>gZ wb tg V (({p with ready:=lvs t p.ready}:PW).task t 10 b) t (rdN (p.task t 10 b) t) X h Z (by rw[ap];exact ab) (by show rdN (p.task t 10 b) t<(lvs t p.ready).length;rw[iY];exact r1) ⟨by show 0<=(p.task t 10 b).IA.getD t bl 18;rw[O];omega,by show (p.task t 10 b).IA.getD t bl 18<=1000;rw[O];omega⟩ ⟨by show 0<=(p.task t 10 b).IA.getD t bl 10;rw[N];omega,by show (p.task t 10 b).IA.getD t bl 10<=1000;rw[N];omega⟩ r2);go_enter Tryz.func19,Tryz.ntmps19
 go_wp2_with fail
 refine E.mono ?_;rintro q w1 ⟨rfl,rfl⟩;go_wp2_with fail
 refine Q.mono ?_;rintro q w1 ⟨rfl,rfl⟩;go_wp2_with fail
 go_loopw [8,9] (fun s i wr=>∃(k:Nat) (tg:Nat->Nat),k<=p.ready.length∧s=.bool (decide (0<cna t (p.ready.take k)))∧i=.int .i64 k∧Hid (di wr wb tg V {p with ready:=fM (dM fun x=>x==(t:Int)) k p.ready})∧Hid (Kt tag tg W wr)) (fun _ i _=>p.ready.length - (intOf i).toNat)
 case atStart=>exact⟨0,tag,oA,rfl,rfl,hid (by rw[fN];exact B0),hid (eO _ _)⟩
 case round=>
  obtain⟨k,tg,aV,rfl,rfl,A,HK⟩:=hrel;obtain⟨g,eL⟩:=A.o.ready.form;have D:=hid (eL.trans (dJ (fun m=>Value.slice (some ⟨g,0,none⟩) m m) (dB _ _ _)));have U:=hid (show fE wr tg 9 13 22 3 1 p.ready.length (.slice (some ⟨g,0,none⟩) p.ready.length p.ready.length) (ci (fM (dM fun x=>x==(t:Int)) k p.ready)) by
   have d:=A.o.ready;simp only at d;rw[dB,D.out] at d;exact d)
  have cl:=bh A D;by_cases y:k<p.ready.length
  ·have aY:(k:Int)<(p.ready.length:Int):=oA;have F:=hid (show decide (0<cna t (p.ready.take (k+1)))=(decide (0<cna t (p.ready.take k))||inB t p.ready[k]) by
    have d:cna t (p.ready.take (k+1))=cna t (p.ready.take k)+cn t p.ready[k]:=jO (cn t) y;unfold inB;rw[d,db];simp only[bp,cJ];omega)
   obtain⟨ux,aM,aK⟩:=U.at (j:=k) y;have ax:=hid (show ed wr ux p.ready[k] by
    have H:k<(fM (dM fun x=>x==(t:Int)) k p.ready).length:=by rw[dB];exact y
    have d:=aK.1;unfold ci at d;rw[aa,ac H,aG,ff _ _ _ y H] at d;exact dS d)
   have al:=hid (EW ux p.ready[k] t wr ax (am.out _ (av y)));generalize decide (0<cna t (p.ready.take k))=sb at F ⊢;generalize aU:inB t p.ready[k]=ic at F al
   cases sb
   case' true=>
    rw[Bool.true_or] at F;go_wp2_with fail
   case' false=>
    rw[Bool.false_or] at F;go_wp2_with fail
    refine al.mono ?_;rintro r0 w0 ⟨rfl,rfl⟩;go_wp2_with fail
   all_goals
    obtain⟨u,cu,hu⟩:=U.at (j:=k) y;have au:=hid (show ci (fM (dM fun x=>x==(t:Int)) k p.ready) k=(p.ready[k].length,d6 p.ready[k]) by
     have H:k<(fM (dM fun x=>x==(t:Int)) k p.ready).length:=by rw[dB];exact y
     unfold ci;rw[aa,ac H,aG,ff _ _ _ y H])
    rw[au.out] at hu;have HU:=hid (dS hu.1);have aC:=hid (am.out _ (av y));have ar:=hid (fun X (h:Below wr.heap.size wr X)=>(U.kp (T:=fun _=>False) (.IG h) (fun _ _=>rfl) (fun _ _ e=>e)).fr k);have KS:=hid (fun X (h:Below wr.heap.size wr X)=>show X.cell? ⟨wb,7,none⟩=some (.slice (some ⟨g,0,none⟩) p.ready.length p.ready.length) by rw[ai (A.below h).r (k:=7) rfl,D.out]);have KR:=hid (fun X (h:Below wr.heap.size wr X)=>(h.cell (aj _ _ cu)).trans cu);have L:=hid (aD wr 1);have aq:=hid (fun X v (h:Below wr.heap.size wr X) (I:X.ownsRow wr.heap.size 3 1 v ((dM fun x=>x==(t:Int)) p.ready[k]).length (d6 ((dM fun x=>x==(t:Int)) p.ready[k])))=>show di (X.setCell ⟨g,k,none⟩ v) wb (fX tg wr.heap.size (13+3*k)) V {p with ready:=fM (dM fun x=>x==(t:Int)) (k+1) p.ready}∧Kt tag (fX tg wr.heap.size (13+3*k)) W (X.setCell ⟨g,k,none⟩ v) from by
     obtain⟨aJ,Z⟩:=U.put (tag':=fX tg wr.heap.size (13+3*k)) (w1:=X) (u:=v) (c:=(((dM fun x=>x==(t:Int)) p.ready[k]).length,d6 ((dM fun x=>x==(t:Int)) p.ready[k]))) (j:=k) y (fun j=>oA) (.IG h) (fun k hk=>dw hk) ⟨I.mono (bN _),fun j e=>by
      unfold fX;rw[ae (by have:=(I.lt j e).1;omega)]⟩
     refine⟨A.ready Z (fun k hk=>dw hk) ?_,HK.trans (Kt.of (tag':=fX tg wr.heap.size (13+3*k)) Z (fun k e=>by rcases e with e|⟨j,e⟩<;>omega) (fun k hk=>dw hk))⟩;rw[dB,D.out,fu _ _ _ y,jo _ _ (by rw[dB];exact y)];exact aJ)
    refine dZ (S:=fun X=>X.cell? ⟨wb,7,none⟩=some (.slice (some ⟨g,0,none⟩) p.ready.length p.ready.length)) (R:=fun X=>X.cell? ⟨g,k,none⟩=some u) [15] oK (KS.out _ L) (KR.out _ L) (fun aH aF=>?_);have w:=hid aH;have n:=hid aF;refine tF 0 (.pointer (some ⟨wb,0,none⟩)) rfl w (fun _=>n.out) ?_;simp only[jj];refine tF 1 (.pointer (some ⟨wb,0,none⟩)) rfl w (fun _=>n.out) ?_;simp only[jj];refine tF 2 (.pointer (some ⟨wb,7,none⟩)) rfl w (fun _=>n.out) ?_;simp only[jj];refine tG 3 (.slice (some ⟨g,0,none⟩) p.ready.length p.ready.length) rfl w (fun _=>n.out) ?_;simp only[jj];refine tF 4 (.int .i64 k) rfl w (fun _=>n.out) ?_;simp only[jj];refine tF 5 (.pointer (some ⟨wb,0,none⟩)) rfl w (fun _=>n.out) ?_;simp only[jj];refine tF 6 (.pointer (some ⟨wb,0,none⟩)) rfl w (fun _=>n.out) ?_;simp only[jj];refine tF 7 (.pointer (some ⟨wb,7,none⟩)) rfl w (fun _=>n.out) ?_;simp only[jj];refine tG 8 (.slice (some ⟨g,0,none⟩) p.ready.length p.ready.length) rfl w (fun _=>n.out) ?_;simp only[jj];refine tF 9 (.int .i64 k) rfl w (fun _=>n.out) ?_;simp only[jj];refine tF 10 (.pointer (some ⟨g,k,none⟩)) rfl w (fun _=>n.out) ?_;simp only[jj];refine ek (i:=11) (v:=u) rfl oK oK oK oK oK oK (fun _ _ _ h=>h) (Or.inl ⟨oR,fun W h=>by have h3:=h.2;clear h;go_simp⟩) w (fun _=>n.out) ?_;simp only[jj];refine tF 12 (.int .i64 t) rfl w (fun _=>n.out) ?_;simp only[jj];refine Wd.r1 13 rfl (fun K hK=>?_);go_simp
    refine (ki u p.ready[k] t _ (HU.below L) aC).mono ?_;rintro r w1 ⟨v,rfl,I,C⟩;obtain⟨qv,cv,rfl⟩:=eN I;have z:=hid (btr L C);have HO:=hid I;go_wp2_with fail
    refine hK _ _ (KS.out _ z) (fun _=>KR.out _ z) (fun _ _=>?_)
    try simp only[Act.put,jD,jE,jF]
    have S1:=hid (KS.out _ z);have R1:=hid (KR.out _ z);refine tF 14 (.pointer (some ⟨g,k,none⟩)) rfl S1 (fun _=>R1.out) ?_;simp only[jj];have aN:=S1.out;have aL:=R1.out;have aP:=ar.out _ z;obtain⟨ao,aI⟩:=aq.out w1 _ z HO;have B6:=hid ao;have K6:=hid aI;have S6:=hid (show (w1.setCell ⟨g,k,none⟩ (.slice qv ((dM fun x=>x==(t:Int)) p.ready[k]).length cv)).cell? ⟨wb,7,none⟩=some (.slice (some ⟨g,0,none⟩) p.ready.length p.ready.length) by rw[ai ao.r (k:=7) rfl,D.out]);refine Wd.r1 15 rfl (fun K hK=>?_);go_simp
    refine hK _ _ S6 (eK oK) (fun _ _=>?_)
    try simp only[Act.put]
    refine dL oK ?_ _;generalize World.setCell _ _ _=W6 at*;go_wp2_with fail
    exact⟨⟨k+1,_,oA,by rw[F.out],by go_num,B6,K6⟩,by simp[intOf];omega⟩
  ·obtain rfl:k=p.ready.length:=oA;have aT:¬((p.ready.length:Int)<(p.ready.length:Int)):=oA;have M:=hid (show di wr wb tg V {p with ready:=lvs t p.ready} by
    have d:=A.out;rw[show fM (dM fun x=>x==(t:Int)) p.ready.length p.ready=lvs t p.ready from gn _ _] at d;exact d)
   rw[cT];have G:V 3=.slice (some ⟨g3,0,none⟩) ({p with ready:=lvs t p.ready}:PW).IA.length cap3:=E3.out;have c3:=bh M E3;have a0:=M.IH G an (show 10<20 by omega);have aO:=M.II G (t*20+10);obtain⟨b1,k1⟩:=M.task G an (show 10<20 by omega) b;have B1:=hid b1;have K1:=hid (HK.trans k1);by_cases Y:0<cna t p.ready
   ·have ad:=hid (show rkP p t b=wnP (({p with ready:=lvs t p.ready}:PW).task t 10 b) t (rdN (p.task t 10 b) t) by rw[<-ag.out];exact ah Y);rw[aA Y];go_upto_region 13 with fail
    generalize World.setCell _ _ _=W1 at*;have az:=hid (HW.out W1 tg B1);go_wp2_with fail
    refine az.mono ?_;rintro q w2 ⟨rfl,tag',d,h2⟩;have H1:=hid d;have H2:=hid h2;go_wp2_with fail
    go_ret
    exact⟨rfl,tag',K1.trans H2,fun _=>⟨V,by rw[ad.out];exact H1⟩,fun h=>absurd (by first|rfl|assumption|exact HE) h⟩
   ·have ad:=hid (show rkP p t b=({p with ready:=lvs t p.ready}:PW).task t 10 b by rw[<-ag.out];exact ae Y);rw[aw Y];go_upto_region 13 with fail
    generalize World.setCell _ _ _=W1 at*;go_wp2_with fail
    go_ret
    exact⟨rfl,tg,K1.out,⟨V,by rw[ad.out];exact B1⟩⟩
theorem AR {S:List (Nat->Int)} {i:Nat} (hi:i<S.length):fro S i=S[i] 6:=by
 unfold fro;rw[ah oA,af,aa,ac hi];rfl
theorem Dv {r:Nat->Nat} {S:List (Nat->Int)} (h:Up r S) {i:Nat} (hi:i<S.length):S[i] 6= -1∨∃u:Nat,S[i] 6=u∧u<S.length∧r u<r i:=by
 have e:S.getD i eS=S[i]:=by rw[aa,ac hi];rfl
 rw[<-e];exact h.fr i
theorem qG {r:Nat->Nat} (vb:Nat) (V:Nat->Value) (p:PW) (i t:Nat) (w:World) (s:ei w vb V p) (o:Up r p.IB) (hi:i<p.IB.length):
  Calls Tryz.prog 79 #[.pointer (some ⟨vb,0,none⟩),.int .i64 i,.int .i64 t] w fun x w'=>x=.returned (.bool (unB p.IB t i))∧w=w':=by
 have c2:=r11 2 s.r;obtain⟨q,b,off,cap,e2,E,A⟩:=s.v.IB;have F:=E oA;subst F;have I:(i:Int)<(p.IB.length:Int):=oA;have c6:=cS (A i hi) (dm 7 _ 6 oA);have n:=hid (show (UnS p.IB t (fro p.IB i)↔UnS p.IB t (p.IB[i] 6))∧(p.IB[i] 6= -1∨∃j:Nat,p.IB[i] 6=j∧j<p.IB.length) by
  refine⟨by rw[AR hi],?_⟩;rcases Dv o hi with h|⟨u,h,f, -⟩
  ·exact .inl h
  ·exact .inr ⟨u,h,f⟩)
 generalize p.IB[i] 6=H at c6 n;have C:=hid A;have d:=hid o;go_enter Tryz.func79,Tryz.ntmps79
 go_wp2_with fail
 go_loopw [1] (fun v wr=>∃y:Int,v=.int .i64 y∧Hid ((UnS p.IB t (fro p.IB i)↔UnS p.IB t y)∧(y= -1∨∃j:Nat,y=j∧j<p.IB.length))∧Hid (w=wr)) (fun v _=>if intOf v<0 then 0 else r (intOf v).toNat+1)
 case atStart=>exact⟨H,rfl,n,hid rfl⟩
 case round=>
  obtain⟨y,rfl,c,B⟩:=hrel;obtain rfl:=B.out;rcases c.2 with m|⟨j,m,g⟩
  ·subst m;have D:¬((0:Int)<= -1):=oA;have a:=hid (show unB p.IB t i=false by
    cases e:unB p.IB t i with
    |false=>rfl
    |true=>exact absurd (c.1.1 ((pP d t i).1 e)) Bo)
   go_wp2_with fail
   go_ret
   exact⟨by rw[a.out];rfl,rfl⟩
  ·subst m;have D:(0:Int)<=(j:Int):=oA;by_cases l:(j:Int)=t
   ·have G:=bH.2 l;have a:=hid ((pP d t i).2 (c.1.2 (by rw[l];exact Ay)));go_wp2_with fail
    go_ret
    exact⟨by rw[a.out];rfl,rfl⟩
   ·have G:=beq_eq_false_iff_ne.2 l;have J:(j:Int)<(p.IB.length:Int):=oA;have c7:=cS (C.out j g) (dm 7 _ 6 oA);have a:=hid (show ((UnS p.IB t (fro p.IB i)↔UnS p.IB t (p.IB[j] 6))∧(p.IB[j] 6= -1∨∃k:Nat,p.IB[j] 6=k∧k<p.IB.length))∧(if p.IB[j] 6<0 then 0 else r (p.IB[j] 6).toNat+1)<r j+1 by
     refine⟨⟨c.1.trans (by rw[Az l,AR g]),?_⟩,?_⟩
     ·rcases Dv d g with h|⟨u,h,f, -⟩
      ·exact .inl h
      ·exact .inr ⟨u,h,f⟩
     ·rcases Dv d g with h|⟨u,h, -,f⟩
      ·rw[h,ah oD];omega
      ·rw[h,ae oA,af];omega)
    generalize p.IB[j] 6=z at c7 a;go_wp2_with fail
    refine⟨⟨z,rfl,hid a.1,hid oS⟩,?_⟩;show (if z<0 then 0 else r z.toNat+1)<(if (j:Int)<0 then 0 else r (j:Int).toNat+1)
    rw[ae (show ¬(j:Int)<0 by omega),af];exact a.2
theorem A0 (S:List (Nat->Int)) (t n:Nat):(mdL S t n).length<=n:=by
 unfold mdL;rw[bJ];exact aB (dG _ _) (by rw[List.length_range];exact aq _)
theorem DT {w wr:World} {zs:List Int} {y:Int} {h:Option Addr} {cu:Nat} (hB:Below w.heap.size w wr) (hl:zs.length<=1000) (f:wr.ownsRow w.heap.size 3 1 (.slice h zs.length cu) zs.length (d6 zs)):
  ∃q c w',(Builtin.append_ #[22,22] 22 #[.slice h zs.length cu,.slice (some ⟨wr.heap.size,0,none⟩) 1 1]).run Tryz.prog (wr.alloc (.cells #[.int .i64 y] 3))=.ok (.slice q (zs.length+1) c) w'∧w'.ownsRow w.heap.size 3 1 (.slice q (zs.length+1) c) (zs++[y]).length (d6 (zs++[y]))∧Below w.heap.size w w':=by
 have b:=bal (ag wr.heap.size wr) (.cells #[.int .i64 y] 3);have g:=aB hB.size b.size;obtain⟨i,hi,p,n,o⟩:=fj j0;obtain⟨r,w',m,d,l,_⟩:=run_append_own (P:=Tryz.prog) (wr.alloc (.cells #[.int .i64 y] 3)) w.heap.size 22 22 3 i (.int .i64 0) 1 8 Tryz.underlying22 hi p n o rfl oD _ _ _ (fO f b) ⟨wr.heap.size,0,none⟩ 1 1 [.int .i64 y] rfl (fun j v a=>by
  match j,a with
  |0,a=>cases a;exact bM wr #[.int .i64 y] 3 0
  |j+1,a=>simp at a) (DN y) (by unfold maxLen;omega) oA g
 obtain⟨q,c,rfl⟩:=eN d;have e:d6 zs++[Value.int .i64 y]=d6 (zs++[y]):=by unfold d6;simp
 exact⟨q,c,w',m,by rw[<-e,ax];exact d,(btr hB b).grown l g (fun k hk=>(f.lt k hk).1)⟩
theorem tH {r:Nat->Nat} (vb:Nat) (V:Nat->Value) (p:PW) (t:Nat) (w:World) (o:ei w vb V p) (O:Up r p.IB):
  Calls Tryz.prog 39 #[.pointer (some ⟨vb,0,none⟩),.int .i64 t] w fun x w'=>∃v,x=.returned v∧ed w' v (mdL p.IB t p.IB.length)∧Below w.heap.size w w':=by
 have hl:(p.IB.length:Int)<=1000:=by have:=o.f.IB;omega
 have H:=hid o;have l:=hid O;obtain⟨q,b,off,cap,e2,L, -⟩:=o.v.IB;have Q:=hid L;go_enter Tryz.func39,Tryz.ntmps39
 go_wp2_with fail
 go_loopw [5,6] (fun u i wr=>∃(k:Nat) (c:Option Addr) (cu:Nat),k<=p.IB.length∧i=.int .i64 k∧u=.slice c (mdL p.IB t k).length cu∧Hid (wr.ownsRow w.heap.size 3 1 (.slice c (mdL p.IB t k).length cu) (mdL p.IB t k).length (d6 (mdL p.IB t k)))∧Hid (Below w.heap.size w wr)) (fun _ i _=>p.IB.length - (intOf i).toNat)
 case atStart=>exact⟨0,none,0,oA,rfl,rfl,hid (cO _ _ _ _),hid (ag _ _)⟩
 case round=>
  obtain⟨k,c,cu,hk,rfl,rfl,g,d⟩:=hrel;have h:=hid (H.below d);have c2:=r11 2 h.r;by_cases n:k<p.IB.length
  ·have W:(k:Int)<(p.IB.length:Int):=oA;obtain⟨s,R,X,S,T,C,D⟩:=h.v.IB;have M:=C oA;subst M;have c0:=iN (D k n) (dm 7 _ 0 oA);have A:=hid (show (mdL p.IB t k).length<=1000 from aB (A0 _ _ _) oA);have a:=hid (tL p.IB t k);have z:=hid (qG vb V p k t wr h l n);have m:=hid (show p.IB[k] 0=0->unB p.IB t k=false from fun I=>by
    cases e:unB p.IB t k with
    |false=>rfl
    |true=>exact absurd (show (p.IB.getD k eS) 0=0 by rw[ia n];exact I) (uw l ((pP l t k).1 e)))
   generalize p.IB[k] 0=y at c0 m;clear C D h e2;generalize mdL p.IB t k=zs at g A a ⊢;by_cases j:y=0
   ·rw[m.out j,ae oD,d9] at a;have P:(y !=0)=false:=by simpa using j
    clear j m z;go_wp2_with fail
    refine⟨⟨k+1,c,cu,oA,by go_num,by rw[a.out],hid (by rw[a.out];exact g),d⟩,by simp[intOf];omega⟩
   ·have P:(y !=0)=true:=by simpa using j
    go_wp2_with fail
    refine z.mono ?_;rintro x w1 ⟨rfl,rfl⟩
    cases e:unB p.IB t k with
    |false=>
     rw[e,ae oD,d9] at a;go_wp2_with fail
     refine⟨⟨k+1,c,cu,oA,by go_num,by rw[a.out],hid (by rw[a.out];exact g),d⟩,by simp[intOf];omega⟩
    |true=>
     rw[e,ah rfl] at a;obtain⟨s,B,w',N,J,K⟩:=DT (y:=(k:Int)) d A g;have G:=hid N;have F:=hid J;have E:=hid K;go_wp2_with (first|(at_builtin;refine fS rfl _ _ 22 rfl (.slice c zs.length cu) (.slice (some ⟨wr.heap.size,0,none⟩) 1 1) (.slice s (zs.length+1) B) rfl rfl G ?_))
     exact⟨⟨k+1,s,B,oA,by go_num,by rw[a.out,ax];rfl,hid (by rw[a.out];have:=F.out;rw[ax] at this ⊢;exact this),E⟩,by simp[intOf];omega⟩
  ·obtain rfl:k=p.IB.length:=oA;have U:¬((p.IB.length:Int)<(p.IB.length:Int)):=oA;go_wp2_with fail
   go_ret
   exact⟨_,rfl,dS g,d.out⟩
def neW (W:World) (g n:Nat):Nat:=(List.range n).countP fun i=>match W.cell? ⟨g,i*7,none⟩ with|some (.int _ x)=>x !=0|_=>false
theorem A3 {W:World} {wb:Nat} {tag:Nat->Nat} {V:Nat->Value} {q:PW} {g cap n:Nat} (bt:di W wb tag V q) (e:V 2=.slice (some ⟨g,0,none⟩) n cap) (a:q.IB.length=n):neW W g n=neS q.IB:=by
 subst a;unfold neW neS;refine List.countP_congr fun i hi=>?_;rw[bt.JE e (List.mem_range.1 hi)]
theorem Ak {r:Nat->Nat} {m t n j:Nat} {q P:PW} (d:nds q<m+1) (e:Inv q) (f:TL q) (b:Up r q.IB) (g:luF q.IB t q.IB.length=j) (l:neS q.IB<=n) (h:rvN (drR (m+1)) t n q=P):
  (nds (drR (m+1) q j)<m+1∧Inv (drR (m+1) q j)∧TL (drR (m+1) q j)∧Up r (drR (m+1) q j).IB∧(drR (m+1) q j).IB.length=q.IB.length∧∃k,neS (drR (m+1) q j).IB<=k∧rvN (drR (m+1)) t k (drR (m+1) q j)=P)∧neS (drR (m+1) q j).IB<neS q.IB:=by
 obtain⟨hl,c⟩:=wY b g;have i:=t8 d e f hl c;obtain⟨i1,i2, -⟩:=(jx (m+1)).1 q j d e hl c;have a:=GZ (qd (m+1) q j b).2 (vP b) c;rw[i];refine⟨⟨oA,i1,(jx (m+1)).2 q j d e hl c f,(qd (m+1) q j b).1,(qd (m+1) q j b).2.1,?_⟩,a⟩
 cases n with
 |zero=>omega
 |succ n=>exact⟨n,oA,by rw[<-h,ya g]⟩
theorem lz (a:Int) (p:PW) (B:p.Fits) (hl:∀l∈p.ID,l.length<=100) (s:Snd p) (W:World) (wb:Nat) (tag:Nat->Nat) (V:Nat->Value) (bt:di W wb tag V p):
  Calls Tryz.prog 17 #[.pointer (some ⟨wb,0,none⟩),.int .i64 a] W fun x F=>x=.returned (.int .i64 (gI p a))∧∃tag',Kt tag tag' W F∧(gI p a=0->∃V',di F wb tag' V' (Bh p a))∧(gI p a≠0->F=W):=by
 have u:=hid (mH wb V p a W (bt.view B hl));by_cases d:gI p a=0
 rotate_left
 ·have c:=hid d;have ad:(gI p a !=0)=true:=by simpa using d
  generalize gI p a=x at u c ad ⊢;go_enter Tryz.func17,Tryz.ntmps17
  go_wp2_with fail
  refine u.mono ?_;rintro q w1 ⟨rfl,rfl⟩;go_wp2_with fail
  go_ret
  exact⟨rfl,tag,eO _ _,fun h=>(absurd h c),fun _=>rfl⟩
 obtain⟨t,rfl,ht,n⟩:=wq d;obtain⟨r,K⟩:=FU s;obtain⟨q2,g,cap,e2,I⟩:=bt.o.IB.shape;have J:=I oA;subst J;have N:=hid e2;have Q:=hid (show Bh p t=rvN (drR (nds p+1)) t (neS p.IB) p by rw[FN s d,Hj B s (Nat.lt_succ_self _) K]);obtain⟨P,G⟩:∃P,rvN (drR (nds p+1)) t (neS p.IB) p=P:=⟨_,rfl⟩
 rw[G] at Q;have f:=hid (show nds p<nds p+1∧Inv p∧TL p∧Up r p.IB∧∃k,neS p.IB<=k∧rvN (drR (nds p+1)) t k p=P from⟨Nat.lt_succ_self _,m9 B s,uj s,K,_,aq _,G⟩);have z:=hid (tH wb V p t W (bt.view B hl) K);have D:=hid bt;rw[d] at u ⊢;generalize nds p+1=m1 at f G;obtain⟨m,rfl⟩:∃m,m1=m+1:=⟨m1 - 1,by have:=f.1;omega⟩
 go_enter Tryz.func17,Tryz.ntmps17
 go_wp2_with fail
 refine u.mono ?_;rintro q w1 ⟨rfl,rfl⟩;go_wp2_with fail
 refine z.mono ?_;rintro q w1 ⟨v,rfl,hv,d⟩;have HV:=hid hv;replace D:=hid (D.below d);have aa:=hid (bE (tag:=tag) d);go_wp2_with fail
 go_loopw [6] (fun v wr=>∃(q:PW) (tg:Nat->Nat),Hid (ed wr v (mdL q.IB t q.IB.length))∧Hid (nds q<m+1∧Inv q∧TL q∧Up r q.IB∧q.IB.length=p.IB.length∧∃k,neS q.IB<=k∧rvN (drR (m+1)) t k q=P)∧Hid (di wr wb tg V q)∧Hid (Kt tag tg W wr)) (fun _ wr=>neW wr g p.IB.length)
 case atStart=>exact⟨p,tag,HV,hid ⟨f.1,f.2.1,f.2.2.1,f.2.2.2.1,rfl,f.2.2.2.2⟩,D,aa⟩
 case round=>
  obtain⟨q,tg,w,i,C,O⟩:=hrel;have HC:=hid (show (mdL q.IB t q.IB.length=[]∧q=P)∨∃(L:List Int) (j:Nat),mdL q.IB t q.IB.length=L++[(j:Int)]∧j<q.IB.length∧(q.IB.getD j eS) 0≠0∧(nds (drR (m+1) q j)<m+1∧Inv (drR (m+1) q j)∧TL (drR (m+1) q j)∧Up r (drR (m+1) q j).IB∧(drR (m+1) q j).IB.length=p.IB.length∧∃k,neS (drR (m+1) q j).IB<=k∧rvN (drR (m+1)) t k (drR (m+1) q j)=P)∧neS (drR (m+1) q j).IB<neS q.IB by
   obtain⟨A,S,h3,T,h5,k,h6,U⟩:=i.out;rcases lx q.IB t q.IB.length with ⟨e1,e⟩|⟨L,j,e1,e, -, -⟩
   ·exact .inl ⟨e1,by rw[<-U,m3 e]⟩
   ·obtain⟨H,n⟩:=wY T e;obtain⟨⟨a1,a2,a3,a4,a5,a6⟩,b⟩:=Ak A S h3 T e h6 U;exact .inr ⟨L,j,e1,H,n,⟨a1,a2,a3,a4,a5.trans h5,a6⟩,b⟩)
  rcases HC.out with ⟨e,I⟩|⟨L,j,e,H,n,hN,hM⟩
  ·rw[e] at w;obtain⟨qv,R,Z,cv,rfl, -, -⟩:=w.out;have HX:=hid I;have ag:¬((0:Int)<(([]:List Int).length:Int)):=oS;go_wp2_with fail
   go_ret
   exact⟨rfl,tg,O.out,V,by rw[Q.out, <-HX.out];exact C⟩
  ·rw[e] at w;obtain⟨qv,R,Z,cv,rfl,Y,ai⟩:=w.out;have J:=Y oS;subst J;have cl:wr.cell? ⟨R,Z+L.length,none⟩=some (.int .i64 (j:Int)):=by
    have:=ai L.length oS;simpa using this
   have af:((L++[(j:Int)]).length:Int)=(L.length:Int)+1:=oS;have al:(L.length:Int)<=1000:=by
    have A:=A0 q.IB t q.IB.length;rw[e,ax] at A;have S:=i.2.1.fits.IB;simp at A;omega
   generalize (L++[(j:Int)]).length=ln at af Y;have ag:(0:Int)<(ln:Int):=oA;have E:=hid (sw (m+1) q j wr wb tg V i.1 i.2.1 i.2.2.1 H C);rw[ae n,ae n] at E;have c:=hid hN;have z:=hid (show neS (drR (m+1) q j).IB<neW wr g p.IB.length by rw[A3 C N i.2.2.2.2.1];exact hM);generalize drR (m+1) q j=q' at E c z;go_wp2_with fail
   refine E.mono ?_;rintro y w2 ⟨rfl,aj,b2,k2⟩;have ab:=hid (tH wb V q' t w2 (b2.view c.2.1.fits c.2.2.1.len) c.2.2.2.1);have B2:=hid b2;have K2:=hid (O.trans k2);go_wp2_with fail
   refine ab.mono ?_;rintro y w3 ⟨v3,rfl,ah,X⟩;have ac:=hid ah;have M:=hid (B2.below X);have K3:=hid (K2.trans (bE X));go_wp2_with fail
   refine⟨⟨q',aj,ac,c,M,K3⟩,?_⟩;show neW w3 g p.IB.length<neW wr g p.IB.length
   rw[A3 M N c.2.2.2.2.1];exact z
