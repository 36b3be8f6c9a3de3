/- Qbd -/
import Derived.BigGuard
import Derived.Test.YtaejnmmpddbbjaaGreatDoorQbc
set_option maxRecDepth 100000
set_option maxHeartbeats 16000000
namespace Go.Proofs.YtaejnmmpddbbjaaGreatDoor
namespace Wd
open Go.RowKit Mem Bw Nums Mmu Hex
theorem sh (wb:Nat) (tag:Nat->Nat) (V:Nat->Value) (p:PW) (i j r g:Nat) (s:Nat->Int) (w:World) (bt:cb w wb tag V p) (B:p.Fits) (hl:∀l∈p.D9,l.length<=100) (O:p.DZ.length=p.kinds.length*16)
  (K:boE p i j=0) (hi:i<p.DZ.length) (N:p.DZ[i]=s) (J:0<=s 5) (M:¬(s 0≠1∧r<=7∧g<=65535∧(g=0∨(s 0=7∨s 0=8)∧s 5=0))):
  Calls Tryz.prog 13 #[.pointer (some ⟨wb,0,none⟩),.int .i64 i,.int .i64 j,.int .i64 r,.int .i64 g] w fun x w'=>∃e:Int,(1<=e∧e<=13)∧x=.returned (.int .i64 e)∧Below w.heap.size w w':=by
 have F:=hid bt;have y:=hid (kI wb V p i j w (bt.view B hl) O);rw[K] at y;obtain⟨A,R,e2⟩:=bt.o.DZ.form (by show 0<p.DZ.length;omega);have c2:=r11 2 bt.r;rw[e2] at c2;have I:=hid (show w.rangeAt A (i*7) (cf 6 s) from rM (fun k v C=>by
  have hk:k<7:=by have:=(List.getElem?_eq_some_iff.1 C).1;rw[aA] at this;exact this
  have:=F.Em e2 hi hk;rw[N] at this;rw[this, <-C,dp 7 _ k hk]))
 have Y:(p.DZ.length:Int)<=1000:=by have:=B.DZ;omega
 have X:(i:Int)<(p.DZ.length:Int):=oA;have b:=hid (fun W:World=>Isa.eI r 7 W);have c:=hid (fun W:World=>Isa.eI g 65535 W);have u:=hid (bal (ai w.heap.size w) (.cells zK 78));have z:=hid (aY w zK 78 w.heap.size 6 rfl oD);have H:=hid (show Kp (fun k=>k=w.heap.size) (w.alloc (.cells zK 78)) ((w.alloc (.cells zK 78)).setCells w.heap.size 0 (cf 6 s)) from aI (T:=fun k=>k=w.heap.size) (.inl rfl) _ _ _ (aP _ _));have a:=hid (H.below u u.size (fun k hk e=>oA));have f:=hid (World.rangeAt_setCells_same _ w.heap.size 0 (cf 6 s) (by rw[aA];exact z));have h:=hid M;have G:=hid J;go_enter Tryz.func13,Tryz.ntmps13
 go_wp2_with fail
 refine y.mono ?_;rintro q w1 ⟨rfl,rfl⟩;go_upto_region 5 with (first|((with_reducible refine gld 78 ?_);refine rZ rfl _ rfl A (i*7) rfl (cf 6 s) (aA _ _) I ?_)|((with_reducible refine gst 78 ?_);refine gv rfl _ _ rfl w.heap.size 0 rfl (cf 6 s) rfl (aA _ _) (bR _ _) z ?_))
 generalize World.setCells _ _ _ _=Q at a f ⊢;generalize w.heap.size=Z at f ⊢;have P:=eo f (dp 6 _ 0 oA);have E:=eo f (dp 6 _ 5 oA);rw[az] at P E;by_cases d:s 0=1
 ·have n0:(s 0==1)=true:=by simpa using d
  go_wp2_with fail
  go_ret
  exact⟨3,oD,rfl,a.out⟩
 have n0:(s 0==1)=false:=by simpa using d
 by_cases t:r<=7
 rotate_left
 ·rw[show decide ((r:Int)<0∨7<(r:Int))=true from aD oA] at b;go_wp2_with fail
  refine (b.out _).mono ?_;rintro q w2 ⟨rfl,rfl⟩;go_wp2_with fail
  go_ret
  exact⟨2,oD,rfl,a.out⟩
 rw[show decide ((r:Int)<0∨7<(r:Int))=false from ax oA] at b;by_cases n:g<=65535
 rotate_left
 ·rw[show decide ((g:Int)<0∨65535<(g:Int))=true from aD oA] at c;go_wp2_with fail
  refine (b.out _).mono ?_;rintro q w2 ⟨rfl,rfl⟩;go_wp2_with fail
  refine (c.out _).mono ?_;rintro q w2 ⟨rfl,rfl⟩;go_wp2_with fail
  go_ret
  exact⟨2,oD,rfl,a.out⟩
 rw[show decide ((g:Int)<0∨65535<(g:Int))=false from ax oA] at c;have L:=Nat.pos_of_ne_zero fun e=>h.out ⟨d,t,n,.inl e⟩;have S:=aD oA;have U:=aD L;by_cases m:s 5=0
 ·have D:s 0≠7∧s 0≠8:=⟨fun e=>h.out ⟨d,t,n,.inr ⟨.inl e,m⟩⟩,fun e=>h.out ⟨d,t,n,.inr ⟨.inr e,m⟩⟩⟩;have m7:(s 0 !=7)=true:=by simpa using D.1
  have m8:(s 0 !=8)=true:=by simpa using D.2
  rw[m] at E;go_wp2_with fail
  refine (b.out _).mono ?_;rintro q w2 ⟨rfl,rfl⟩;go_wp2_with fail
  refine (c.out _).mono ?_;rintro q w2 ⟨rfl,rfl⟩;go_wp2_with fail
  go_ret
  exact⟨4,oD,rfl,a.out⟩
 ·have m5:=aD (by have:=G.out;omega);go_wp2_with fail
  refine (b.out _).mono ?_;rintro q w2 ⟨rfl,rfl⟩;go_wp2_with fail
  refine (c.out _).mono ?_;rintro q w2 ⟨rfl,rfl⟩;go_wp2_with fail
  go_ret
  exact⟨4,oD,rfl,a.out⟩
theorem sg (a b r g:Int) (p:PW) (h:p.Fits) (hl:∀l∈p.D9,l.length<=100) (i:p.DZ.length=p.kinds.length*16) (e:boE p a b≠0) (W:World) (wb:Nat) (tag:Nat->Nat) (V:Nat->Value) (bt:cb W wb tag V p):
  Calls Tryz.prog 13 #[.pointer (some ⟨wb,0,none⟩),.int .i64 a,.int .i64 b,.int .i64 r,.int .i64 g] W fun x d=>x=.returned (.int .i64 (boE p a b))∧d=W:=by
 have c:=hid (kI wb V p a b W (bt.view h hl) i);have f:(boE p a b !=0)=true:=by simpa using e
 generalize boE p a b=x at c f ⊢;go_enter Tryz.func13,Tryz.ntmps13
 go_wp2_with fail
 refine c.mono ?_;rintro q w1 ⟨rfl,rfl⟩;go_wp2_with fail
 go_ret
 exact⟨rfl,rfl⟩
end Wd
namespace Wd
open Go.RowKit Mem Bw Nums Mmu
theorem lM (a:Int) (p:PW) (i:p.Fits) (hl:∀l∈p.D9,l.length<=100) (m:Snd p) (W:World) (wb:Nat) (tag:Nat->Nat) (V:Nat->Value) (bt:cb W wb tag V p):
  Calls Tryz.prog 18 #[.pointer (some ⟨wb,0,none⟩),.int .i64 a] W fun x g=>x=.returned (.int .i64 (srE p a))∧∃tag',Kt tag tag' W g∧(srE p a=0->∃z,cb g wb tag' z (srP p a))∧(srE p a≠0->g=W):=by
 have d:=hid (jh wb V p a W (bt.view i hl));by_cases c:thE p a 6=0
 rotate_left
 ·have b:=hid (show srE p a=thE p a 6 from ae c);have A:(thE p a 6 !=0)=true:=by simpa using c
  rw[b.out];have j:=hid c;generalize thE p a 6=x at d A j ⊢;go_enter Tryz.func18,Tryz.ntmps18
  go_wp2_with fail
  refine d.mono ?_;rintro q w1 ⟨rfl,rfl⟩;go_wp2_with fail
  go_ret
  exact⟨rfl,tag,Kt.refl _ _,fun h=>(absurd h j),fun _=>rfl⟩
 obtain⟨t,n,rfl,hk⟩:=rT c;rw[c] at d;have r:t<p.DY.length:=by rw[m.lf.DY];exact n
 obtain⟨J,I,k⟩:=bt.o.DY.form oA;have H:=bg bt k;have G:=bt.Ec k r (show 9<20 by omega);have M:(t:Int)<(p.DY.length:Int):=oA;have L:(p.DY.length:Int)<=1000:=by have:=i.DY;omega
 obtain⟨D,E,F,r4⟩:=lD m n hk;have w:=hid (gn wb tag V p t (rdN p t) W bt i r D F r4 E);have f:=hid (show srE p t=if p.DY.getD t bl 9=0 then 0 else 7 by unfold srE;rw[af c,ag]);have v:=hid (show srP p t=wnP p t (rdN p t) by unfold srP;rw[ag]);generalize p.DY.getD t bl 9=y at G f;by_cases e:y=0
 ·have b:=hid (f.trans (af e));subst e;rw[b.out];go_enter Tryz.func18,Tryz.ntmps18
  go_wp2_with fail
  refine d.mono ?_;rintro q w1 ⟨rfl,rfl⟩;go_wp2_with fail
  refine w.mono ?_;rintro q w2 ⟨rfl,tag',B,C⟩;have s:=hid B;have u:=hid C;go_wp2_with fail
  go_ret
  exact⟨rfl,tag',u.out,fun _=>⟨V,by rw[v.out];exact s⟩,fun h=>absurd (by first|rfl|assumption|exact b) h⟩
 ·have b:=hid (f.trans (ae e));have K:(y !=0)=true:=by simpa using e
  rw[b.out];go_enter Tryz.func18,Tryz.ntmps18
  go_wp2_with fail
  refine d.mono ?_;rintro q w1 ⟨rfl,rfl⟩;go_wp2_with fail
  go_ret
  exact⟨rfl,tag,Kt.refl _ _,fun h=>(by cases h),fun _=>rfl⟩
theorem nK (a:Int) (p:PW) (g:p.Fits) (hl:∀l∈p.D9,l.length<=100) (s:Snd p) (W:World) (wb:Nat) (tag:Nat->Nat) (V:Nat->Value) (bt:cb W wb tag V p):
  Calls Tryz.prog 144 #[.pointer (some ⟨wb,0,none⟩),.int .i64 a] W fun x d=>x=.returned (.int .i64 (thE p a 6))∧∃tag',Kt tag tag' W d∧(thE p a 6=0->∃m,cb d wb tag' m (stP p a.toNat))∧(thE p a 6≠0->d=W):=by
 have c:=hid (jh wb V p a W (bt.view g hl));by_cases b:thE p a 6=0
 rotate_left
 ·have n:(thE p a 6==0)=false:=by simpa using b
  have f:=hid b;generalize thE p a 6=x at c n f ⊢;go_enter Tryz.func144,Tryz.ntmps144
  go_wp2_with fail
  refine c.mono ?_;rintro q w1 ⟨rfl,rfl⟩;go_wp2_with fail
  go_ret
  exact⟨rfl,tag,Kt.refl _ _,fun h=>(absurd h f),fun _=>rfl⟩
 obtain⟨t,u,rfl,hk⟩:=rT b;rw[b] at c;have k:=hid (jf wb tag V p t W bt g (by rw[s.lf.DY];exact u));have e:=hid b;rw[ag];go_enter Tryz.func144,Tryz.ntmps144
 go_wp2_with fail
 refine c.mono ?_;rintro q w1 ⟨rfl,rfl⟩;go_wp2_with fail
 refine k.mono ?_;rintro q w2 ⟨rfl,tag',o,r⟩;have i:=hid o;have j:=hid r;go_wp2_with fail
 go_ret
 exact⟨by rw[e.out];rfl,tag',j.out,fun _=>⟨V,i.out⟩,fun h=>absurd (by first|rfl|assumption|exact e) h⟩
theorem l9 (a b:Int) (p:PW) (f:p.Fits) (hl:∀l∈p.D9,l.length<=100) (J:Snd p) (W:World) (wb:Nat) (tag:Nat->Nat) (V:Nat->Value) (bt:cb W wb tag V p):
  Calls Tryz.prog 19 #[.pointer (some ⟨wb,0,none⟩),.int .i64 a,.int .i64 b] W fun x W'=>x=.returned (.int .i64 (rkE p a b))∧∃tag',Kt tag tag' W W'∧(rkE p a b=0->∃V',cb W' wb tag' V' (rkP p a b))∧(rkE p a b≠0->W'=W):=by
 have E:=hid (jh wb V p a W (bt.view f hl));by_cases B:thE p a 6=0
 rotate_left
 ·have HE:=hid (show rkE p a b=thE p a 6 from ae B);have aE:(thE p a 6 !=0)=true:=by simpa using B
  rw[HE.out];have HN:=hid B;generalize thE p a 6=x at E aE HN ⊢;go_enter Tryz.func19,Tryz.ntmps19
  go_wp2_with fail
  refine E.mono ?_;rintro q w1 ⟨rfl,rfl⟩;go_wp2_with fail
  go_ret
  exact⟨rfl,tag,Kt.refl _ _,fun h=>(absurd h HN),fun _=>rfl⟩
 obtain⟨t,ht,rfl,hk⟩:=rT B;rw[B] at E;have P:=hid (show rkE p t b=if ed 0 3 b then 0 else 2 by unfold rkE;rw[af B]);have Q:=hid (eI b 3 W)
 cases C:ed 0 3 b with
 |false=>
  rw[C,ae oD] at P;have ag:decide (b<0∨3<b)=true:=aD (by have:=cH C;omega);rw[ag] at Q;rw[P.out];go_enter Tryz.func19,Tryz.ntmps19
  go_wp2_with fail
  refine E.mono ?_;rintro q w1 ⟨rfl,rfl⟩;go_wp2_with fail
  refine Q.mono ?_;rintro q w1 ⟨rfl,rfl⟩;go_wp2_with fail
  go_ret
  exact⟨rfl,tag,Kt.refl _ _,fun h=>(by cases h),fun _=>rfl⟩
 |true=>
 rw[C,af rfl] at P;have aQ:=ay C;have ag:decide (b<0∨3<b)=false:=ax oA;rw[ag] at Q;rw[P.out];have ab:t<p.DY.length:=by rw[J.lf.DY];exact ht
 obtain⟨g3,cap3,G⟩:=bt.o.DY.form oA;have E3:=hid G;have ao:=hid ab;have a0:(t:Int)<(p.DY.length:Int):=oA;have aX:(p.DY.length:Int)<=1000:=by have:=f.DY;omega
 have aY:(p.ready.length:Int)<=1000:=by have:=f.ready;omega
 have an:=hid f.next;have B0:=hid bt;have ai:=hid (zA J ht hk b);have LT:=am p t 10 b;have O:=gN p t 10 18 b ab oD;have N:(p.task t 10 b).DY.getD t bl 10=b:=by rw[gm p t 10 10 b ab,af rfl]
 obtain⟨_,_,aP,_⟩:=oN (ir J ht hk).1;have aS:=J.lf.c2;have r1:rdN (p.task t 10 b) t<p.ready.length:=by
  unfold rdN;rw[O,N,J.lf.ready];omega
 have r2:(p.task t 10 b).DY.getD t bl 18*4+(p.task t 10 b).DY.getD t bl 10=(rdN (p.task t 10 b) t:Int):=by
  unfold rdN;rw[O,N];omega
 have Z:(({p with ready:=lvs t p.ready}:PW).task t 10 b).Fits:=⟨f.Eb,f.kinds,f.DZ,by rw[am];exact f.DY,f.lines,f.line,f.bits,f.D6,by show (lvs t p.ready).length<=1000;rw[lx];exact f.ready,fun l hm=>by
  have d:=hm;unfold lvs at d;obtain⟨l0,h2,rfl⟩:=List.mem_map.1 d;exact aB (dz _ _) (f.next l0 h2),f.D9,f.Ee⟩
 have HW:=hid (fun X tg (h:cb X wb tg V (({p with ready:=lvs t p.ready}:PW).task t 10 b))=>gn wb tg V (({p with ready:=lvs t p.ready}:PW).task t 10 b) t (rdN (p.task t 10 b) t) X h Z (by rw[am];exact ab) (by show rdN (p.task t 10 b) t<(lvs t p.ready).length;rw[lx];exact r1) ⟨by show 0<=(p.task t 10 b).DY.getD t bl 18;rw[O];omega,by show (p.task t 10 b).DY.getD t bl 18<=1000;rw[O];omega⟩ ⟨by show 0<=(p.task t 10 b).DY.getD t bl 10;rw[N];omega,by show (p.task t 10 b).DY.getD t bl 10<=1000;rw[N];omega⟩ r2);go_enter Tryz.func19,Tryz.ntmps19
 go_wp2_with fail
 refine E.mono ?_;rintro q w1 ⟨rfl,rfl⟩;go_wp2_with fail
 refine Q.mono ?_;rintro q w1 ⟨rfl,rfl⟩;go_wp2_with fail
 go_loopw [8,9] (fun s i wr=>∃(k:Nat) (tg:Nat->Nat),k<=p.ready.length∧s=.bool (decide (0<cna t (p.ready.take k)))∧i=.int .i64 k∧Hid (cb wr wb tg V {p with ready:=fx (en fun x=>x==(t:Int)) k p.ready})∧Hid (Kt tag tg W wr)) (fun _ i _=>p.ready.length - (intOf i).toNat)
 case atStart=>exact⟨0,tag,oA,rfl,rfl,hid (by rw[fD];exact B0),hid (Kt.refl _ _)⟩
 case round=>
  obtain⟨k,tg,aW,rfl,rfl,A,HK⟩:=hrel;obtain⟨g,eL⟩:=A.o.ready.form;have D:=hid (eL.trans (cX (fun m=>Value.slice (some ⟨g,0,none⟩) m m) (cS _ _ _)));have U:=hid (show fy wr tg 9 13 22 3 1 p.ready.length (.slice (some ⟨g,0,none⟩) p.ready.length p.ready.length) (ci (fx (en fun x=>x==(t:Int)) k p.ready)) by
   have d:=A.o.ready;simp only at d;rw[cS,D.out] at d;exact d)
  have cl:=bg A D;by_cases y:k<p.ready.length
  ·have aZ:(k:Int)<(p.ready.length:Int):=oA;have F:=hid (show decide (0<cna t (p.ready.take (k+1)))=(decide (0<cna t (p.ready.take k))||inB t p.ready[k]) by
    have d:cna t (p.ready.take (k+1))=cna t (p.ready.take k)+cn t p.ready[k]:=rS (cn t) y;unfold inB;rw[d,dy];simp only[aR,bT];omega)
   obtain⟨ux,aL,aJ⟩:=U.at (j:=k) y;have av:=hid (show ey wr ux p.ready[k] by
    have H:k<(fx (en fun x=>x==(t:Int)) k p.ready).length:=by rw[cS];exact y
    have d:=aJ.1;unfold ci at d;rw[aa,ac H,aT,eN _ _ _ y H] at d;exact de d)
   have al:=hid (A1 ux p.ready[k] t wr av (an.out _ (aw y)));generalize decide (0<cna t (p.ready.take k))=sb at F ⊢;generalize aV:inB t p.ready[k]=ic at F al
   cases sb
   case' true=>
    rw[Bool.true_or] at F;go_wp2_with fail
   case' false=>
    rw[Bool.false_or] at F;go_wp2_with fail
    refine al.mono ?_;rintro r0 w0 ⟨rfl,rfl⟩;go_wp2_with fail
   all_goals
    obtain⟨u,cu,hu⟩:=U.at (j:=k) y;have au:=hid (show ci (fx (en fun x=>x==(t:Int)) k p.ready) k=(p.ready[k].length,ec p.ready[k]) by
     have H:k<(fx (en fun x=>x==(t:Int)) k p.ready).length:=by rw[cS];exact y
     unfold ci;rw[aa,ac H,aT,eN _ _ _ y H])
    rw[au.out] at hu;have HU:=hid (de hu.1);have aA:=hid (an.out _ (aw y));have ar:=hid (fun X (h:Below wr.heap.size wr X)=>(U.kp (T:=fun _=>False) (.Ed h) (fun _ _=>rfl) (fun _ _ e=>e)).fr k);have KS:=hid (fun X (h:Below wr.heap.size wr X)=>show X.cell? ⟨wb,7,none⟩=some (.slice (some ⟨g,0,none⟩) p.ready.length p.ready.length) by rw[ah (A.below h).r (k:=7) rfl,D.out]);have KR:=hid (fun X (h:Below wr.heap.size wr X)=>(h.cell (aj _ _ cu)).trans cu);have L:=hid (aC wr 1);have aq:=hid (fun X v (h:Below wr.heap.size wr X) (I:X.ownsRow wr.heap.size 3 1 v ((en fun x=>x==(t:Int)) p.ready[k]).length (ec ((en fun x=>x==(t:Int)) p.ready[k])))=>show cb (X.setCell ⟨g,k,none⟩ v) wb (gy tg wr.heap.size (13+3*k)) V {p with ready:=fx (en fun x=>x==(t:Int)) (k+1) p.ready}∧Kt tag (gy tg wr.heap.size (13+3*k)) W (X.setCell ⟨g,k,none⟩ v) from by
     obtain⟨aI,Z⟩:=U.put (tag':=gy tg wr.heap.size (13+3*k)) (w1:=X) (u:=v) (c:=(((en fun x=>x==(t:Int)) p.ready[k]).length,ec ((en fun x=>x==(t:Int)) p.ready[k]))) (j:=k) y (fun j=>oA) (.Ed h) (fun k hk=>cV hk) ⟨I.mono (bF _),fun j e=>by
      unfold gy;rw[ae (by have:=(I.lt j e).1;omega)]⟩
     refine⟨A.ready Z (fun k hk=>cV hk) ?_,HK.trans (Kt.of (tag':=gy tg wr.heap.size (13+3*k)) Z (fun k e=>by rcases e with e|⟨j,e⟩<;>omega) (fun k hk=>cV hk))⟩;rw[cS,D.out,eO _ _ _ y,jq _ _ (by rw[cS];exact y)];exact aI)
    refine d7 (S:=fun X=>X.cell? ⟨wb,7,none⟩=some (.slice (some ⟨g,0,none⟩) p.ready.length p.ready.length)) (R:=fun X=>X.cell? ⟨g,k,none⟩=some u) [15] oK (KS.out _ L) (KR.out _ L) (fun aG aF=>?_);have w:=hid aG;have n:=hid aF;refine tF 0 (.pointer (some ⟨wb,0,none⟩)) rfl w (fun _=>n.out) ?_;simp only[jj];refine tF 1 (.pointer (some ⟨wb,0,none⟩)) rfl w (fun _=>n.out) ?_;simp only[jj];refine tF 2 (.pointer (some ⟨wb,7,none⟩)) rfl w (fun _=>n.out) ?_;simp only[jj];refine tG 3 (.slice (some ⟨g,0,none⟩) p.ready.length p.ready.length) rfl w (fun _=>n.out) ?_;simp only[jj];refine tF 4 (.int .i64 k) rfl w (fun _=>n.out) ?_;simp only[jj];refine tF 5 (.pointer (some ⟨wb,0,none⟩)) rfl w (fun _=>n.out) ?_;simp only[jj];refine tF 6 (.pointer (some ⟨wb,0,none⟩)) rfl w (fun _=>n.out) ?_;simp only[jj];refine tF 7 (.pointer (some ⟨wb,7,none⟩)) rfl w (fun _=>n.out) ?_;simp only[jj];refine tG 8 (.slice (some ⟨g,0,none⟩) p.ready.length p.ready.length) rfl w (fun _=>n.out) ?_;simp only[jj];refine tF 9 (.int .i64 k) rfl w (fun _=>n.out) ?_;simp only[jj];refine tF 10 (.pointer (some ⟨g,k,none⟩)) rfl w (fun _=>n.out) ?_;simp only[jj];refine eu (i:=11) (v:=u) rfl oK oK oK oK oK oK (fun _ _ _ h=>h) (Or.inl ⟨oR,fun W h=>by have h3:=h.2;clear h;go_simp⟩) w (fun _=>n.out) ?_;simp only[jj];refine tF 12 (.int .i64 t) rfl w (fun _=>n.out) ?_;simp only[jj];refine Wd.r1 13 rfl (fun K hK=>?_);go_simp
    refine (ji u p.ready[k] t _ (HU.below L) aA).mono ?_;rintro r w1 ⟨v,rfl,I,C⟩;obtain⟨qv,cv,rfl⟩:=fZ I;have z:=hid (btr L C);have HO:=hid I;go_wp2_with fail
    refine hK _ _ (KS.out _ z) (fun _=>KR.out _ z) (fun _ _=>?_)
    try simp only[Act.put,jD,jE,jF]
    have S1:=hid (KS.out _ z);have R1:=hid (KR.out _ z);refine tF 14 (.pointer (some ⟨g,k,none⟩)) rfl S1 (fun _=>R1.out) ?_;simp only[jj];have aM:=S1.out;have aK:=R1.out;have aO:=ar.out _ z;obtain⟨ap,aH⟩:=aq.out w1 _ z HO;have B6:=hid ap;have K6:=hid aH;have S6:=hid (show (w1.setCell ⟨g,k,none⟩ (.slice qv ((en fun x=>x==(t:Int)) p.ready[k]).length cv)).cell? ⟨wb,7,none⟩=some (.slice (some ⟨g,0,none⟩) p.ready.length p.ready.length) by rw[ah ap.r (k:=7) rfl,D.out]);refine Wd.r1 15 rfl (fun K hK=>?_);go_simp
    refine hK _ _ S6 (eF oK) (fun _ _=>?_)
    try simp only[Act.put]
    refine d5 oK ?_ _;generalize World.setCell _ _ _=W6 at*;go_wp2_with fail
    exact⟨⟨k+1,_,oA,by rw[F.out],by go_num,B6,K6⟩,by simp[intOf];omega⟩
  ·obtain rfl:k=p.ready.length:=oA;have aU:¬((p.ready.length:Int)<(p.ready.length:Int)):=oA;have M:=hid (show cb wr wb tg V {p with ready:=lvs t p.ready} by
    have d:=A.out;rw[show fx (en fun x=>x==(t:Int)) p.ready.length p.ready=lvs t p.ready from fY _ _] at d;exact d)
   rw[cY];have G:V 3=.slice (some ⟨g3,0,none⟩) ({p with ready:=lvs t p.ready}:PW).DY.length cap3:=E3.out;have c3:=bg M E3;have a2:=M.Ec G ao (show 10<20 by omega);have aN:=M.Ef G (t*20+10);obtain⟨b1,k1⟩:=M.task G ao (show 10<20 by omega) b;have B1:=hid b1;have K1:=hid (HK.trans k1);by_cases Y:0<cna t p.ready
   ·have ad:=hid (show rkP p t b=wnP (({p with ready:=lvs t p.ready}:PW).task t 10 b) t (rdN (p.task t 10 b) t) by rw[<-ai.out];exact af Y);rw[aD Y];go_upto_region 13 with fail
    generalize World.setCell _ _ _=W1 at*;have az:=hid (HW.out W1 tg B1);go_wp2_with fail
    refine az.mono ?_;rintro q w2 ⟨rfl,tag',d,h2⟩;have H1:=hid d;have H2:=hid h2;go_wp2_with fail
    go_ret
    exact⟨rfl,tag',K1.trans H2,fun _=>⟨V,by rw[ad.out];exact H1⟩,fun h=>absurd (by first|rfl|assumption|exact HE) h⟩
   ·have ad:=hid (show rkP p t b=({p with ready:=lvs t p.ready}:PW).task t 10 b by rw[<-ai.out];exact ae Y);rw[ax Y];go_upto_region 13 with fail
    generalize World.setCell _ _ _=W1 at*;go_wp2_with fail
    go_ret
    exact⟨rfl,tg,K1.out,⟨V,by rw[ad.out];exact B1⟩⟩
theorem xD {S:List (Nat->Int)} {i:Nat} (hi:i<S.length):fro S i=S[i] 6:=by
 unfold fro;rw[af oA,ag,aa,ac hi];rfl
theorem zY {r:Nat->Nat} {S:List (Nat->Int)} (h:Up r S) {i:Nat} (hi:i<S.length):S[i] 6= -1∨∃u:Nat,S[i] 6=u∧u<S.length∧r u<r i:=by
 have e:S.getD i eS=S[i]:=by rw[aa,ac hi];rfl
 rw[<-e];exact h.fr i
theorem oH {r:Nat->Nat} (vb:Nat) (V:Nat->Value) (p:PW) (i t:Nat) (w:World) (s:gS w vb V p) (o:Up r p.DZ) (hi:i<p.DZ.length):
  Calls Tryz.prog 79 #[.pointer (some ⟨vb,0,none⟩),.int .i64 i,.int .i64 t] w fun x w'=>x=.returned (.bool (unB p.DZ t i))∧w=w':=by
 have c2:=r11 2 s.r;obtain⟨q,b,off,cap,e2,E,A⟩:=s.v.DZ;have F:=E oA;subst F;have I:(i:Int)<(p.DZ.length:Int):=oA;have c6:=eo (A i hi) (dp 7 _ 6 oA);have n:=hid (show (UnS p.DZ t (fro p.DZ i)↔UnS p.DZ t (p.DZ[i] 6))∧(p.DZ[i] 6= -1∨∃j:Nat,p.DZ[i] 6=j∧j<p.DZ.length) by
  refine⟨by rw[xD hi],?_⟩;rcases zY o hi with h|⟨u,h,f, -⟩
  ·exact .inl h
  ·exact .inr ⟨u,h,f⟩)
 generalize p.DZ[i] 6=H at c6 n;have C:=hid A;have d:=hid o;go_enter Tryz.func79,Tryz.ntmps79
 go_wp2_with fail
 go_loopw [1] (fun v wr=>∃y:Int,v=.int .i64 y∧Hid ((UnS p.DZ t (fro p.DZ i)↔UnS p.DZ t y)∧(y= -1∨∃j:Nat,y=j∧j<p.DZ.length))∧Hid (w=wr)) (fun v _=>if intOf v<0 then 0 else r (intOf v).toNat+1)
 case atStart=>exact⟨H,rfl,n,hid rfl⟩
 case round=>
  obtain⟨y,rfl,c,B⟩:=hrel;obtain rfl:=B.out;rcases c.2 with m|⟨j,m,g⟩
  ·subst m;have D:¬((0:Int)<= -1):=oA;have a:=hid (show unB p.DZ t i=false by
    cases e:unB p.DZ t i with
    |false=>rfl
    |true=>exact absurd (c.1.1 ((nN d t i).1 e)) yd)
   go_wp2_with fail
   go_ret
   exact⟨by rw[a.out];rfl,rfl⟩
  ·subst m;have D:(0:Int)<=(j:Int):=oA;by_cases l:(j:Int)=t
   ·have G:=bh.2 l;have a:=hid ((nN d t i).2 (c.1.2 (by rw[l];exact xj)));go_wp2_with fail
    go_ret
    exact⟨by rw[a.out];rfl,rfl⟩
   ·have G:=beq_eq_false_iff_ne.2 l;have J:(j:Int)<(p.DZ.length:Int):=oA;have c7:=eo (C.out j g) (dp 7 _ 6 oA);have a:=hid (show ((UnS p.DZ t (fro p.DZ i)↔UnS p.DZ t (p.DZ[j] 6))∧(p.DZ[j] 6= -1∨∃k:Nat,p.DZ[j] 6=k∧k<p.DZ.length))∧(if p.DZ[j] 6<0 then 0 else r (p.DZ[j] 6).toNat+1)<r j+1 by
     refine⟨⟨c.1.trans (by rw[xl l,xD g]),?_⟩,?_⟩
     ·rcases zY d g with h|⟨u,h,f, -⟩
      ·exact .inl h
      ·exact .inr ⟨u,h,f⟩
     ·rcases zY d g with h|⟨u,h, -,f⟩
      ·rw[h,af oD];omega
      ·rw[h,ae oA,ag];omega)
    generalize p.DZ[j] 6=z at c7 a;go_wp2_with fail
    refine⟨⟨z,rfl,hid a.1,hid oS⟩,?_⟩;show (if z<0 then 0 else r z.toNat+1)<(if (j:Int)<0 then 0 else r (j:Int).toNat+1)
    rw[ae (show ¬(j:Int)<0 by omega),ag];exact a.2
theorem xM (S:List (Nat->Int)) (t n:Nat):(mdL S t n).length<=n:=by
 unfold mdL;rw[bL];exact aB (dz _ _) (by rw[List.length_range];exact ar _)
theorem Al {w wr:World} {zs:List Int} {y:Int} {h:Option Addr} {cu:Nat} (hB:Below w.heap.size w wr) (hl:zs.length<=1000) (f:wr.ownsRow w.heap.size 3 1 (.slice h zs.length cu) zs.length (ec zs)):
  ∃q c w',(Builtin.append_ #[22,22] 22 #[.slice h zs.length cu,.slice (some ⟨wr.heap.size,0,none⟩) 1 1]).run Tryz.prog (wr.alloc (.cells #[.int .i64 y] 3))=.ok (.slice q (zs.length+1) c) w'∧w'.ownsRow w.heap.size 3 1 (.slice q (zs.length+1) c) (zs++[y]).length (ec (zs++[y]))∧Below w.heap.size w w':=by
 have b:=bal (ai wr.heap.size wr) (.cells #[.int .i64 y] 3);have g:=aB hB.size b.size;obtain⟨i,hi,p,n,o⟩:=eH jY;obtain⟨r,w',m,d,l,_⟩:=run_append_own (P:=Tryz.prog) (wr.alloc (.cells #[.int .i64 y] 3)) w.heap.size 22 22 3 i (.int .i64 0) 1 8 Tryz.underlying22 hi p n o rfl oD _ _ _ (ex f b) ⟨wr.heap.size,0,none⟩ 1 1 [.int .i64 y] rfl (fun j v a=>by
  match j,a with
  |0,a=>cases a;exact cD wr #[.int .i64 y] 3 0
  |j+1,a=>simp at a) (A5 y) (by unfold maxLen;omega) oA g
 obtain⟨q,c,rfl⟩:=fZ d;have e:ec zs++[Value.int .i64 y]=ec (zs++[y]):=by unfold ec;simp
 exact⟨q,c,w',m,by rw[<-e,av];exact d,(btr hB b).grown l g (fun k hk=>(f.lt k hk).1)⟩
theorem qW {r:Nat->Nat} (vb:Nat) (V:Nat->Value) (p:PW) (t:Nat) (w:World) (o:gS w vb V p) (O:Up r p.DZ):
  Calls Tryz.prog 39 #[.pointer (some ⟨vb,0,none⟩),.int .i64 t] w fun x w'=>∃v,x=.returned v∧ey w' v (mdL p.DZ t p.DZ.length)∧Below w.heap.size w w':=by
 have hl:(p.DZ.length:Int)<=1000:=by have:=o.f.DZ;omega
 have H:=hid o;have l:=hid O;obtain⟨q,b,off,cap,e2,L, -⟩:=o.v.DZ;have Q:=hid L;go_enter Tryz.func39,Tryz.ntmps39
 go_wp2_with fail
 go_loopw [5,6] (fun u i wr=>∃(k:Nat) (c:Option Addr) (cu:Nat),k<=p.DZ.length∧i=.int .i64 k∧u=.slice c (mdL p.DZ t k).length cu∧Hid (wr.ownsRow w.heap.size 3 1 (.slice c (mdL p.DZ t k).length cu) (mdL p.DZ t k).length (ec (mdL p.DZ t k)))∧Hid (Below w.heap.size w wr)) (fun _ i _=>p.DZ.length - (intOf i).toNat)
 case atStart=>exact⟨0,none,0,oA,rfl,rfl,hid (cO _ _ _ _),hid (ai _ _)⟩
 case round=>
  obtain⟨k,c,cu,hk,rfl,rfl,g,d⟩:=hrel;have h:=hid (H.below d);have c2:=r11 2 h.r;by_cases n:k<p.DZ.length
  ·have W:(k:Int)<(p.DZ.length:Int):=oA;obtain⟨s,R,X,S,T,C,D⟩:=h.v.DZ;have M:=C oA;subst M;have c0:=iL (D k n) (dp 7 _ 0 oA);have A:=hid (show (mdL p.DZ t k).length<=1000 from aB (xM _ _ _) oA);have a:=hid (rf p.DZ t k);have z:=hid (oH vb V p k t wr h l n);have m:=hid (show p.DZ[k] 0=0->unB p.DZ t k=false from fun I=>by
    cases e:unB p.DZ t k with
    |false=>rfl
    |true=>exact absurd (show (p.DZ.getD k eS) 0=0 by rw[gF n];exact I) (rX l ((nN l t k).1 e)))
   generalize p.DZ[k] 0=y at c0 m;clear C D h e2;generalize mdL p.DZ t k=zs at g A a ⊢;by_cases j:y=0
   ·rw[m.out j,ae oD,du] at a;have P:(y !=0)=false:=by simpa using j
    clear j m z;go_wp2_with fail
    refine⟨⟨k+1,c,cu,oA,by go_num,by rw[a.out],hid (by rw[a.out];exact g),d⟩,by simp[intOf];omega⟩
   ·have P:(y !=0)=true:=by simpa using j
    go_wp2_with fail
    refine z.mono ?_;rintro x w1 ⟨rfl,rfl⟩
    cases e:unB p.DZ t k with
    |false=>
     rw[e,ae oD,du] at a;go_wp2_with fail
     refine⟨⟨k+1,c,cu,oA,by go_num,by rw[a.out],hid (by rw[a.out];exact g),d⟩,by simp[intOf];omega⟩
    |true=>
     rw[e,af rfl] at a;obtain⟨s,B,w',N,J,K⟩:=Al (y:=(k:Int)) d A g;have G:=hid N;have F:=hid J;have E:=hid K;go_wp2_with (first|(at_builtin;refine fe rfl _ _ 22 rfl (.slice c zs.length cu) (.slice (some ⟨wr.heap.size,0,none⟩) 1 1) (.slice s (zs.length+1) B) rfl rfl G ?_))
     exact⟨⟨k+1,s,B,oA,by go_num,by rw[a.out,av];rfl,hid (by rw[a.out];have:=F.out;rw[av] at this ⊢;exact this),E⟩,by simp[intOf];omega⟩
  ·obtain rfl:k=p.DZ.length:=oA;have U:¬((p.DZ.length:Int)<(p.DZ.length:Int)):=oA;go_wp2_with fail
   go_ret
   exact⟨_,rfl,de g,d.out⟩
