/- Ubc -/
import Derived.BigGuard
import Derived.Test.YtnccmdndkmmhcaaGreatDoorUbb
set_option maxRecDepth 100000
set_option maxHeartbeats 16000000
namespace Go.Proofs.YtnccmdndkmmhcaaGreatDoor
namespace Wd
open Go.RowKit Mem Bw Nums Mmu Hex
theorem uX (wb:Nat) (tag:Nat->Nat) (V:Nat->Value) (p:PW) (i j r g:Nat) (s:Nat->Int) (w:World) (bt:cb w wb tag V p) (B:p.Fits) (hl:∀l∈p.IK,l.length<=100) (N:p.IH.length=p.kinds.length*16)
  (J:boE p i j=0) (hi:i<p.IH.length) (M:p.IH[i]=s) (I:0<=s 5) (L:¬(s 0≠1∧r<=7∧g<=65535∧(g=0∨(s 0=7∨s 0=8)∧s 5=0))):
  Calls Tryz.prog 35 #[.pointer (some ⟨wb,0,none⟩),.int .i64 i,.int .i64 j,.int .i64 r,.int .i64 g] w fun x w'=>∃e:Int,(1<=e∧e<=13)∧x=.returned (.int .i64 e)∧Below w.heap.size w w':=by
 have E:=hid bt;have y:=hid (lX wb V p i j w (bt.view B hl) N);rw[J] at y;obtain⟨A,Q,e2⟩:=bt.o.IH.form (by show 0<p.IH.length;omega);have c2:=r11 2 bt.r;rw[e2] at c2;have H:=hid (show w.rangeAt A (i*7) (cf 6 s) from oG (fun k v hv=>by
  have hk:k<7:=by have:=(List.getElem?_eq_some_iff.1 hv).1;rw[ay] at this;exact this
  have:=E.I0 e2 hi hk;rw[M] at this;rw[this, <-hv,dk 7 _ k hk]))
 have X:(p.IH.length:Int)<=1000:=by have:=B.IH;omega
 have U:(i:Int)<(p.IH.length:Int):=oA;have b:=hid (fun W:World=>Isa.fy r 7 W);have c:=hid (fun W:World=>Isa.fy g 65535 W);have u:=hid (bal (af w.heap.size w) (.cells zK 32));have z:=hid (aP w zK 32 w.heap.size 6 rfl oD);have G:=hid (show Kp (fun k=>k=w.heap.size) (w.alloc (.cells zK 32)) ((w.alloc (.cells zK 32)).setCells w.heap.size 0 (cf 6 s)) from aM (T:=fun k=>k=w.heap.size) (.inl rfl) _ _ _ (aV _ _));have a:=hid (G.below u u.size (fun k hk e=>oA));have f:=hid (World.rangeAt_setCells_same _ w.heap.size 0 (cf 6 s) (by rw[ay];exact z));have h:=hid L;have F:=hid I;go_enter Tryz.func35,Tryz.ntmps35
 go_wp2_with fail
 refine y.mono ?_;rintro q w1 ⟨rfl,rfl⟩;go_upto_region 5 with (first|((with_reducible refine gld 32 ?_);refine uO rfl _ rfl A (i*7) rfl (cf 6 s) (ay _ _) H ?_)|((with_reducible refine gst 32 ?_);refine gQ rfl _ _ rfl w.heap.size 0 rfl (cf 6 s) rfl (ay _ _) (bQ _ _) z ?_))
 generalize World.setCells _ _ _ _=P at a f ⊢;generalize w.heap.size=Y at f ⊢;have O:=cC f (dk 6 _ 0 oA);have D:=cC f (dk 6 _ 5 oA);rw[aC] at O D;by_cases d:s 0=1
 ·have n0:(s 0==1)=true:=by simpa using d
  go_wp2_with fail
  go_ret
  exact⟨3,oD,rfl,a.out⟩
 have n0:(s 0==1)=false:=by simpa using d
 by_cases t:r<=7
 rotate_left
 ·rw[show decide ((r:Int)<0∨7<(r:Int))=true from az oA] at b;go_wp2_with fail
  refine (b.out _).mono ?_;rintro q w2 ⟨rfl,rfl⟩;go_wp2_with fail
  go_ret
  exact⟨2,oD,rfl,a.out⟩
 rw[show decide ((r:Int)<0∨7<(r:Int))=false from aw oA] at b;by_cases n:g<=65535
 rotate_left
 ·rw[show decide ((g:Int)<0∨65535<(g:Int))=true from az oA] at c;go_wp2_with fail
  refine (b.out _).mono ?_;rintro q w2 ⟨rfl,rfl⟩;go_wp2_with fail
  refine (c.out _).mono ?_;rintro q w2 ⟨rfl,rfl⟩;go_wp2_with fail
  go_ret
  exact⟨2,oD,rfl,a.out⟩
 rw[show decide ((g:Int)<0∨65535<(g:Int))=false from aw oA] at c;have K:=Nat.pos_of_ne_zero fun e=>h.out ⟨d,t,n,.inl e⟩;have R:=az oA;have S:=az K;by_cases m:s 5=0
 ·have C:s 0≠7∧s 0≠8:=⟨fun e=>h.out ⟨d,t,n,.inr ⟨.inl e,m⟩⟩,fun e=>h.out ⟨d,t,n,.inr ⟨.inr e,m⟩⟩⟩;have m7:(s 0 !=7)=true:=by simpa using C.1
  have m8:(s 0 !=8)=true:=by simpa using C.2
  rw[m] at D;go_wp2_with fail
  refine (b.out _).mono ?_;rintro q w2 ⟨rfl,rfl⟩;go_wp2_with fail
  refine (c.out _).mono ?_;rintro q w2 ⟨rfl,rfl⟩;go_wp2_with fail
  go_ret
  exact⟨4,oD,rfl,a.out⟩
 ·have Z:=az (by have:=F.out;omega);go_wp2_with fail
  refine (b.out _).mono ?_;rintro q w2 ⟨rfl,rfl⟩;go_wp2_with fail
  refine (c.out _).mono ?_;rintro q w2 ⟨rfl,rfl⟩;go_wp2_with fail
  go_ret
  exact⟨4,oD,rfl,a.out⟩
theorem uW (a b r g:Int) (p:PW) (h:p.Fits) (hl:∀l∈p.IK,l.length<=100) (i:p.IH.length=p.kinds.length*16) (e:boE p a b≠0) (W:World) (wb:Nat) (tag:Nat->Nat) (V:Nat->Value) (bt:cb W wb tag V p):
  Calls Tryz.prog 35 #[.pointer (some ⟨wb,0,none⟩),.int .i64 a,.int .i64 b,.int .i64 r,.int .i64 g] W fun x d=>x=.returned (.int .i64 (boE p a b))∧d=W:=by
 have c:=hid (lX wb V p a b W (bt.view h hl) i);have f:(boE p a b !=0)=true:=by simpa using e
 generalize boE p a b=x at c f ⊢;go_enter Tryz.func35,Tryz.ntmps35
 go_wp2_with fail
 refine c.mono ?_;rintro q w1 ⟨rfl,rfl⟩;go_wp2_with fail
 go_ret
 exact⟨rfl,rfl⟩
end Wd
namespace Wd
open Go.RowKit Mem Bw Nums Mmu
theorem nm (a:Int) (p:PW) (i:p.Fits) (hl:∀l∈p.IK,l.length<=100) (m:Snd p) (W:World) (wb:Nat) (tag:Nat->Nat) (V:Nat->Value) (bt:cb W wb tag V p):
  Calls Tryz.prog 40 #[.pointer (some ⟨wb,0,none⟩),.int .i64 a] W fun x g=>x=.returned (.int .i64 (srE p a))∧∃tag',Kt tag tag' W g∧(srE p a=0->∃z,cb g wb tag' z (srP p a))∧(srE p a≠0->g=W):=by
 have d:=hid (ke wb V p a W (bt.view i hl));by_cases c:thE p a 6=0
 rotate_left
 ·have b:=hid (show srE p a=thE p a 6 from ae c);have A:(thE p a 6 !=0)=true:=by simpa using c
  rw[b.out];have j:=hid c;generalize thE p a 6=x at d A j ⊢;go_enter Tryz.func40,Tryz.ntmps40
  go_wp2_with fail
  refine d.mono ?_;rintro q w1 ⟨rfl,rfl⟩;go_wp2_with fail
  go_ret
  exact⟨rfl,tag,ew _ _,fun h=>(absurd h j),fun _=>rfl⟩
 obtain⟨t,n,rfl,hk⟩:=uH c;rw[c] at d;have r:t<p.II.length:=by rw[m.lf.II];exact n
 obtain⟨J,I,k⟩:=bt.o.II.form oA;have H:=bD bt k;have G:=bt.IS k r (show 9<20 by omega);have M:(t:Int)<(p.II.length:Int):=oA;have L:(p.II.length:Int)<=1000:=by have:=i.II;omega
 obtain⟨D,E,F,r4⟩:=m9 m n hk;have w:=hid (gN wb tag V p t (rdN p t) W bt i r D F r4 E);have f:=hid (show srE p t=if p.II.getD t bl 9=0 then 0 else 7 by unfold srE;rw[ag c,ah]);have v:=hid (show srP p t=wnP p t (rdN p t) by unfold srP;rw[ah]);generalize p.II.getD t bl 9=y at G f;by_cases e:y=0
 ·have b:=hid (f.trans (ag e));subst e;rw[b.out];go_enter Tryz.func40,Tryz.ntmps40
  go_wp2_with fail
  refine d.mono ?_;rintro q w1 ⟨rfl,rfl⟩;go_wp2_with fail
  refine w.mono ?_;rintro q w2 ⟨rfl,tag',B,C⟩;have s:=hid B;have u:=hid C;go_wp2_with fail
  go_ret
  exact⟨rfl,tag',u.out,fun _=>⟨V,by rw[v.out];exact s⟩,fun h=>absurd (by first|rfl|assumption|exact b) h⟩
 ·have b:=hid (f.trans (ae e));have K:(y !=0)=true:=by simpa using e
  rw[b.out];go_enter Tryz.func40,Tryz.ntmps40
  go_wp2_with fail
  refine d.mono ?_;rintro q w1 ⟨rfl,rfl⟩;go_wp2_with fail
  go_ret
  exact⟨rfl,tag,ew _ _,fun h=>(by cases h),fun _=>rfl⟩
theorem p5 (a:Int) (p:PW) (g:p.Fits) (hl:∀l∈p.IK,l.length<=100) (s:Snd p) (W:World) (wb:Nat) (tag:Nat->Nat) (V:Nat->Value) (bt:cb W wb tag V p):
  Calls Tryz.prog 240 #[.pointer (some ⟨wb,0,none⟩),.int .i64 a] W fun x d=>x=.returned (.int .i64 (thE p a 6))∧∃tag',Kt tag tag' W d∧(thE p a 6=0->∃m,cb d wb tag' m (stP p a.toNat))∧(thE p a 6≠0->d=W):=by
 have c:=hid (ke wb V p a W (bt.view g hl));by_cases b:thE p a 6=0
 rotate_left
 ·have n:(thE p a 6==0)=false:=by simpa using b
  have f:=hid b;generalize thE p a 6=x at c n f ⊢;go_enter Tryz.func240,Tryz.ntmps240
  go_wp2_with fail
  refine c.mono ?_;rintro q w1 ⟨rfl,rfl⟩;go_wp2_with fail
  go_ret
  exact⟨rfl,tag,ew _ _,fun h=>(absurd h f),fun _=>rfl⟩
 obtain⟨t,u,rfl,hk⟩:=uH b;rw[b] at c;have k:=hid (j9 wb tag V p t W bt g (by rw[s.lf.II];exact u));have e:=hid b;rw[ah];go_enter Tryz.func240,Tryz.ntmps240
 go_wp2_with fail
 refine c.mono ?_;rintro q w1 ⟨rfl,rfl⟩;go_wp2_with fail
 refine k.mono ?_;rintro q w2 ⟨rfl,tag',o,r⟩;have i:=hid o;have j:=hid r;go_wp2_with fail
 go_ret
 exact⟨by rw[e.out];rfl,tag',j.out,fun _=>⟨V,i.out⟩,fun h=>absurd (by first|rfl|assumption|exact e) h⟩
theorem nM (a b:Int) (p:PW) (f:p.Fits) (hl:∀l∈p.IK,l.length<=100) (J:Snd p) (W:World) (wb:Nat) (tag:Nat->Nat) (V:Nat->Value) (bt:cb W wb tag V p):
  Calls Tryz.prog 41 #[.pointer (some ⟨wb,0,none⟩),.int .i64 a,.int .i64 b] W fun x W'=>x=.returned (.int .i64 (rkE p a b))∧∃tag',Kt tag tag' W W'∧(rkE p a b=0->∃V',cb W' wb tag' V' (rkP p a b))∧(rkE p a b≠0->W'=W):=by
 have E:=hid (ke wb V p a W (bt.view f hl));by_cases B:thE p a 6=0
 rotate_left
 ·have HE:=hid (show rkE p a b=thE p a 6 from ae B);have aE:(thE p a 6 !=0)=true:=by simpa using B
  rw[HE.out];have HN:=hid B;generalize thE p a 6=x at E aE HN ⊢;go_enter Tryz.func41,Tryz.ntmps41
  go_wp2_with fail
  refine E.mono ?_;rintro q w1 ⟨rfl,rfl⟩;go_wp2_with fail
  go_ret
  exact⟨rfl,tag,ew _ _,fun h=>(absurd h HN),fun _=>rfl⟩
 obtain⟨t,ht,rfl,hk⟩:=uH B;rw[B] at E;have P:=hid (show rkE p t b=if ek 0 3 b then 0 else 2 by unfold rkE;rw[ag B]);have Q:=hid (fy b 3 W)
 cases C:ek 0 3 b with
 |false=>
  rw[C,ae oD] at P;have af:decide (b<0∨3<b)=true:=az (by have:=dh C;omega);rw[af] at Q;rw[P.out];go_enter Tryz.func41,Tryz.ntmps41
  go_wp2_with fail
  refine E.mono ?_;rintro q w1 ⟨rfl,rfl⟩;go_wp2_with fail
  refine Q.mono ?_;rintro q w1 ⟨rfl,rfl⟩;go_wp2_with fail
  go_ret
  exact⟨rfl,tag,ew _ _,fun h=>(by cases h),fun _=>rfl⟩
 |true=>
 rw[C,ag rfl] at P;have aQ:=aA C;have af:decide (b<0∨3<b)=false:=aw oA;rw[af] at Q;rw[P.out];have ab:t<p.II.length:=by rw[J.lf.II];exact ht
 obtain⟨g3,cap3,G⟩:=bt.o.II.form oA;have E3:=hid G;have an:=hid ab;have aZ:(t:Int)<(p.II.length:Int):=oA;have aW:(p.II.length:Int)<=1000:=by have:=f.II;omega
 have aX:(p.ready.length:Int)<=1000:=by have:=f.ready;omega
 have am:=hid f.next;have B0:=hid bt;have ah:=hid (Dd J ht hk b);have LT:=ap p t 10 b;have O:=ia p t 10 18 b ab oD;have N:(p.task t 10 b).II.getD t bl 10=b:=by rw[gM p t 10 10 b ab,ag rfl]
 obtain⟨_,_,aP,_⟩:=rm (iY J ht hk).1;have aR:=J.lf.c2;have r1:rdN (p.task t 10 b) t<p.ready.length:=by
  unfold rdN;rw[O,N,J.lf.ready];omega
 have r2:(p.task t 10 b).II.getD t bl 18*4+(p.task t 10 b).II.getD t bl 10=(rdN (p.task t 10 b) t:Int):=by
  unfold rdN;rw[O,N];omega
 have Z:(({p with ready:=lvs t p.ready}:PW).task t 10 b).Fits:=⟨f.IL,f.kinds,f.IH,by rw[ap];exact f.II,f.lines,f.line,f.bits,f.IJ,by show (lvs t p.ready).length<=1000;rw[mX];exact f.ready,fun l hm=>by
  have d:=hm;unfold lvs at d;obtain⟨l0,h2,rfl⟩:=List.mem_map.1 d;exact aB (cW _ _) (f.next l0 h2),f.IK,f.IQ⟩
 have HW:=hid (fun X tg (h:cb X wb tg V (({p with ready:=lvs t p.ready}:PW).task t 10 b))=>gN wb tg V (({p with ready:=lvs t p.ready}:PW).task t 10 b) t (rdN (p.task t 10 b) t) X h Z (by rw[ap];exact ab) (by show rdN (p.task t 10 b) t<(lvs t p.ready).length;rw[mX];exact r1) ⟨by show 0<=(p.task t 10 b).II.getD t bl 18;rw[O];omega,by show (p.task t 10 b).II.getD t bl 18<=1000;rw[O];omega⟩ ⟨by show 0<=(p.task t 10 b).II.getD t bl 10;rw[N];omega,by show (p.task t 10 b).II.getD t bl 10<=1000;rw[N];omega⟩ r2);go_enter Tryz.func41,Tryz.ntmps41
 go_wp2_with fail
 refine E.mono ?_;rintro q w1 ⟨rfl,rfl⟩;go_wp2_with fail
 refine Q.mono ?_;rintro q w1 ⟨rfl,rfl⟩;go_wp2_with fail
 go_loopw [8,9] (fun s i wr=>∃(k:Nat) (tg:Nat->Nat),k<=p.ready.length∧s=.bool (decide (0<cna t (p.ready.take k)))∧i=.int .i64 k∧Hid (cb wr wb tg V {p with ready:=eY (dz fun x=>x==(t:Int)) k p.ready})∧Hid (Kt tag tg W wr)) (fun _ i _=>p.ready.length - (intOf i).toNat)
 case atStart=>exact⟨0,tag,oA,rfl,rfl,hid (by rw[fi];exact B0),hid (ew _ _)⟩
 case round=>
  obtain⟨k,tg,aV,rfl,rfl,A,HK⟩:=hrel;obtain⟨g,eL⟩:=A.o.ready.form;have D:=hid (eL.trans (dF (fun m=>Value.slice (some ⟨g,0,none⟩) m m) (cM _ _ _)));have U:=hid (show fx wr tg 9 13 22 3 1 p.ready.length (.slice (some ⟨g,0,none⟩) p.ready.length p.ready.length) (ci (eY (dz fun x=>x==(t:Int)) k p.ready)) by
   have d:=A.o.ready;simp only at d;rw[cM,D.out] at d;exact d)
  have cl:=bD A D;by_cases y:k<p.ready.length
  ·have aY:(k:Int)<(p.ready.length:Int):=oA;have F:=hid (show decide (0<cna t (p.ready.take (k+1)))=(decide (0<cna t (p.ready.take k))||inB t p.ready[k]) by
    have d:cna t (p.ready.take (k+1))=cna t (p.ready.take k)+cn t p.ready[k]:=jN (cn t) y;unfold inB;rw[d,cY];simp only[bg,cF];omega)
   obtain⟨ux,aL,aJ⟩:=U.at (j:=k) y;have ax:=hid (show ed wr ux p.ready[k] by
    have H:k<(eY (dz fun x=>x==(t:Int)) k p.ready).length:=by rw[cM];exact y
    have d:=aJ.1;unfold ci at d;rw[aa,ac H,aT,d9 _ _ _ y H] at d;exact dN d)
   have al:=hid (AV ux p.ready[k] t wr ax (am.out _ (av y)));generalize decide (0<cna t (p.ready.take k))=sb at F ⊢;generalize aU:inB t p.ready[k]=ic at F al
   cases sb
   case' true=>
    rw[Bool.true_or] at F;go_wp2_with fail
   case' false=>
    rw[eU] at F;go_wp2_with fail
    refine al.mono ?_;rintro r0 w0 ⟨rfl,rfl⟩;go_wp2_with fail
   all_goals
    obtain⟨u,cu,hu⟩:=U.at (j:=k) y;have au:=hid (show ci (eY (dz fun x=>x==(t:Int)) k p.ready) k=(p.ready[k].length,dU p.ready[k]) by
     have H:k<(eY (dz fun x=>x==(t:Int)) k p.ready).length:=by rw[cM];exact y
     unfold ci;rw[aa,ac H,aT,d9 _ _ _ y H])
    rw[au.out] at hu;have HU:=hid (dN hu.1);have aC:=hid (am.out _ (av y));have ar:=hid (fun X (h:Below wr.heap.size wr X)=>(U.kp (T:=fun _=>False) (.IM h) (fun _ _=>rfl) (fun _ _ e=>e)).fr k);have KS:=hid (fun X (h:Below wr.heap.size wr X)=>show X.cell? ⟨wb,7,none⟩=some (.slice (some ⟨g,0,none⟩) p.ready.length p.ready.length) by rw[ai (A.below h).r (k:=7) rfl,D.out]);have KR:=hid (fun X (h:Below wr.heap.size wr X)=>(h.cell (aj _ _ cu)).trans cu);have L:=hid (aD wr 1);have aq:=hid (fun X v (h:Below wr.heap.size wr X) (I:X.ownsRow wr.heap.size 3 1 v ((dz fun x=>x==(t:Int)) p.ready[k]).length (dU ((dz fun x=>x==(t:Int)) p.ready[k])))=>show cb (X.setCell ⟨g,k,none⟩ v) wb (gR tg wr.heap.size (13+3*k)) V {p with ready:=eY (dz fun x=>x==(t:Int)) (k+1) p.ready}∧Kt tag (gR tg wr.heap.size (13+3*k)) W (X.setCell ⟨g,k,none⟩ v) from by
     obtain⟨aI,Z⟩:=U.put (tag':=gR tg wr.heap.size (13+3*k)) (w1:=X) (u:=v) (c:=(((dz fun x=>x==(t:Int)) p.ready[k]).length,dU ((dz fun x=>x==(t:Int)) p.ready[k]))) (j:=k) y (fun j=>oA) (.IM h) (fun k hk=>dO hk) ⟨I.mono (bP _),fun j e=>by
      unfold gR;rw[ae (by have:=(I.lt j e).1;omega)]⟩
     refine⟨A.ready Z (fun k hk=>dO hk) ?_,HK.trans (Kt.of (tag':=gR tg wr.heap.size (13+3*k)) Z (fun k e=>by rcases e with e|⟨j,e⟩<;>omega) (fun k hk=>dO hk))⟩;rw[cM,D.out,eA _ _ _ y,kz _ _ (by rw[cM];exact y)];exact aI)
    refine ei (S:=fun X=>X.cell? ⟨wb,7,none⟩=some (.slice (some ⟨g,0,none⟩) p.ready.length p.ready.length)) (R:=fun X=>X.cell? ⟨g,k,none⟩=some u) [15] oK (KS.out _ L) (KR.out _ L) (fun aG aF=>?_);have w:=hid aG;have n:=hid aF;refine tF 0 (.pointer (some ⟨wb,0,none⟩)) rfl w (fun _=>n.out) ?_;simp only[jj];refine tF 1 (.pointer (some ⟨wb,0,none⟩)) rfl w (fun _=>n.out) ?_;simp only[jj];refine tF 2 (.pointer (some ⟨wb,7,none⟩)) rfl w (fun _=>n.out) ?_;simp only[jj];refine tG 3 (.slice (some ⟨g,0,none⟩) p.ready.length p.ready.length) rfl w (fun _=>n.out) ?_;simp only[jj];refine tF 4 (.int .i64 k) rfl w (fun _=>n.out) ?_;simp only[jj];refine tF 5 (.pointer (some ⟨wb,0,none⟩)) rfl w (fun _=>n.out) ?_;simp only[jj];refine tF 6 (.pointer (some ⟨wb,0,none⟩)) rfl w (fun _=>n.out) ?_;simp only[jj];refine tF 7 (.pointer (some ⟨wb,7,none⟩)) rfl w (fun _=>n.out) ?_;simp only[jj];refine tG 8 (.slice (some ⟨g,0,none⟩) p.ready.length p.ready.length) rfl w (fun _=>n.out) ?_;simp only[jj];refine tF 9 (.int .i64 k) rfl w (fun _=>n.out) ?_;simp only[jj];refine tF 10 (.pointer (some ⟨g,k,none⟩)) rfl w (fun _=>n.out) ?_;simp only[jj];refine eZ (i:=11) (v:=u) rfl oK oK oK oK oK oK (fun _ _ _ h=>h) (Or.inl ⟨oR,fun W h=>by have h3:=h.2;clear h;go_simp⟩) w (fun _=>n.out) ?_;simp only[jj];refine tF 12 (.int .i64 t) rfl w (fun _=>n.out) ?_;simp only[jj];refine Wd.r1 13 rfl (fun K hK=>?_);go_simp
    refine (kg u p.ready[k] t _ (HU.below L) aC).mono ?_;rintro r w1 ⟨v,rfl,I,C⟩;obtain⟨qv,cv,rfl⟩:=eJ I;have z:=hid (btr L C);have HO:=hid I;go_wp2_with fail
    refine hK _ _ (KS.out _ z) (fun _=>KR.out _ z) (fun _ _=>?_)
    try simp only[Act.put,jD,jE,jF]
    have S1:=hid (KS.out _ z);have R1:=hid (KR.out _ z);refine tF 14 (.pointer (some ⟨g,k,none⟩)) rfl S1 (fun _=>R1.out) ?_;simp only[jj];have aM:=S1.out;have aK:=R1.out;have aO:=ar.out _ z;obtain⟨ao,aH⟩:=aq.out w1 _ z HO;have B6:=hid ao;have K6:=hid aH;have S6:=hid (show (w1.setCell ⟨g,k,none⟩ (.slice qv ((dz fun x=>x==(t:Int)) p.ready[k]).length cv)).cell? ⟨wb,7,none⟩=some (.slice (some ⟨g,0,none⟩) p.ready.length p.ready.length) by rw[ai ao.r (k:=7) rfl,D.out]);refine Wd.r1 15 rfl (fun K hK=>?_);go_simp
    refine hK _ _ S6 (fv oK) (fun _ _=>?_)
    try simp only[Act.put]
    refine ec oK ?_ _;generalize World.setCell _ _ _=W6 at*;go_wp2_with fail
    exact⟨⟨k+1,_,oA,by rw[F.out],by go_num,B6,K6⟩,by simp[intOf];omega⟩
  ·obtain rfl:k=p.ready.length:=oA;have aS:¬((p.ready.length:Int)<(p.ready.length:Int)):=oA;have M:=hid (show cb wr wb tg V {p with ready:=lvs t p.ready} by
    have d:=A.out;rw[show eY (dz fun x=>x==(t:Int)) p.ready.length p.ready=lvs t p.ready from fF _ _] at d;exact d)
   rw[cO];have G:V 3=.slice (some ⟨g3,0,none⟩) ({p with ready:=lvs t p.ready}:PW).II.length cap3:=E3.out;have c3:=bD M E3;have a0:=M.IS G an (show 10<20 by omega);have aN:=M.IT G (t*20+10);obtain⟨b1,k1⟩:=M.task G an (show 10<20 by omega) b;have B1:=hid b1;have K1:=hid (HK.trans k1);by_cases Y:0<cna t p.ready
   ·have ad:=hid (show rkP p t b=wnP (({p with ready:=lvs t p.ready}:PW).task t 10 b) t (rdN (p.task t 10 b) t) by rw[<-ah.out];exact ag Y);rw[az Y];go_upto_region 13 with fail
    generalize World.setCell _ _ _=W1 at*;have ay:=hid (HW.out W1 tg B1);go_wp2_with fail
    refine ay.mono ?_;rintro q w2 ⟨rfl,tag',d,h2⟩;have H1:=hid d;have H2:=hid h2;go_wp2_with fail
    go_ret
    exact⟨rfl,tag',K1.trans H2,fun _=>⟨V,by rw[ad.out];exact H1⟩,fun h=>absurd (by first|rfl|assumption|exact HE) h⟩
   ·have ad:=hid (show rkP p t b=({p with ready:=lvs t p.ready}:PW).task t 10 b by rw[<-ah.out];exact ae Y);rw[aw Y];go_upto_region 13 with fail
    generalize World.setCell _ _ _=W1 at*;go_wp2_with fail
    go_ret
    exact⟨rfl,tg,K1.out,⟨V,by rw[ad.out];exact B1⟩⟩
theorem tS {S:List (Nat->Int)} {i:Nat} (hi:i<S.length):fro S i=S[i] 6:=by
 unfold fro;rw[ag oA,ah,aa,ac hi];rfl
theorem vF {r:Nat->Nat} {S:List (Nat->Int)} (h:Up r S) {i:Nat} (hi:i<S.length):S[i] 6= -1∨∃u:Nat,S[i] 6=u∧u<S.length∧r u<r i:=by
 have e:S.getD i eS=S[i]:=by rw[aa,ac hi];rfl
 rw[<-e];exact h.fr i
theorem mR {r:Nat->Nat} (vb:Nat) (V:Nat->Value) (p:PW) (i t:Nat) (w:World) (hv:d6 w vb V p) (n:Up r p.IH) (hi:i<p.IH.length):
  Calls Tryz.prog 112 #[.pointer (some ⟨vb,0,none⟩),.int .i64 i,.int .i64 t] w fun x w'=>x=.returned (.bool (unB p.IH t i))∧w=w':=by
 have c2:w.cell? ⟨vb,2,none⟩=some (V 2):=ai hv.r rfl;obtain⟨q,b,off,cap,e2,A,s⟩:=hv.v.IH;have E:=A oA;subst E;have H:(i:Int)<(p.IH.length:Int):=oA;have c6:=cC (s i hi) (dk 7 _ 6 oA);have m:=hid (show (UnS p.IH t (fro p.IH i)↔UnS p.IH t (p.IH[i] 6))∧(p.IH[i] 6= -1∨∃j:Nat,p.IH[i] 6=j∧j<p.IH.length) by
  refine⟨by rw[tS hi],?_⟩;rcases vF n hi with h|⟨u,h,g, -⟩
  ·exact .inl h
  ·exact .inr ⟨u,h,g⟩)
 generalize p.IH[i] 6=G at c6 m;have C:=hid s;have f:=hid n;clear hv A s n hi;go_enter Tryz.func112,Tryz.ntmps112
 go_wp2_with fail
 clear c6
 go_loopw [7] (fun v wr=>∃y:Int,v=.int .i64 y∧Hid ((UnS p.IH t (fro p.IH i)↔UnS p.IH t y)∧(y= -1∨∃j:Nat,y=j∧j<p.IH.length))∧Hid (w=wr)) (fun v _=>if intOf v<0 then 0 else r (intOf v).toNat+1)
 case atStart=>exact⟨G,rfl,m,hid rfl⟩
 case round=>
  obtain⟨y,rfl,a,B⟩:=hrel;obtain rfl:=B.out;clear m;rcases a.2 with o|⟨j,o,l⟩
  ·subst o;have D:((-1:Int) != -1)=false:=rfl;have c:=hid (show unB p.IH t i=false by
    cases e:unB p.IH t i with
    |false=>rfl
    |true=>exact absurd (a.1.1 ((ie f t i).1 e)) jx)
   clear a;go_wp2_with fail
   go_ret
   exact⟨by rw[c.out];rfl,rfl⟩
  ·subst o;have D:((j:Int) != -1)=true:=bne_iff_ne.2 oA;by_cases d:(j:Int)=t
   ·have F:((j:Int)==(t:Int))=true:=bz.2 d;have c:=hid (show unB p.IH t i=true from (ie f t i).2 (a.1.2 (by rw[d];exact mh)));clear a d;go_wp2_with fail
    go_ret
    exact⟨by rw[c.out];rfl,rfl⟩
   ·have F:((j:Int)==(t:Int))=false:=beq_eq_false_iff_ne.2 d;have I:(j:Int)<(p.IH.length:Int):=oA;have c7:=cC (C.out j l) (dk 7 _ 6 oA);have c:=hid (show ((UnS p.IH t (fro p.IH i)↔UnS p.IH t (p.IH[j] 6))∧(p.IH[j] 6= -1∨∃k:Nat,p.IH[j] 6=k∧k<p.IH.length))∧(if p.IH[j] 6<0 then 0 else r (p.IH[j] 6).toNat+1)<r j+1 by
     refine⟨⟨a.1.trans (by rw[jP d,tS l]),?_⟩,?_⟩
     ·rcases vF f l with h|⟨u,h,g, -⟩
      ·exact .inl h
      ·exact .inr ⟨u,h,g⟩
     ·rcases vF f l with h|⟨u,h, -,g⟩
      ·rw[h,ag oD];omega
      ·rw[h,ae oA,ah];omega)
    generalize p.IH[j] 6=z at c7 c;clear a d;go_wp2_with fail
    refine⟨⟨z,rfl,hid c.1,hid oS⟩,?_⟩;show (if z<0 then 0 else r z.toNat+1)<(if (j:Int)<0 then 0 else r (j:Int).toNat+1)
    rw[ae (show ¬(j:Int)<0 by omega),ah];exact c.2
theorem qZ {r:Nat->Nat} (vb:Nat) (V:Nat->Value) (p:PW) (i t:Nat) (w:World) (hv:d6 w vb V p) (o:Up r p.IH) (hi:i<p.IH.length):
  Calls Tryz.prog 176 #[.pointer (some ⟨vb,0,none⟩),.int .i64 i,.int .i64 t] w fun x w'=>x=.returned (.bool (unB p.IH t i))∧w=w':=by
 have c2:=r11 2 hv.r;obtain⟨q,b,off,cap,e2,D,s⟩:=hv.v.IH;have E:=D oA;subst E;have H:(i:Int)<(p.IH.length:Int):=oA;have c6:=cC (s i hi) (dk 7 _ 6 oA);have n:=hid (show (UnS p.IH t (fro p.IH i)↔UnS p.IH t (p.IH[i] 6))∧(p.IH[i] 6= -1∨∃j:Nat,p.IH[i] 6=j∧j<p.IH.length) by
  refine⟨by rw[tS hi],?_⟩;rcases vF o hi with h|⟨u,h,f, -⟩
  ·exact .inl h
  ·exact .inr ⟨u,h,f⟩)
 generalize p.IH[i] 6=G at c6 n;have B:=hid s;have d:=hid o;go_enter Tryz.func176,Tryz.ntmps176
 go_wp2_with fail
 go_loopw [1] (fun v wr=>∃y:Int,v=.int .i64 y∧Hid ((UnS p.IH t (fro p.IH i)↔UnS p.IH t y)∧(y= -1∨∃j:Nat,y=j∧j<p.IH.length))∧Hid (w=wr)) (fun v _=>if intOf v<0 then 0 else r (intOf v).toNat+1)
 case atStart=>exact⟨G,rfl,n,hid rfl⟩
 case round=>
  obtain⟨y,rfl,c,A⟩:=hrel;obtain rfl:=A.out;rcases c.2 with m|⟨j,m,g⟩
  ·subst m;have C:¬((0:Int)<= -1):=oA;have a:=hid (show unB p.IH t i=false by
    cases e:unB p.IH t i with
    |false=>rfl
    |true=>exact absurd (c.1.1 ((ie d t i).1 e)) jx)
   go_wp2_with fail
   go_ret
   exact⟨by rw[a.out];rfl,rfl⟩
  ·subst m;have C:(0:Int)<=(j:Int):=oA;by_cases l:(j:Int)=t
   ·have F:=bz.2 l;have a:=hid ((ie d t i).2 (c.1.2 (by rw[l];exact mh)));go_wp2_with fail
    go_ret
    exact⟨by rw[a.out];rfl,rfl⟩
   ·have F:=beq_eq_false_iff_ne.2 l;have I:(j:Int)<(p.IH.length:Int):=oA;have c7:=cC (B.out j g) (dk 7 _ 6 oA);have a:=hid (show ((UnS p.IH t (fro p.IH i)↔UnS p.IH t (p.IH[j] 6))∧(p.IH[j] 6= -1∨∃k:Nat,p.IH[j] 6=k∧k<p.IH.length))∧(if p.IH[j] 6<0 then 0 else r (p.IH[j] 6).toNat+1)<r j+1 by
     refine⟨⟨c.1.trans (by rw[jP l,tS g]),?_⟩,?_⟩
     ·rcases vF d g with h|⟨u,h,f, -⟩
      ·exact .inl h
      ·exact .inr ⟨u,h,f⟩
     ·rcases vF d g with h|⟨u,h, -,f⟩
      ·rw[h,ag oD];omega
      ·rw[h,ae oA,ah];omega)
    generalize p.IH[j] 6=z at c7 a;go_wp2_with fail
    refine⟨⟨z,rfl,hid a.1,hid oS⟩,?_⟩;show (if z<0 then 0 else r z.toNat+1)<(if (j:Int)<0 then 0 else r (j:Int).toNat+1)
    rw[ae (show ¬(j:Int)<0 by omega),ah];exact a.2
theorem kF {r:Nat->Nat} (vb:Nat) (V:Nat->Value) (p:PW) (t:Nat) (w:World) (hv:d6 w vb V p) (d:Up r p.IH):
  Calls Tryz.prog 83 #[.pointer (some ⟨vb,0,none⟩),.int .i64 t] w fun x w'=>x=.returned (.int .i64 (luF p.IH t p.IH.length))∧w=w':=by
 have c2:w.cell? ⟨vb,2,none⟩=some (V 2):=ai hv.r rfl;obtain⟨q,b,off,cap,e2, -, -⟩:=hv.v.IH;have hl:(p.IH.length:Int)<=1000:=by have:=hv.f.IH;omega
 have h:=hid (fun (i:Nat) (hi:i<p.IH.length)=>mR vb V p i t w hv d hi);clear hv d;go_enter Tryz.func83,Tryz.ntmps83
 go_wp2_with fail
 clear c2 e2
 go_loopw [5] (fun v wr=>∃(k:Nat) (z:Int),v=.int .i64 z∧z=(k:Int) - 1∧k<=p.IH.length∧Hid (luF p.IH t p.IH.length=luF p.IH t k)∧Hid (w=wr)) (fun v _=>(intOf v+1).toNat)
 case atStart=>exact⟨p.IH.length,_,rfl,by first|rfl|go_num,aq _,hid rfl,hid rfl⟩
 case round=>
  obtain⟨k,z,rfl,g,hk,c,j⟩:=hrel;obtain rfl:=j.out
  cases k with
  |zero=>
   obtain rfl:z= -1:=oA;have l:¬((0:Int)<= -1):=oA;have a:=hid (show luF p.IH t p.IH.length= -1 from c);clear c g;go_wp2_with fail
   go_ret
   exact⟨by rw[a.out];rfl,rfl⟩
  |succ k=>
   obtain rfl:z=(k:Int):=oA;have l:(0:Int)<=(k:Int):=oA;have a:=hid (c.trans (show luF p.IH t (k+1)=if unB p.IH t k=true then (k:Int) else luF p.IH t k from rfl));clear c g;go_wp2_with fail
   refine (h.out k oA).mono ?_;rintro x w1 ⟨rfl,rfl⟩
   cases e:unB p.IH t k with
   |true=>
    rw[e,ag rfl] at a;clear e;go_wp2_with fail
    go_ret
    exact⟨by rw[a.out];rfl,rfl⟩
   |false=>
    rw[e,ae oD] at a;clear e;go_wp2_with fail
    exact⟨⟨k,_,rfl,by go_num,oA,a,hid oS⟩,by simp[intOf]⟩
theorem xF (S:List (Nat->Int)) (t n:Nat):(mdL S t n).length<=n:=by
 unfold mdL;rw[bL];exact aB (cW _ _) (by rw[List.length_range];exact aq _)
theorem AJ {w wr:World} {zs:List Int} {y:Int} {h:Option Addr} {cu:Nat} (hB:Below w.heap.size w wr) (hl:zs.length<=1000) (f:wr.ownsRow w.heap.size 3 1 (.slice h zs.length cu) zs.length (dU zs)):
  ∃q c w',(Builtin.append_ #[22,22] 22 #[.slice h zs.length cu,.slice (some ⟨wr.heap.size,0,none⟩) 1 1]).run Tryz.prog (wr.alloc (.cells #[.int .i64 y] 3))=.ok (.slice q (zs.length+1) c) w'∧w'.ownsRow w.heap.size 3 1 (.slice q (zs.length+1) c) (zs++[y]).length (dU (zs++[y]))∧Below w.heap.size w w':=by
 have b:=bal (af wr.heap.size wr) (.cells #[.int .i64 y] 3);have g:=aB hB.size b.size;obtain⟨i,hi,p,n,o⟩:=fj kD;obtain⟨r,w',m,d,l,_⟩:=run_append_own (P:=Tryz.prog) (wr.alloc (.cells #[.int .i64 y] 3)) w.heap.size 22 22 3 i (.int .i64 0) 1 8 Tryz.underlying22 hi p n o rfl oD _ _ _ (fI f b) ⟨wr.heap.size,0,none⟩ 1 1 [.int .i64 y] rfl (fun j v a=>by
  match j,a with
  |0,a=>cases a;exact cq wr #[.int .i64 y] 3 0
  |j+1,a=>simp at a) (Fb y) (by unfold maxLen;omega) oA g
 obtain⟨q,c,rfl⟩:=eJ d;have e:dU zs++[Value.int .i64 y]=dU (zs++[y]):=by unfold dU;simp
 exact⟨q,c,w',m,by rw[<-e,ax];exact d,(btr hB b).grown l g (fun k hk=>(f.lt k hk).1)⟩
theorem t8 {r:Nat->Nat} (vb:Nat) (V:Nat->Value) (p:PW) (t:Nat) (w:World) (hv:d6 w vb V p) (N:Up r p.IH):
  Calls Tryz.prog 122 #[.pointer (some ⟨vb,0,none⟩),.int .i64 t] w fun x w'=>∃v,x=.returned v∧ed w' v (mdL p.IH t p.IH.length)∧Below w.heap.size w w':=by
 have hl:(p.IH.length:Int)<=1000:=by have:=hv.f.IH;omega
 have G:=hid hv;have l:=hid N;obtain⟨q,b,off,cap,e2,K, -⟩:=hv.v.IH;have P:=hid K;go_enter Tryz.func122,Tryz.ntmps122
 go_wp2_with fail
 go_loopw [5,6] (fun u i wr=>∃(k:Nat) (c:Option Addr) (cu:Nat),k<=p.IH.length∧i=.int .i64 k∧u=.slice c (mdL p.IH t k).length cu∧Hid (wr.ownsRow w.heap.size 3 1 (.slice c (mdL p.IH t k).length cu) (mdL p.IH t k).length (dU (mdL p.IH t k)))∧Hid (Below w.heap.size w wr)) (fun _ i _=>p.IH.length - (intOf i).toNat)
 case atStart=>exact⟨0,none,0,oA,rfl,rfl,hid (ct _ _ _ _),hid (af _ _)⟩
 case round=>
  obtain⟨k,c,cu,hk,rfl,rfl,g,d⟩:=hrel;have h:=hid (G.below d);have c2:=r11 2 h.r;by_cases n:k<p.IH.length
  ·have U:(k:Int)<(p.IH.length:Int):=oA;obtain⟨o,Q,W,R,S,B,C⟩:=h.v.IH;have L:=B oA;subst L;have c0:=hV (C k n) (dk 7 _ 0 oA);have z:=hid (show (mdL p.IH t k).length<=1000 from aB (xF _ _ _) oA);have a:=hid (pH p.IH t k);have s:=hid (qZ vb V p k t wr h l n);have m:=hid (show p.IH[k] 0=0->unB p.IH t k=false from fun H=>by
    cases e:unB p.IH t k with
    |false=>rfl
    |true=>exact absurd (show (p.IH.getD k eS) 0=0 by rw[gI n];exact H) (mg l ((ie l t k).1 e)))
   generalize p.IH[k] 0=y at c0 m;clear B C h e2;generalize mdL p.IH t k=zs at g z a ⊢;by_cases j:y=0
   ·rw[m.out j,ae oD,dJ] at a;have O:(y !=0)=false:=by simpa using j
    clear j m s;go_wp2_with fail
    refine⟨⟨k+1,c,cu,oA,by go_num,by rw[a.out],hid (by rw[a.out];exact g),d⟩,by simp[intOf];omega⟩
   ·have O:(y !=0)=true:=by simpa using j
    go_wp2_with fail
    refine s.mono ?_;rintro x w1 ⟨rfl,rfl⟩
    cases e:unB p.IH t k with
    |false=>
     rw[e,ae oD,dJ] at a;go_wp2_with fail
     refine⟨⟨k+1,c,cu,oA,by go_num,by rw[a.out],hid (by rw[a.out];exact g),d⟩,by simp[intOf];omega⟩
    |true=>
     rw[e,ag rfl] at a;obtain⟨o,A,w',M,I,J⟩:=AJ (y:=(k:Int)) d z g;have F:=hid M;have E:=hid I;have D:=hid J;go_wp2_with (first|(at_builtin;refine fD rfl _ _ 22 rfl (.slice c zs.length cu) (.slice (some ⟨wr.heap.size,0,none⟩) 1 1) (.slice o (zs.length+1) A) rfl rfl F ?_))
     exact⟨⟨k+1,o,A,oA,by go_num,by rw[a.out,ax];rfl,hid (by rw[a.out];have:=E.out;rw[ax] at this ⊢;exact this),D⟩,by simp[intOf];omega⟩
  ·obtain rfl:k=p.IH.length:=oA;have T:¬((p.IH.length:Int)<(p.IH.length:Int)):=oA;go_wp2_with fail
   go_ret
   exact⟨_,rfl,dN g,d.out⟩
