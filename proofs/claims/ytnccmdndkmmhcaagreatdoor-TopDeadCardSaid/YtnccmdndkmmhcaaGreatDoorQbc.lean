/- Qbc -/
import Derived.BigGuard
import Derived.Test.YtnccmdndkmmhcaaGreatDoorQbb
set_option maxRecDepth 100000
set_option maxHeartbeats 16000000
namespace Go.Proofs.YtnccmdndkmmhcaaGreatDoor
namespace Wd
open Go.RowKit Mem Bw Nums Mmu Hex
theorem uW (wb:Nat) (tag:Nat->Nat) (V:Nat->Value) (p:PW) (i j r g:Nat) (s:Nat->Int) (w:World) (bt:cb w wb tag V p) (B:p.Fits) (hl:∀l∈p.ID,l.length<=100) (N:p.IA.length=p.kinds.length*16)
  (J:boE p i j=0) (hi:i<p.IA.length) (M:p.IA[i]=s) (I:0<=s 5) (L:¬(s 0≠1∧r<=7∧g<=65535∧(g=0∨(s 0=7∨s 0=8)∧s 5=0))):
  Calls Tryz.prog 35 #[.pointer (some ⟨wb,0,none⟩),.int .i64 i,.int .i64 j,.int .i64 r,.int .i64 g] w fun x w'=>∃e:Int,(1<=e∧e<=13)∧x=.returned (.int .i64 e)∧Below w.heap.size w w':=by
 have E:=hid bt;have y:=hid (lS wb V p i j w (bt.view B hl) N);rw[J] at y;obtain⟨A,Q,e2⟩:=bt.o.IA.form (by show 0<p.IA.length;omega);have c2:=r11 2 bt.r;rw[e2] at c2;have H:=hid (show w.rangeAt A (i*7) (cf 6 s) from uw (fun k v hv=>by
  have hk:k<7:=by have:=(List.getElem?_eq_some_iff.1 hv).1;rw[ay] at this;exact this
  have:=E.IU e2 hi hk;rw[M] at this;rw[this, <-hv,dk 7 _ k hk]))
 have X:(p.IA.length:Int)<=1000:=by have:=B.IA;omega
 have U:(i:Int)<(p.IA.length:Int):=oA;have b:=hid (fun W:World=>Isa.fC r 7 W);have c:=hid (fun W:World=>Isa.fC g 65535 W);have u:=hid (bal (af w.heap.size w) (.cells zK 32));have z:=hid (aP w zK 32 w.heap.size 6 rfl oD);have G:=hid (show Kp (fun k=>k=w.heap.size) (w.alloc (.cells zK 32)) ((w.alloc (.cells zK 32)).setCells w.heap.size 0 (cf 6 s)) from aN (T:=fun k=>k=w.heap.size) (.inl rfl) _ _ _ (aV _ _));have a:=hid (G.below u u.size (fun k hk e=>oA));have f:=hid (World.rangeAt_setCells_same _ w.heap.size 0 (cf 6 s) (by rw[ay];exact z));have h:=hid L;have F:=hid I;go_enter Tryz.func35,Tryz.ntmps35
 go_wp2_with fail
 refine y.mono ?_;rintro q w1 ⟨rfl,rfl⟩;go_upto_region 5 with (first|((with_reducible refine gld 32 ?_);refine uM rfl _ rfl A (i*7) rfl (cf 6 s) (ay _ _) H ?_)|((with_reducible refine gst 32 ?_);refine gS rfl _ _ rfl w.heap.size 0 rfl (cf 6 s) rfl (ay _ _) (bQ _ _) z ?_))
 generalize World.setCells _ _ _ _=P at a f ⊢;generalize w.heap.size=Y at f ⊢;have O:=cF f (dk 6 _ 0 oA);have D:=cF f (dk 6 _ 5 oA);rw[aC] at O D;by_cases d:s 0=1
 ·have n0:(s 0==1)=true:=by simpa using d
  go_wp2_with fail
  go_ret
  exact⟨3,oD,rfl,a.out⟩
 have n0:(s 0==1)=false:=by simpa using d
 by_cases t:r<=7
 rotate_left
 ·rw[show decide ((r:Int)<0∨7<(r:Int))=true from az oA] at b;go_wp2_with fail
  refine (b.out _).mono ?_;rintro q w2 ⟨rfl,rfl⟩;go_wp2_with fail
  go_ret
  exact⟨2,oD,rfl,a.out⟩
 rw[show decide ((r:Int)<0∨7<(r:Int))=false from aw oA] at b;by_cases n:g<=65535
 rotate_left
 ·rw[show decide ((g:Int)<0∨65535<(g:Int))=true from az oA] at c;go_wp2_with fail
  refine (b.out _).mono ?_;rintro q w2 ⟨rfl,rfl⟩;go_wp2_with fail
  refine (c.out _).mono ?_;rintro q w2 ⟨rfl,rfl⟩;go_wp2_with fail
  go_ret
  exact⟨2,oD,rfl,a.out⟩
 rw[show decide ((g:Int)<0∨65535<(g:Int))=false from aw oA] at c;have K:=Nat.pos_of_ne_zero fun e=>h.out ⟨d,t,n,.inl e⟩;have R:=az oA;have S:=az K;by_cases m:s 5=0
 ·have C:s 0≠7∧s 0≠8:=⟨fun e=>h.out ⟨d,t,n,.inr ⟨.inl e,m⟩⟩,fun e=>h.out ⟨d,t,n,.inr ⟨.inr e,m⟩⟩⟩;have m7:(s 0 !=7)=true:=by simpa using C.1
  have m8:(s 0 !=8)=true:=by simpa using C.2
  rw[m] at D;go_wp2_with fail
  refine (b.out _).mono ?_;rintro q w2 ⟨rfl,rfl⟩;go_wp2_with fail
  refine (c.out _).mono ?_;rintro q w2 ⟨rfl,rfl⟩;go_wp2_with fail
  go_ret
  exact⟨4,oD,rfl,a.out⟩
 ·have Z:=az (by have:=F.out;omega);go_wp2_with fail
  refine (b.out _).mono ?_;rintro q w2 ⟨rfl,rfl⟩;go_wp2_with fail
  refine (c.out _).mono ?_;rintro q w2 ⟨rfl,rfl⟩;go_wp2_with fail
  go_ret
  exact⟨4,oD,rfl,a.out⟩
theorem uV (a b r g:Int) (p:PW) (h:p.Fits) (hl:∀l∈p.ID,l.length<=100) (i:p.IA.length=p.kinds.length*16) (e:boE p a b≠0) (W:World) (wb:Nat) (tag:Nat->Nat) (V:Nat->Value) (bt:cb W wb tag V p):
  Calls Tryz.prog 35 #[.pointer (some ⟨wb,0,none⟩),.int .i64 a,.int .i64 b,.int .i64 r,.int .i64 g] W fun x d=>x=.returned (.int .i64 (boE p a b))∧d=W:=by
 have c:=hid (lS wb V p a b W (bt.view h hl) i);have f:(boE p a b !=0)=true:=by simpa using e
 generalize boE p a b=x at c f ⊢;go_enter Tryz.func35,Tryz.ntmps35
 go_wp2_with fail
 refine c.mono ?_;rintro q w1 ⟨rfl,rfl⟩;go_wp2_with fail
 go_ret
 exact⟨rfl,rfl⟩
end Wd
namespace Wd
open Go.RowKit Mem Bw Nums Mmu
theorem mZ (a:Int) (p:PW) (g:p.Fits) (hl:∀l∈p.ID,l.length<=100) (k:Snd p) (W:World) (wb:Nat) (tag:Nat->Nat) (V:Nat->Value) (bt:cb W wb tag V p):
  Calls Tryz.prog 40 #[.pointer (some ⟨wb,0,none⟩),.int .i64 a] W fun x f=>x=.returned (.int .i64 (srE p a))∧∃tag',Kt tag tag' W f∧(srE p a=0->∃w,cb f wb tag' w (srP p a))∧(srE p a≠0->f=W):=by
 have c:=hid (j6 wb V p a W (bt.view g hl));by_cases h0:thE p a 6=0
 rotate_left
 ·have b:=hid (show srE p a=thE p a 6 from ae h0);have z:(thE p a 6 !=0)=true:=by simpa using h0
  rw[b.out];have i:=hid h0;generalize thE p a 6=x at c z i ⊢;go_enter Tryz.func40,Tryz.ntmps40
  go_wp2_with fail
  refine c.mono ?_;rintro q w1 ⟨rfl,rfl⟩;go_wp2_with fail
  go_ret
  exact⟨rfl,tag,en _ _,fun h=>(absurd h i),fun _=>rfl⟩
 obtain⟨t,m,rfl,hk⟩:=uD h0;rw[h0] at c;have n:t<p.IB.length:=by rw[k.lf.IB];exact m
 obtain⟨I,H,j⟩:=bt.o.IB.form oA;have G:=bk bt j;have F:=bt.IH j n (show 9<20 by omega);have L:(t:Int)<(p.IB.length:Int):=oA;have K:(p.IB.length:Int)<=1000:=by have:=g.IB;omega
 obtain⟨C,D,E,r4⟩:=mS k m hk;have v:=hid (gP wb tag V p t (rdN p t) W bt g n C E r4 D);have e:=hid (show srE p t=if p.IB.getD t bl 9=0 then 0 else 7 by unfold srE;rw[ag h0,ah]);have u:=hid (show srP p t=wnP p t (rdN p t) by unfold srP;rw[ah]);generalize p.IB.getD t bl 9=y at F e;by_cases d:y=0
 ·have b:=hid (e.trans (ag d));subst d;rw[b.out];go_enter Tryz.func40,Tryz.ntmps40
  go_wp2_with fail
  refine c.mono ?_;rintro q w1 ⟨rfl,rfl⟩;go_wp2_with fail
  refine v.mono ?_;rintro q w2 ⟨rfl,tag',A,B⟩;have r:=hid A;have s:=hid B;go_wp2_with fail
  go_ret
  exact⟨rfl,tag',s.out,fun _=>⟨V,by rw[u.out];exact r⟩,fun h=>absurd (by first|rfl|assumption|exact b) h⟩
 ·have b:=hid (e.trans (ae d));have J:(y !=0)=true:=by simpa using d
  rw[b.out];go_enter Tryz.func40,Tryz.ntmps40
  go_wp2_with fail
  refine c.mono ?_;rintro q w1 ⟨rfl,rfl⟩;go_wp2_with fail
  go_ret
  exact⟨rfl,tag,en _ _,fun h=>(by cases h),fun _=>rfl⟩
theorem pN (a:Int) (p:PW) (f:p.Fits) (hl:∀l∈p.ID,l.length<=100) (r:Snd p) (W:World) (wb:Nat) (tag:Nat->Nat) (V:Nat->Value) (bt:cb W wb tag V p):
  Calls Tryz.prog 240 #[.pointer (some ⟨wb,0,none⟩),.int .i64 a] W fun x c=>x=.returned (.int .i64 (thE p a 6))∧∃tag',Kt tag tag' W c∧(thE p a 6=0->∃k,cb c wb tag' k (stP p a.toNat))∧(thE p a 6≠0->c=W):=by
 have b:=hid (j6 wb V p a W (bt.view f hl));by_cases h0:thE p a 6=0
 rotate_left
 ·have m:(thE p a 6==0)=false:=by simpa using h0
  have e:=hid h0;generalize thE p a 6=x at b m e ⊢;go_enter Tryz.func240,Tryz.ntmps240
  go_wp2_with fail
  refine b.mono ?_;rintro q w1 ⟨rfl,rfl⟩;go_wp2_with fail
  go_ret
  exact⟨rfl,tag,en _ _,fun h=>(absurd h e),fun _=>rfl⟩
 obtain⟨t,s,rfl,hk⟩:=uD h0;rw[h0] at b;have j:=hid (j4 wb tag V p t W bt f (by rw[r.lf.IB];exact s));have d:=hid h0;rw[ah];go_enter Tryz.func240,Tryz.ntmps240
 go_wp2_with fail
 refine b.mono ?_;rintro q w1 ⟨rfl,rfl⟩;go_wp2_with fail
 refine j.mono ?_;rintro q w2 ⟨rfl,tag',n,o⟩;have g:=hid n;have i:=hid o;go_wp2_with fail
 go_ret
 exact⟨by rw[d.out];rfl,tag',i.out,fun _=>⟨V,g.out⟩,fun h=>absurd (by first|rfl|assumption|exact d) h⟩
theorem nD (a b:Int) (p:PW) (f:p.Fits) (hl:∀l∈p.ID,l.length<=100) (I:Snd p) (W:World) (wb:Nat) (tag:Nat->Nat) (V:Nat->Value) (bt:cb W wb tag V p):
  Calls Tryz.prog 41 #[.pointer (some ⟨wb,0,none⟩),.int .i64 a,.int .i64 b] W fun x W'=>x=.returned (.int .i64 (rkE p a b))∧∃tag',Kt tag tag' W W'∧(rkE p a b=0->∃V',cb W' wb tag' V' (rkP p a b))∧(rkE p a b≠0->W'=W):=by
 have D:=hid (j6 wb V p a W (bt.view f hl));by_cases h0:thE p a 6=0
 rotate_left
 ·have HE:=hid (show rkE p a b=thE p a 6 from ae h0);have aC:(thE p a 6 !=0)=true:=by simpa using h0
  rw[HE.out];have HN:=hid h0;generalize thE p a 6=x at D aC HN ⊢;go_enter Tryz.func41,Tryz.ntmps41
  go_wp2_with fail
  refine D.mono ?_;rintro q w1 ⟨rfl,rfl⟩;go_wp2_with fail
  go_ret
  exact⟨rfl,tag,en _ _,fun h=>(absurd h HN),fun _=>rfl⟩
 obtain⟨t,ht,rfl,hk⟩:=uD h0;rw[h0] at D;have O:=hid (show rkE p t b=if ek 0 3 b then 0 else 2 by unfold rkE;rw[ag h0]);have P:=hid (fC b 3 W)
 cases B:ek 0 3 b with
 |false=>
  rw[B,ae oD] at O;have ad:decide (b<0∨3<b)=true:=az (by have:=dh B;omega);rw[ad] at P;rw[O.out];go_enter Tryz.func41,Tryz.ntmps41
  go_wp2_with fail
  refine D.mono ?_;rintro q w1 ⟨rfl,rfl⟩;go_wp2_with fail
  refine P.mono ?_;rintro q w1 ⟨rfl,rfl⟩;go_wp2_with fail
  go_ret
  exact⟨rfl,tag,en _ _,fun h=>(by cases h),fun _=>rfl⟩
 |true=>
 rw[B,ag rfl] at O;have aP:=aA B;have ad:decide (b<0∨3<b)=false:=aw oA;rw[ad] at P;rw[O.out];have Z:t<p.IB.length:=by rw[I.lf.IB];exact ht
 obtain⟨g3,cap3,F⟩:=bt.o.IB.form oA;have E3:=hid F;have am:=hid Z;have aY:(t:Int)<(p.IB.length:Int):=oA;have aV:(p.IB.length:Int)<=1000:=by have:=f.IB;omega
 have aW:(p.ready.length:Int)<=1000:=by have:=f.ready;omega
 have al:=hid f.next;have B0:=hid bt;have af:=hid (Db I ht hk b);have LT:=ap p t 10 b;have N:=ia p t 10 18 b Z oD;have M:(p.task t 10 b).IB.getD t bl 10=b:=by rw[gO p t 10 10 b Z,ag rfl]
 obtain⟨_,_,aO,_⟩:=qP (iX I ht hk).1;have aQ:=I.lf.c2;have r1:rdN (p.task t 10 b) t<p.ready.length:=by
  unfold rdN;rw[N,M,I.lf.ready];omega
 have r2:(p.task t 10 b).IB.getD t bl 18*4+(p.task t 10 b).IB.getD t bl 10=(rdN (p.task t 10 b) t:Int):=by
  unfold rdN;rw[N,M];omega
 have Y:(({p with ready:=lvs t p.ready}:PW).task t 10 b).Fits:=⟨f.IE,f.kinds,f.IA,by rw[ap];exact f.IB,f.lines,f.line,f.bits,f.IC,by show (lvs t p.ready).length<=1000;rw[mM];exact f.ready,fun l hm=>by
  have d:=hm;unfold lvs at d;obtain⟨l0,h2,rfl⟩:=List.mem_map.1 d;exact aD (dz _ _) (f.next l0 h2),f.ID,f.IG⟩
 have HW:=hid (fun X tg (h:cb X wb tg V (({p with ready:=lvs t p.ready}:PW).task t 10 b))=>gP wb tg V (({p with ready:=lvs t p.ready}:PW).task t 10 b) t (rdN (p.task t 10 b) t) X h Y (by rw[ap];exact Z) (by show rdN (p.task t 10 b) t<(lvs t p.ready).length;rw[mM];exact r1) ⟨by show 0<=(p.task t 10 b).IB.getD t bl 18;rw[N];omega,by show (p.task t 10 b).IB.getD t bl 18<=1000;rw[N];omega⟩ ⟨by show 0<=(p.task t 10 b).IB.getD t bl 10;rw[M];omega,by show (p.task t 10 b).IB.getD t bl 10<=1000;rw[M];omega⟩ r2);go_enter Tryz.func41,Tryz.ntmps41
 go_wp2_with fail
 refine D.mono ?_;rintro q w1 ⟨rfl,rfl⟩;go_wp2_with fail
 refine P.mono ?_;rintro q w1 ⟨rfl,rfl⟩;go_wp2_with fail
 go_loopw [8,9] (fun s i wr=>∃(k:Nat) (tg:Nat->Nat),k<=p.ready.length∧s=.bool (decide (0<cna t (p.ready.take k)))∧i=.int .i64 k∧Hid (cb wr wb tg V {p with ready:=ff (dx fun x=>x==(t:Int)) k p.ready})∧Hid (Kt tag tg W wr)) (fun _ i _=>p.ready.length - (intOf i).toNat)
 case atStart=>exact⟨0,tag,oA,rfl,rfl,hid (by rw[fj];exact B0),hid (en _ _)⟩
 case round=>
  obtain⟨k,tg,aU,rfl,rfl,A,HK⟩:=hrel;obtain⟨g,eL⟩:=A.o.ready.form;have C:=hid (eL.trans (dG (fun m=>Value.slice (some ⟨g,0,none⟩) m m) (cK _ _ _)));have Q:=hid (show fB wr tg 9 13 22 3 1 p.ready.length (.slice (some ⟨g,0,none⟩) p.ready.length p.ready.length) (ci (ff (dx fun x=>x==(t:Int)) k p.ready)) by
   have d:=A.o.ready;simp only at d;rw[cK,C.out] at d;exact d)
  have cl:=bk A C;by_cases y:k<p.ready.length
  ·have aX:(k:Int)<(p.ready.length:Int):=oA;have E:=hid (show decide (0<cna t (p.ready.take (k+1)))=(decide (0<cna t (p.ready.take k))||inB t p.ready[k]) by
    have d:cna t (p.ready.take (k+1))=cna t (p.ready.take k)+cn t p.ready[k]:=jH (cn t) y;unfold inB;rw[d,cX];simp only[bf,bZ];omega)
   obtain⟨ux,aK,aI⟩:=Q.at (j:=k) y;have au:=hid (show ei wr ux p.ready[k] by
    have G:k<(ff (dx fun x=>x==(t:Int)) k p.ready).length:=by rw[cK];exact y
    have d:=aI.1;unfold ci at d;rw[aa,ac G,aR,dY _ _ _ y G] at d;exact dM d)
   have ah:=hid (EU ux p.ready[k] t wr au (al.out _ (av y)));generalize decide (0<cna t (p.ready.take k))=sb at E ⊢;generalize aT:inB t p.ready[k]=ic at E ah
   cases sb
   case' true=>
    rw[Bool.true_or] at E;go_wp2_with fail
   case' false=>
    rw[eX] at E;go_wp2_with fail
    refine ah.mono ?_;rintro r0 w0 ⟨rfl,rfl⟩;go_wp2_with fail
   all_goals
    obtain⟨u,cu,hu⟩:=Q.at (j:=k) y;have ar:=hid (show ci (ff (dx fun x=>x==(t:Int)) k p.ready) k=(p.ready[k].length,d6 p.ready[k]) by
     have G:k<(ff (dx fun x=>x==(t:Int)) k p.ready).length:=by rw[cK];exact y
     unfold ci;rw[aa,ac G,aR,dY _ _ _ y G])
    rw[ar.out] at hu;have HU:=hid (dM hu.1);have ay:=hid (al.out _ (av y));have aq:=hid (fun X (h:Below wr.heap.size wr X)=>(Q.kp (T:=fun _=>False) (.IF h) (fun _ _=>rfl) (fun _ _ e=>e)).fr k);have KS:=hid (fun X (h:Below wr.heap.size wr X)=>show X.cell? ⟨wb,7,none⟩=some (.slice (some ⟨g,0,none⟩) p.ready.length p.ready.length) by rw[ai (A.below h).r (k:=7) rfl,C.out]);have KR:=hid (fun X (h:Below wr.heap.size wr X)=>(h.cell (aj _ _ cu)).trans cu);have J:=hid (aB wr 1);have ao:=hid (fun X v (h:Below wr.heap.size wr X) (H:X.ownsRow wr.heap.size 3 1 v ((dx fun x=>x==(t:Int)) p.ready[k]).length (d6 ((dx fun x=>x==(t:Int)) p.ready[k])))=>show cb (X.setCell ⟨g,k,none⟩ v) wb (gy tg wr.heap.size (13+3*k)) V {p with ready:=ff (dx fun x=>x==(t:Int)) (k+1) p.ready}∧Kt tag (gy tg wr.heap.size (13+3*k)) W (X.setCell ⟨g,k,none⟩ v) from by
     obtain⟨aH,Y⟩:=Q.put (tag':=gy tg wr.heap.size (13+3*k)) (w1:=X) (u:=v) (c:=(((dx fun x=>x==(t:Int)) p.ready[k]).length,d6 ((dx fun x=>x==(t:Int)) p.ready[k]))) (j:=k) y (fun j=>oA) (.IF h) (fun k hk=>dB hk) ⟨H.mono (bN _),fun j e=>by
      unfold gy;rw[ae (by have:=(H.lt j e).1;omega)]⟩
     refine⟨A.ready Y (fun k hk=>dB hk) ?_,HK.trans (Kt.of (tag':=gy tg wr.heap.size (13+3*k)) Y (fun k e=>by rcases e with e|⟨j,e⟩<;>omega) (fun k hk=>dB hk))⟩;rw[cK,C.out,ep _ _ _ y,jM _ _ (by rw[cK];exact y)];exact aH)
    refine ed (S:=fun X=>X.cell? ⟨wb,7,none⟩=some (.slice (some ⟨g,0,none⟩) p.ready.length p.ready.length)) (R:=fun X=>X.cell? ⟨g,k,none⟩=some u) [15] oK (KS.out _ J) (KR.out _ J) (fun aF aE=>?_);have w:=hid aF;have n:=hid aE;refine tF 0 (.pointer (some ⟨wb,0,none⟩)) rfl w (fun _=>n.out) ?_;simp only[jj];refine tF 1 (.pointer (some ⟨wb,0,none⟩)) rfl w (fun _=>n.out) ?_;simp only[jj];refine tF 2 (.pointer (some ⟨wb,7,none⟩)) rfl w (fun _=>n.out) ?_;simp only[jj];refine tG 3 (.slice (some ⟨g,0,none⟩) p.ready.length p.ready.length) rfl w (fun _=>n.out) ?_;simp only[jj];refine tF 4 (.int .i64 k) rfl w (fun _=>n.out) ?_;simp only[jj];refine tF 5 (.pointer (some ⟨wb,0,none⟩)) rfl w (fun _=>n.out) ?_;simp only[jj];refine tF 6 (.pointer (some ⟨wb,0,none⟩)) rfl w (fun _=>n.out) ?_;simp only[jj];refine tF 7 (.pointer (some ⟨wb,7,none⟩)) rfl w (fun _=>n.out) ?_;simp only[jj];refine tG 8 (.slice (some ⟨g,0,none⟩) p.ready.length p.ready.length) rfl w (fun _=>n.out) ?_;simp only[jj];refine tF 9 (.int .i64 k) rfl w (fun _=>n.out) ?_;simp only[jj];refine tF 10 (.pointer (some ⟨g,k,none⟩)) rfl w (fun _=>n.out) ?_;simp only[jj];refine ez (i:=11) (v:=u) rfl oK oK oK oK oK oK (fun _ _ _ h=>h) (Or.inl ⟨oR,fun W h=>by have h3:=h.2;clear h;go_simp⟩) w (fun _=>n.out) ?_;simp only[jj];refine tF 12 (.int .i64 t) rfl w (fun _=>n.out) ?_;simp only[jj];refine Wd.r1 13 rfl (fun K hK=>?_);go_simp
    refine (j8 u p.ready[k] t _ (HU.below J) ay).mono ?_;rintro r w1 ⟨v,rfl,H,B⟩;obtain⟨qv,cv,rfl⟩:=eK H;have z:=hid (btr J B);have HO:=hid H;go_wp2_with fail
    refine hK _ _ (KS.out _ z) (fun _=>KR.out _ z) (fun _ _=>?_)
    try simp only[Act.put,jD,jE,jF]
    have S1:=hid (KS.out _ z);have R1:=hid (KR.out _ z);refine tF 14 (.pointer (some ⟨g,k,none⟩)) rfl S1 (fun _=>R1.out) ?_;simp only[jj];have aL:=S1.out;have aJ:=R1.out;have aN:=aq.out _ z;obtain⟨an,aG⟩:=ao.out w1 _ z HO;have B6:=hid an;have K6:=hid aG;have S6:=hid (show (w1.setCell ⟨g,k,none⟩ (.slice qv ((dx fun x=>x==(t:Int)) p.ready[k]).length cv)).cell? ⟨wb,7,none⟩=some (.slice (some ⟨g,0,none⟩) p.ready.length p.ready.length) by rw[ai an.r (k:=7) rfl,C.out]);refine Wd.r1 15 rfl (fun K hK=>?_);go_simp
    refine hK _ _ S6 (fx oK) (fun _ _=>?_)
    try simp only[Act.put]
    refine dS oK ?_ _;generalize World.setCell _ _ _=W6 at*;go_wp2_with fail
    exact⟨⟨k+1,_,oA,by rw[E.out],by go_num,B6,K6⟩,by simp[intOf];omega⟩
  ·obtain rfl:k=p.ready.length:=oA;have aS:¬((p.ready.length:Int)<(p.ready.length:Int)):=oA;have L:=hid (show cb wr wb tg V {p with ready:=lvs t p.ready} by
    have d:=A.out;rw[show ff (dx fun x=>x==(t:Int)) p.ready.length p.ready=lvs t p.ready from fG _ _] at d;exact d)
   rw[cM];have F:V 3=.slice (some ⟨g3,0,none⟩) ({p with ready:=lvs t p.ready}:PW).IB.length cap3:=E3.out;have c3:=bk L E3;have aZ:=L.IH F am (show 10<20 by omega);have aM:=L.II F (t*20+10);obtain⟨b1,k1⟩:=L.task F am (show 10<20 by omega) b;have B1:=hid b1;have K1:=hid (HK.trans k1);by_cases U:0<cna t p.ready
   ·have ab:=hid (show rkP p t b=wnP (({p with ready:=lvs t p.ready}:PW).task t 10 b) t (rdN (p.task t 10 b) t) by rw[<-af.out];exact ag U);rw[az U];go_upto_region 13 with fail
    generalize World.setCell _ _ _=W1 at*;have ax:=hid (HW.out W1 tg B1);go_wp2_with fail
    refine ax.mono ?_;rintro q w2 ⟨rfl,tag',d,h2⟩;have H1:=hid d;have H2:=hid h2;go_wp2_with fail
    go_ret
    exact⟨rfl,tag',K1.trans H2,fun _=>⟨V,by rw[ab.out];exact H1⟩,fun h=>absurd (by first|rfl|assumption|exact HE) h⟩
   ·have ab:=hid (show rkP p t b=({p with ready:=lvs t p.ready}:PW).task t 10 b by rw[<-af.out];exact ae U);rw[aw U];go_upto_region 13 with fail
    generalize World.setCell _ _ _=W1 at*;go_wp2_with fail
    go_ret
    exact⟨rfl,tg,K1.out,⟨V,by rw[ab.out];exact B1⟩⟩
theorem tK {S:List (Nat->Int)} {i:Nat} (hi:i<S.length):fro S i=S[i] 6:=by
 unfold fro;rw[ag oA,ah,aa,ac hi];rfl
theorem vE {r:Nat->Nat} {S:List (Nat->Int)} (h:Up r S) {i:Nat} (hi:i<S.length):S[i] 6= -1∨∃u:Nat,S[i] 6=u∧u<S.length∧r u<r i:=by
 have e:S.getD i eS=S[i]:=by rw[aa,ac hi];rfl
 rw[<-e];exact h.fr i
theorem ss {r:Nat->Nat} (vb:Nat) (V:Nat->Value) (p:PW) (i t:Nat) (w:World) (hv:ec w vb V p) (n:Up r p.IA) (hi:i<p.IA.length):
  Calls Tryz.prog 112 #[.pointer (some ⟨vb,0,none⟩),.int .i64 i,.int .i64 t] w fun x w'=>x=.returned (.bool (unB p.IA t i))∧w=w':=by
 have c2:w.cell? ⟨vb,2,none⟩=some (V 2):=ai hv.r rfl;obtain⟨q,b,off,cap,e2,A,s⟩:=hv.v.IA;have E:=A oA;subst E;have H:(i:Int)<(p.IA.length:Int):=oA;have c6:=cF (s i hi) (dk 7 _ 6 oA);have m:=hid (show (UnS p.IA t (fro p.IA i)↔UnS p.IA t (p.IA[i] 6))∧(p.IA[i] 6= -1∨∃j:Nat,p.IA[i] 6=j∧j<p.IA.length) by
  refine⟨by rw[tK hi],?_⟩;rcases vE n hi with h|⟨u,h,g, -⟩
  ·exact .inl h
  ·exact .inr ⟨u,h,g⟩)
 generalize p.IA[i] 6=G at c6 m;have C:=hid s;have f:=hid n;clear hv A s n hi;go_enter Tryz.func112,Tryz.ntmps112
 go_wp2_with fail
 clear c6
 go_loopw [7] (fun v wr=>∃y:Int,v=.int .i64 y∧Hid ((UnS p.IA t (fro p.IA i)↔UnS p.IA t y)∧(y= -1∨∃j:Nat,y=j∧j<p.IA.length))∧Hid (w=wr)) (fun v _=>if intOf v<0 then 0 else r (intOf v).toNat+1)
 case atStart=>exact⟨G,rfl,m,hid rfl⟩
 case round=>
  obtain⟨y,rfl,a,B⟩:=hrel;obtain rfl:=B.out;clear m;rcases a.2 with o|⟨j,o,l⟩
  ·subst o;have D:((-1:Int) != -1)=false:=rfl;have c:=hid (show unB p.IA t i=false by
    cases e:unB p.IA t i with
    |false=>rfl
    |true=>exact absurd (a.1.1 ((lh f t i).1 e)) yH)
   clear a;go_wp2_with fail
   go_ret
   exact⟨by rw[c.out];rfl,rfl⟩
  ·subst o;have D:((j:Int) != -1)=true:=bne_iff_ne.2 oA;by_cases d:(j:Int)=t
   ·have F:((j:Int)==(t:Int))=true:=bu.2 d;have c:=hid (show unB p.IA t i=true from (lh f t i).2 (a.1.2 (by rw[d];exact uJ)));clear a d;go_wp2_with fail
    go_ret
    exact⟨by rw[c.out];rfl,rfl⟩
   ·have F:((j:Int)==(t:Int))=false:=beq_eq_false_iff_ne.2 d;have I:(j:Int)<(p.IA.length:Int):=oA;have c7:=cF (C.out j l) (dk 7 _ 6 oA);have c:=hid (show ((UnS p.IA t (fro p.IA i)↔UnS p.IA t (p.IA[j] 6))∧(p.IA[j] 6= -1∨∃k:Nat,p.IA[j] 6=k∧k<p.IA.length))∧(if p.IA[j] 6<0 then 0 else r (p.IA[j] 6).toNat+1)<r j+1 by
     refine⟨⟨a.1.trans (by rw[uK d,tK l]),?_⟩,?_⟩
     ·rcases vE f l with h|⟨u,h,g, -⟩
      ·exact .inl h
      ·exact .inr ⟨u,h,g⟩
     ·rcases vE f l with h|⟨u,h, -,g⟩
      ·rw[h,ag oD];omega
      ·rw[h,ae oA,ah];omega)
    generalize p.IA[j] 6=z at c7 c;clear a d;go_wp2_with fail
    refine⟨⟨z,rfl,hid c.1,hid oS⟩,?_⟩;show (if z<0 then 0 else r z.toNat+1)<(if (j:Int)<0 then 0 else r (j:Int).toNat+1)
    rw[ae (show ¬(j:Int)<0 by omega),ah];exact c.2
theorem qJ {r:Nat->Nat} (vb:Nat) (V:Nat->Value) (p:PW) (i t:Nat) (w:World) (hv:ec w vb V p) (o:Up r p.IA) (hi:i<p.IA.length):
  Calls Tryz.prog 176 #[.pointer (some ⟨vb,0,none⟩),.int .i64 i,.int .i64 t] w fun x w'=>x=.returned (.bool (unB p.IA t i))∧w=w':=by
 have c2:=r11 2 hv.r;obtain⟨q,b,off,cap,e2,D,s⟩:=hv.v.IA;have E:=D oA;subst E;have H:(i:Int)<(p.IA.length:Int):=oA;have c6:=cF (s i hi) (dk 7 _ 6 oA);have n:=hid (show (UnS p.IA t (fro p.IA i)↔UnS p.IA t (p.IA[i] 6))∧(p.IA[i] 6= -1∨∃j:Nat,p.IA[i] 6=j∧j<p.IA.length) by
  refine⟨by rw[tK hi],?_⟩;rcases vE o hi with h|⟨u,h,f, -⟩
  ·exact .inl h
  ·exact .inr ⟨u,h,f⟩)
 generalize p.IA[i] 6=G at c6 n;have B:=hid s;have d:=hid o;go_enter Tryz.func176,Tryz.ntmps176
 go_wp2_with fail
 go_loopw [1] (fun v wr=>∃y:Int,v=.int .i64 y∧Hid ((UnS p.IA t (fro p.IA i)↔UnS p.IA t y)∧(y= -1∨∃j:Nat,y=j∧j<p.IA.length))∧Hid (w=wr)) (fun v _=>if intOf v<0 then 0 else r (intOf v).toNat+1)
 case atStart=>exact⟨G,rfl,n,hid rfl⟩
 case round=>
  obtain⟨y,rfl,c,A⟩:=hrel;obtain rfl:=A.out;rcases c.2 with m|⟨j,m,g⟩
  ·subst m;have C:¬((0:Int)<= -1):=oA;have a:=hid (show unB p.IA t i=false by
    cases e:unB p.IA t i with
    |false=>rfl
    |true=>exact absurd (c.1.1 ((lh d t i).1 e)) yH)
   go_wp2_with fail
   go_ret
   exact⟨by rw[a.out];rfl,rfl⟩
  ·subst m;have C:(0:Int)<=(j:Int):=oA;by_cases l:(j:Int)=t
   ·have F:=bu.2 l;have a:=hid ((lh d t i).2 (c.1.2 (by rw[l];exact uJ)));go_wp2_with fail
    go_ret
    exact⟨by rw[a.out];rfl,rfl⟩
   ·have F:=beq_eq_false_iff_ne.2 l;have I:(j:Int)<(p.IA.length:Int):=oA;have c7:=cF (B.out j g) (dk 7 _ 6 oA);have a:=hid (show ((UnS p.IA t (fro p.IA i)↔UnS p.IA t (p.IA[j] 6))∧(p.IA[j] 6= -1∨∃k:Nat,p.IA[j] 6=k∧k<p.IA.length))∧(if p.IA[j] 6<0 then 0 else r (p.IA[j] 6).toNat+1)<r j+1 by
     refine⟨⟨c.1.trans (by rw[uK l,tK g]),?_⟩,?_⟩
     ·rcases vE d g with h|⟨u,h,f, -⟩
      ·exact .inl h
      ·exact .inr ⟨u,h,f⟩
     ·rcases vE d g with h|⟨u,h, -,f⟩
      ·rw[h,ag oD];omega
      ·rw[h,ae oA,ah];omega)
    generalize p.IA[j] 6=z at c7 a;go_wp2_with fail
    refine⟨⟨z,rfl,hid a.1,hid oS⟩,?_⟩;show (if z<0 then 0 else r z.toNat+1)<(if (j:Int)<0 then 0 else r (j:Int).toNat+1)
    rw[ae (show ¬(j:Int)<0 by omega),ah];exact a.2
theorem kC {r:Nat->Nat} (vb:Nat) (V:Nat->Value) (p:PW) (t:Nat) (w:World) (hv:ec w vb V p) (d:Up r p.IA):
  Calls Tryz.prog 83 #[.pointer (some ⟨vb,0,none⟩),.int .i64 t] w fun x w'=>x=.returned (.int .i64 (luF p.IA t p.IA.length))∧w=w':=by
 have c2:w.cell? ⟨vb,2,none⟩=some (V 2):=ai hv.r rfl;obtain⟨q,b,off,cap,e2, -, -⟩:=hv.v.IA;have hl:(p.IA.length:Int)<=1000:=by have:=hv.f.IA;omega
 have h:=hid (fun (i:Nat) (hi:i<p.IA.length)=>ss vb V p i t w hv d hi);clear hv d;go_enter Tryz.func83,Tryz.ntmps83
 go_wp2_with fail
 clear c2 e2
 go_loopw [5] (fun v wr=>∃(k:Nat) (z:Int),v=.int .i64 z∧z=(k:Int) - 1∧k<=p.IA.length∧Hid (luF p.IA t p.IA.length=luF p.IA t k)∧Hid (w=wr)) (fun v _=>(intOf v+1).toNat)
 case atStart=>exact⟨p.IA.length,_,rfl,by first|rfl|go_num,aq _,hid rfl,hid rfl⟩
 case round=>
  obtain⟨k,z,rfl,g,hk,c,j⟩:=hrel;obtain rfl:=j.out
  cases k with
  |zero=>
   obtain rfl:z= -1:=oA;have l:¬((0:Int)<= -1):=oA;have a:=hid (show luF p.IA t p.IA.length= -1 from c);clear c g;go_wp2_with fail
   go_ret
   exact⟨by rw[a.out];rfl,rfl⟩
  |succ k=>
   obtain rfl:z=(k:Int):=oA;have l:(0:Int)<=(k:Int):=oA;have a:=hid (c.trans (show luF p.IA t (k+1)=if unB p.IA t k=true then (k:Int) else luF p.IA t k from rfl));clear c g;go_wp2_with fail
   refine (h.out k oA).mono ?_;rintro x w1 ⟨rfl,rfl⟩
   cases e:unB p.IA t k with
   |true=>
    rw[e,ag rfl] at a;clear e;go_wp2_with fail
    go_ret
    exact⟨by rw[a.out];rfl,rfl⟩
   |false=>
    rw[e,ae oD] at a;clear e;go_wp2_with fail
    exact⟨⟨k,_,rfl,by go_num,oA,a,hid oS⟩,by simp[intOf]⟩
theorem A0 (S:List (Nat->Int)) (t n:Nat):(mdL S t n).length<=n:=by
 unfold mdL;rw[bO];exact aD (dz _ _) (by rw[List.length_range];exact aq _)
theorem DW {w wr:World} {zs:List Int} {y:Int} {h:Option Addr} {cu:Nat} (hB:Below w.heap.size w wr) (hl:zs.length<=1000) (f:wr.ownsRow w.heap.size 3 1 (.slice h zs.length cu) zs.length (d6 zs)):
  ∃q c w',(Builtin.append_ #[22,22] 22 #[.slice h zs.length cu,.slice (some ⟨wr.heap.size,0,none⟩) 1 1]).run Tryz.prog (wr.alloc (.cells #[.int .i64 y] 3))=.ok (.slice q (zs.length+1) c) w'∧w'.ownsRow w.heap.size 3 1 (.slice q (zs.length+1) c) (zs++[y]).length (d6 (zs++[y]))∧Below w.heap.size w w':=by
 have b:=bal (af wr.heap.size wr) (.cells #[.int .i64 y] 3);have g:=aD hB.size b.size;obtain⟨i,hi,p,n,o⟩:=fm kA;obtain⟨r,w',m,d,l,_⟩:=run_append_own (P:=Tryz.prog) (wr.alloc (.cells #[.int .i64 y] 3)) w.heap.size 22 22 3 i (.int .i64 0) 1 8 Tryz.underlying22 hi p n o rfl oD _ _ _ (fJ f b) ⟨wr.heap.size,0,none⟩ 1 1 [.int .i64 y] rfl (fun j v a=>by
  match j,a with
  |0,a=>cases a;exact cq wr #[.int .i64 y] 3 0
  |j+1,a=>simp at a) (EY y) (by unfold maxLen;omega) oA g
 obtain⟨q,c,rfl⟩:=eK d;have e:d6 zs++[Value.int .i64 y]=d6 (zs++[y]):=by unfold d6;simp
 exact⟨q,c,w',m,by rw[<-e,ax];exact d,(btr hB b).grown l g (fun k hk=>(f.lt k hk).1)⟩
theorem tV {r:Nat->Nat} (vb:Nat) (V:Nat->Value) (p:PW) (t:Nat) (w:World) (hv:ec w vb V p) (M:Up r p.IA):
  Calls Tryz.prog 122 #[.pointer (some ⟨vb,0,none⟩),.int .i64 t] w fun x w'=>∃v,x=.returned v∧ei w' v (mdL p.IA t p.IA.length)∧Below w.heap.size w w':=by
 have hl:(p.IA.length:Int)<=1000:=by have:=hv.f.IA;omega
 have G:=hid hv;have l:=hid M;obtain⟨q,b,off,cap,e2,J, -⟩:=hv.v.IA;have O:=hid J;go_enter Tryz.func122,Tryz.ntmps122
 go_wp2_with fail
 go_loopw [5,6] (fun u i wr=>∃(k:Nat) (c:Option Addr) (cu:Nat),k<=p.IA.length∧i=.int .i64 k∧u=.slice c (mdL p.IA t k).length cu∧Hid (wr.ownsRow w.heap.size 3 1 (.slice c (mdL p.IA t k).length cu) (mdL p.IA t k).length (d6 (mdL p.IA t k)))∧Hid (Below w.heap.size w wr)) (fun _ i _=>p.IA.length - (intOf i).toNat)
 case atStart=>exact⟨0,none,0,oA,rfl,rfl,hid (cH _ _ _ _),hid (af _ _)⟩
 case round=>
  obtain⟨k,c,cu,hk,rfl,rfl,g,d⟩:=hrel;have h:=hid (G.below d);have c2:=r11 2 h.r;by_cases n:k<p.IA.length
  ·have T:(k:Int)<(p.IA.length:Int):=oA;obtain⟨o,P,U,Q,R,B,C⟩:=h.v.IA;have K:=B oA;subst K;have c0:=hY (C k n) (dk 7 _ 0 oA);have z:=hid (show (mdL p.IA t k).length<=1000 from aD (A0 _ _ _) oA);have a:=hid (tY p.IA t k);have s:=hid (qJ vb V p k t wr h l n);have m:=hid (show p.IA[k] 0=0->unB p.IA t k=false from fun h0=>by
    cases e:unB p.IA t k with
    |false=>rfl
    |true=>exact absurd (show (p.IA.getD k eS) 0=0 by rw[gK n];exact h0) (uI l ((lh l t k).1 e)))
   generalize p.IA[k] 0=y at c0 m;clear B C h e2;generalize mdL p.IA t k=zs at g z a ⊢;by_cases j:y=0
   ·rw[m.out j,ae oD,dT] at a;have N:(y !=0)=false:=by simpa using j
    clear j m s;go_wp2_with fail
    refine⟨⟨k+1,c,cu,oA,by go_num,by rw[a.out],hid (by rw[a.out];exact g),d⟩,by simp[intOf];omega⟩
   ·have N:(y !=0)=true:=by simpa using j
    go_wp2_with fail
    refine s.mono ?_;rintro x w1 ⟨rfl,rfl⟩
    cases e:unB p.IA t k with
    |false=>
     rw[e,ae oD,dT] at a;go_wp2_with fail
     refine⟨⟨k+1,c,cu,oA,by go_num,by rw[a.out],hid (by rw[a.out];exact g),d⟩,by simp[intOf];omega⟩
    |true=>
     rw[e,ag rfl] at a;obtain⟨o,A,w',L,H,I⟩:=DW (y:=(k:Int)) d z g;have F:=hid L;have E:=hid H;have D:=hid I;go_wp2_with (first|(at_builtin;refine fM rfl _ _ 22 rfl (.slice c zs.length cu) (.slice (some ⟨wr.heap.size,0,none⟩) 1 1) (.slice o (zs.length+1) A) rfl rfl F ?_))
     exact⟨⟨k+1,o,A,oA,by go_num,by rw[a.out,ax];rfl,hid (by rw[a.out];have:=E.out;rw[ax] at this ⊢;exact this),D⟩,by simp[intOf];omega⟩
  ·obtain rfl:k=p.IA.length:=oA;have S:¬((p.IA.length:Int)<(p.IA.length:Int)):=oA;go_wp2_with fail
   go_ret
   exact⟨_,rfl,dM g,d.out⟩
