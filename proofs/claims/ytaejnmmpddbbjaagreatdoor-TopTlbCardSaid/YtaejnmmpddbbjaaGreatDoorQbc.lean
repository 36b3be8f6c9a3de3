/- Qbc -/
import Derived.BigGuard
import Derived.Test.YtaejnmmpddbbjaaGreatDoorQbb
namespace Go.Proofs.YtaejnmmpddbbjaaGreatDoor.Wd
open Go.RowKit Mem Bw Nums Mmu Hex
set_option maxRecDepth 100000
set_option maxHeartbeats 8000000
theorem copyNo_ref (wb:Nat) (tag:Nat→Nat) (V:Nat→Value) (p:PW) (i j r g:Nat) (s:Nat→Int) (w:World) (bt:BoxT w wb tag V p) (K:p.Fits) (hl:∀l∈p.tlbs,l.length≤100) (M:p.slots.length=p.kinds.length*16)
  (I:boE p i j=0) (hi:i<p.slots.length) (L:p.slots[i]=s) (H:0≤s 5) (J:¬(s 0≠1∧r≤7∧g≤65535∧(g=0∨(s 0=7∨s 0=8)∧s 5=0))):
  Calls Tryz.prog 13 #[.pointer (some ⟨wb,0,none⟩),.int .i64 i,.int .i64 j,.int .i64 r,.int .i64 g] w fun x w'=>∃e:Int,(1≤e∧e≤13)∧x=.returned (.int .i64 e)∧Below w.heap.size w w':=by
 have D:=hid bt;have y:=hid (both_ref wb V p i j w (bt.view K hl) M);rw[I] at y;obtain⟨G,R,e2⟩:=bt.o.slots.form (by show 0<p.slots.length;omega);have c2:w.cell? ⟨wb,2,none⟩=some (V 2):=af bt.r rfl;rw[e2] at c2;have F:=hid (show w.rangeAt G (i*7) (cf 6 s) from six_of (fun k v N=>by
  have hk:k<7:=by have:=(List.getElem?_eq_some_iff.1 N).1;rw[ax] at this;exact this
  have:=D.slotsAt e2 hi hk;rw[L] at this;rw[this, ←N,cf_at 7 _ k hk]))
 have Y:(p.slots.length:Int)≤1000:=by have:=K.slots;omega
 have X:(i:Int)<(p.slots.length:Int):=by omega
 have c:=hid (fun W:World=>Isa.far_any r 7 W);have d:=hid (fun W:World=>Isa.far_any g 65535 W);have u:=hid (bal (aj w.heap.size w) (.cells #[.int .i64 0,.int .i64 0,.int .i64 0,.int .i64 0,.int .i64 0,.int .i64 0] 78));have A:=hid (aM w #[.int .i64 0,.int .i64 0,.int .i64 0,.int .i64 0,.int .i64 0,.int .i64 0] 78 w.heap.size 6 rfl (by decide));have E:=hid (show Kp (fun k=>k=w.heap.size) (w.alloc (.cells #[.int .i64 0,.int .i64 0,.int .i64 0,.int .i64 0,.int .i64 0,.int .i64 0] 78)) ((w.alloc (.cells #[.int .i64 0,.int .i64 0,.int .i64 0,.int .i64 0,.int .i64 0,.int .i64 0] 78)).setCells w.heap.size 0 (cf 6 s)) from aG (T:=fun k=>k=w.heap.size) (.inl rfl) _ _ _ (aR _ _));have b:=hid (E.below u u.size (fun k hk e=>by omega));have t:=hid (World.rangeAt_setCells_same _ w.heap.size 0 (cf 6 s) (by rw[ax];exact A));have z:=hid J;have O:=hid H;clear I L bt e2 M J H;go_enter Tryz.func13,Tryz.ntmps13
 go_wp2_with fail
 refine y.mono ?_;rintro q w1 ⟨rfl,rfl⟩;go_upto_region 5 with (first|((with_reducible refine gld 78 ?_);refine wp_ldK rfl _ rfl G (i*7) rfl (cf 6 s) (ax _ _) F ?_)|((with_reducible refine gst 78 ?_);refine wp_stK rfl _ _ rfl w.heap.size 0 rfl (cf 6 s) rfl (ax _ _) (bK _ _) A ?_))
 clear E A u F c2 y D;generalize World.setCells _ _ _ _=Q at b t ⊢;generalize w.heap.size=Z at t ⊢;have P:=ey t (cf_at 6 _ 0 (by omega));have n:=ey t (cf_at 6 _ 5 (by omega));rw[aC] at P n;by_cases a:s 0=1
 ·have n0:(s 0==1)=true:=by simpa using a
  clear a n;go_wp2_with fail
  go_ret
  exact⟨3,by decide,rfl,b.out⟩
 have n0:(s 0==1)=false:=by simpa using a
 by_cases m:r≤7
 rotate_left
 ·rw[show decide ((r:Int)<0∨7<(r:Int))=true from aF (by omega)] at c;clear a n d;go_wp2_with fail
  refine (c.out _).mono ?_;rintro q w2 ⟨rfl,rfl⟩;go_wp2_with fail
  go_ret
  exact⟨2,by decide,rfl,b.out⟩
 rw[show decide ((r:Int)<0∨7<(r:Int))=false from ay (by omega)] at c;by_cases h:g≤65535
 rotate_left
 ·rw[show decide ((g:Int)<0∨65535<(g:Int))=true from aF (by omega)] at d;clear a n;go_wp2_with fail
  refine (c.out _).mono ?_;rintro q w2 ⟨rfl,rfl⟩;go_wp2_with fail
  refine (d.out _).mono ?_;rintro q w2 ⟨rfl,rfl⟩;go_wp2_with fail
  go_ret
  exact⟨2,by decide,rfl,b.out⟩
 rw[show decide ((g:Int)<0∨65535<(g:Int))=false from ay (by omega)] at d;have B:0<g:=Nat.pos_of_ne_zero fun e=>z.out ⟨a,m,h,.inl e⟩;have S:decide ((0:Int)<(g:Int))=true:=aF (by omega);have U:decide (0<g)=true:=aF B;by_cases f:s 5=0
 ·have C:s 0≠7∧s 0≠8:=⟨fun e=>z.out ⟨a,m,h,.inr ⟨.inl e,f⟩⟩,fun e=>z.out ⟨a,m,h,.inr ⟨.inr e,f⟩⟩⟩;have m7:(s 0 !=7)=true:=by simpa using C.1
  have m8:(s 0 !=8)=true:=by simpa using C.2
  rw[f] at n;clear a m h B C f;go_wp2_with fail
  refine (c.out _).mono ?_;rintro q w2 ⟨rfl,rfl⟩;go_wp2_with fail
  refine (d.out _).mono ?_;rintro q w2 ⟨rfl,rfl⟩;go_wp2_with fail
  go_ret
  exact⟨4,by decide,rfl,b.out⟩
 ·have m5:decide (0<s 5)=true:=aF (by have:=O.out;omega);clear a m h B f;go_wp2_with fail
  refine (c.out _).mono ?_;rintro q w2 ⟨rfl,rfl⟩;go_wp2_with fail
  refine (d.out _).mono ?_;rintro q w2 ⟨rfl,rfl⟩;go_wp2_with fail
  go_ret
  exact⟨4,by decide,rfl,b.out⟩
set_option maxRecDepth 512
set_option maxHeartbeats 200000
theorem copyBo_ref (a b r g:Int) (p:PW) (h:p.Fits) (hl:∀l∈p.tlbs,l.length≤100) (i:p.slots.length=p.kinds.length*16) (d:boE p a b≠0) (W:World) (wb:Nat) (tag:Nat→Nat) (V:Nat→Value) (bt:BoxT W wb tag V p):
  Calls Tryz.prog 13 #[.pointer (some ⟨wb,0,none⟩),.int .i64 a,.int .i64 b,.int .i64 r,.int .i64 g] W fun x e=>x=.returned (.int .i64 (boE p a b))∧e=W:=by
 have c:=hid (both_ref wb V p a b W (bt.view h hl) i);have f:(boE p a b !=0)=true:=by simpa using d
 generalize boE p a b=x at c f ⊢;clear d;go_enter Tryz.func13,Tryz.ntmps13
 go_wp2_with fail
 refine c.mono ?_;rintro q w1 ⟨rfl,rfl⟩;go_wp2_with fail
 go_ret
 exact⟨rfl,rfl⟩
end Go.Proofs.YtaejnmmpddbbjaaGreatDoor.Wd
namespace Go.Proofs.YtaejnmmpddbbjaaGreatDoor.Wd
open Go.RowKit Mem Bw Nums Mmu
set_option maxRecDepth 100000
set_option maxHeartbeats 8000000
theorem started_ref_all (a:Int) (p:PW) (f:p.Fits) (hl:∀l∈p.tlbs,l.length≤100) (m:Snd p) (W:World) (wb:Nat) (tag:Nat→Nat) (V:Nat→Value) (bt:BoxT W wb tag V p):
  Calls Tryz.prog 18 #[.pointer (some ⟨wb,0,none⟩),.int .i64 a] W fun x i=>x=.returned (.int .i64 (srE p a))∧∃tag',Kt tag tag' W i∧(srE p a=0→∃G,BoxT i wb tag' G (srP p a))∧(srE p a≠0→i=W):=by
 have d:=hid (taskMay_ref wb V p a W (bt.view f hl));by_cases b:thE p a 6=0
 rotate_left
 ·have c:=hid (show srE p a=thE p a 6 from ae b);have J:(thE p a 6 !=0)=true:=by simpa using b
  rw[c.out];have s:=hid b;generalize thE p a 6=x at d J s ⊢;clear b bt c;go_enter Tryz.func18,Tryz.ntmps18
  go_wp2_with fail
  refine d.mono ?_;rintro q w1 ⟨rfl,rfl⟩;go_wp2_with fail
  go_ret
  exact⟨rfl,tag,Kt.refl _ _,fun h=>(absurd h s),fun _=>rfl⟩
 obtain⟨t,z,rfl,hk⟩:=thE_in b;rw[b] at d;have n:t<p.tasks.length:=by rw[m.lf.tasks];exact z
 obtain⟨I,H,j⟩:=bt.o.tasks.form (by omega);have L:W.cell? ⟨wb,3,none⟩=some (.slice (some ⟨I,0,none⟩) p.tasks.length H):=by rw[af bt.r (k:=3) rfl,j]
 have K:=bt.taskAt j n (show 9<20 by omega);have O:(t:Int)<(p.tasks.length:Int):=by omega
 have N:(p.tasks.length:Int)≤1000:=by have:=f.tasks;omega
 obtain⟨A,B,C,r4⟩:=rdN_eq m z hk;have u:=hid (woken_ref wb tag V p t (rdN p t) W bt f n A C r4 B);have g:=hid (show srE p t=if p.tasks.getD t bl 9=0 then 0 else 7 by unfold srE;rw[ag b,ah]);have F:=hid (show srP p t=wnP p t (rdN p t) by unfold srP;rw[ah]);generalize p.tasks.getD t bl 9=y at K g;clear bt f m hk hl j A B C r4 n b;by_cases e:y=0
 ·have c:=hid (g.trans (ag e));subst e;rw[c.out];go_enter Tryz.func18,Tryz.ntmps18
  go_wp2_with fail
  refine d.mono ?_;rintro q w1 ⟨rfl,rfl⟩;go_wp2_with fail
  refine u.mono ?_;rintro q w2 ⟨rfl,tag',v,w⟩;have D:=hid v;have E:=hid w;clear v w;go_wp2_with fail
  go_ret
  exact⟨rfl,tag',E.out,fun _=>⟨V,by rw[F.out];exact D⟩,fun h=>absurd (by first|rfl|assumption|exact c) h⟩
 ·have c:=hid (g.trans (ae e));have M:(y !=0)=true:=by simpa using e
  rw[c.out];clear e u;go_enter Tryz.func18,Tryz.ntmps18
  go_wp2_with fail
  refine d.mono ?_;rintro q w1 ⟨rfl,rfl⟩;go_wp2_with fail
  go_ret
  exact⟨rfl,tag,Kt.refl _ _,fun h=>(by cases h),fun _=>rfl⟩
theorem stopR_ref_all (a:Int) (p:PW) (e:p.Fits) (hl:∀l∈p.tlbs,l.length≤100) (k:Snd p) (W:World) (wb:Nat) (tag:Nat→Nat) (V:Nat→Value) (bt:BoxT W wb tag V p):
  Calls Tryz.prog 144 #[.pointer (some ⟨wb,0,none⟩),.int .i64 a] W fun x d=>x=.returned (.int .i64 (thE p a 6))∧∃tag',Kt tag tag' W d∧(thE p a 6=0→∃r,BoxT d wb tag' r (stP p a.toNat))∧(thE p a 6≠0→d=W):=by
 have c:=hid (taskMay_ref wb V p a W (bt.view e hl));by_cases b:thE p a 6=0
 rotate_left
 ·have s:(thE p a 6==0)=false:=by simpa using b
  have g:=hid b;generalize thE p a 6=x at c s g ⊢;clear b bt;go_enter Tryz.func144,Tryz.ntmps144
  go_wp2_with fail
  refine c.mono ?_;rintro q w1 ⟨rfl,rfl⟩;go_wp2_with fail
  go_ret
  exact⟨rfl,tag,Kt.refl _ _,fun h=>(absurd h g),fun _=>rfl⟩
 obtain⟨t,u,rfl,hk⟩:=thE_in b;rw[b] at c;have o:=hid (stopped_ref wb tag V p t W bt e (by rw[k.lf.tasks];exact u));have f:=hid b;rw[ah];clear bt e k hk hl b;go_enter Tryz.func144,Tryz.ntmps144
 go_wp2_with fail
 refine c.mono ?_;rintro q w1 ⟨rfl,rfl⟩;go_wp2_with fail
 refine o.mono ?_;rintro q w2 ⟨rfl,tag',i,j⟩;have m:=hid i;have n:=hid j;clear i j;go_wp2_with fail
 go_ret
 exact⟨by rw[f.out];rfl,tag',n.out,fun _=>⟨V,m.out⟩,fun h=>absurd (by first|rfl|assumption|exact f) h⟩
theorem ranked_ref_all (a b:Int) (p:PW) (y:p.Fits) (hl:∀l∈p.tlbs,l.length≤100) (U:Snd p) (W:World) (wb:Nat) (tag:Nat→Nat) (V:Nat→Value) (bt:BoxT W wb tag V p):
  Calls Tryz.prog 19 #[.pointer (some ⟨wb,0,none⟩),.int .i64 a,.int .i64 b] W fun x W'=>x=.returned (.int .i64 (rkE p a b))∧∃tag',Kt tag tag' W W'∧(rkE p a b=0→∃V',BoxT W' wb tag' V' (rkP p a b))∧(rkE p a b≠0→W'=W):=by
 have HM:=hid (taskMay_ref wb V p a W (bt.view y hl));by_cases I:thE p a 6=0
 rotate_left
 ·have HE:=hid (show rkE p a b=thE p a 6 from ae I);have aT:(thE p a 6 !=0)=true:=by simpa using I
  rw[HE.out];have HN:=hid I;generalize thE p a 6=x at HM aT HN ⊢;clear I bt HE;go_enter Tryz.func19,Tryz.ntmps19
  go_wp2_with fail
  refine HM.mono ?_;rintro q w1 ⟨rfl,rfl⟩;go_wp2_with fail
  go_ret
  exact⟨rfl,tag,Kt.refl _ _,fun h=>(absurd h HN),fun _=>rfl⟩
 obtain⟨t,ht,rfl,hk⟩:=thE_in I;rw[I] at HM;have au:=hid (show rkE p t b=if within 0 3 b then 0 else 2 by unfold rkE;rw[ag I]);have av:=hid (far_any b 3 W)
 cases B:within 0 3 b with
 |false=>
  rw[B,ae (by decide)] at au;have ao:decide (b<0∨3<b)=true:=aF (by have:=cP B;omega);rw[ao] at av;rw[au.out];clear bt y U hk hl I B ao;go_enter Tryz.func19,Tryz.ntmps19
  go_wp2_with fail
  refine HM.mono ?_;rintro q w1 ⟨rfl,rfl⟩;go_wp2_with fail
  refine av.mono ?_;rintro q w1 ⟨rfl,rfl⟩;go_wp2_with fail
  go_ret
  exact⟨rfl,tag,Kt.refl _ _,fun h=>(by cases h),fun _=>rfl⟩
 |true=>
 rw[B,ag rfl] at au;have aW:=az B;have ao:decide (b<0∨3<b)=false:=ay (by omega);rw[ao] at av;rw[au.out];have ar:t<p.tasks.length:=by rw[U.lf.tasks];exact ht
 obtain⟨g3,cap3,P⟩:=bt.o.tasks.form (by omega);have E3:=hid P;have aM:=hid ar;have a5:(t:Int)<(p.tasks.length:Int):=by omega
 have a2:(p.tasks.length:Int)≤1000:=by have:=y.tasks;omega
 have a3:(p.ready.length:Int)≤1000:=by have:=y.ready;omega
 have aC:=hid y.next;have B0:=hid bt;have aL:=hid (rank_eq U ht hk b);have LT:=ap p t 10 b;have ai:(p.task t 10 b).tasks.getD t bl 18=p.tasks.getD t bl 18:=task_at p t 10 18 b ar (by decide);have ah:(p.task t 10 b).tasks.getD t bl 10=b:=by rw[task_getD p t 10 10 b ar,ag rfl]
 obtain⟨_,_,aV,_⟩:=nf_bounds (snd_task U ht hk).1;have aX:=U.lf.c2;have r1:rdN (p.task t 10 b) t<p.ready.length:=by
  unfold rdN;rw[ai,ah,U.lf.ready];omega
 have r2:(p.task t 10 b).tasks.getD t bl 18*4+(p.task t 10 b).tasks.getD t bl 10=(rdN (p.task t 10 b) t:Int):=by
  unfold rdN;rw[ai,ah];omega
 have M:(({p with ready:=lvs t p.ready}:PW).task t 10 b).Fits:=⟨y.ram,y.kinds,y.slots,by rw[ap];exact y.tasks,y.lines,y.line,y.bits,y.cores,by show (lvs t p.ready).length≤1000;rw[lvs_len];exact y.ready,fun l hm=>by
  have w:l∈lvs t p.ready:=hm;unfold lvs at w;obtain⟨l0,h2,rfl⟩:=List.mem_map.1 w;exact aD (dG _ _) (y.next l0 h2),y.tlbs,y.doms⟩
 have HW:=hid (fun X tg (h:BoxT X wb tg V (({p with ready:=lvs t p.ready}:PW).task t 10 b))=>woken_ref wb tg V (({p with ready:=lvs t p.ready}:PW).task t 10 b) t (rdN (p.task t 10 b) t) X h M (by rw[ap];exact ar) (by show rdN (p.task t 10 b) t<(lvs t p.ready).length;rw[lvs_len];exact r1) ⟨by show 0≤(p.task t 10 b).tasks.getD t bl 18;rw[ai];omega,by show (p.task t 10 b).tasks.getD t bl 18≤1000;rw[ai];omega⟩ ⟨by show 0≤(p.task t 10 b).tasks.getD t bl 10;rw[ah];omega,by show (p.task t 10 b).tasks.getD t bl 10≤1000;rw[ah];omega⟩ r2);clear bt y U hk hl I B ao aW P ar LT ai ah aV aX r1 r2 M;go_enter Tryz.func19,Tryz.ntmps19
 go_wp2_with fail
 refine HM.mono ?_;rintro q w1 ⟨rfl,rfl⟩;go_wp2_with fail
 refine av.mono ?_;rintro q w1 ⟨rfl,rfl⟩;go_wp2_with fail
 go_loopw [8,9] (fun s i wr=>∃(k:Nat) (tg:Nat→Nat),k≤p.ready.length∧s=.bool (decide (0<cna t (p.ready.take k)))∧i=.int .i64 k∧Hid (BoxT wr wb tg V {p with ready:=mapK (goneP fun x=>x==(t:Int)) k p.ready})∧Hid (Kt tag tg W wr)) (fun _ i _=>p.ready.length - (intOf i).toNat)
 case atStart=>exact⟨0,tag,by omega,rfl,rfl,hid (by rw[mapK_zero];exact B0),hid (Kt.refl _ _)⟩
 case round=>
  obtain⟨k,tg,a0,rfl,rfl,F,HK⟩:=hrel;obtain⟨d,eL⟩:=F.o.ready.form;have E:=hid (show V 7=.slice (some ⟨d,0,none⟩) p.ready.length p.ready.length from eL.trans (cX (fun m=>Value.slice (some ⟨d,0,none⟩) m m) (cV _ _ _)));have J:=hid (show ListT wr tg 9 13 22 3 1 p.ready.length (.slice (some ⟨d,0,none⟩) p.ready.length p.ready.length) (ci (mapK (goneP fun x=>x==(t:Int)) k p.ready)) by
   have w:=F.o.ready;simp only at w;rw[cV,E.out] at w;exact w)
  have cl:wr.cell? ⟨wb,7,none⟩=some (.slice (some ⟨d,0,none⟩) p.ready.length p.ready.length):=by rw[af F.r (k:=7) rfl,E.out]
  clear eL;by_cases n:k<p.ready.length
  ·have a4:(k:Int)<(p.ready.length:Int):=by omega
   have Z:=hid (show decide (0<cna t (p.ready.take (k+1)))=(decide (0<cna t (p.ready.take k))||inB t p.ready[k]) by
    have w:cna t (p.ready.take (k+1))=cna t (p.ready.take k)+cn t p.ready[k]:=sum_next (cn t) n;unfold inB;rw[w,dF];simp only[aU,cd];omega)
   obtain⟨ux,aN,aP⟩:=J.at (j:=k) n;have aB:=hid (show IntsIn wr ux p.ready[k] by
    have L:k<(mapK (goneP fun x=>x==(t:Int)) k p.ready).length:=by rw[cV];exact n
    have w:=aP.1;unfold ci at w;rw[aa,ac L,aS,mapK_at _ _ _ n L] at w;exact dm w)
   have ax:=hid (in_any ux p.ready[k] t wr aB (aC.out _ (aw n)));clear aP;generalize decide (0<cna t (p.ready.take k))=sb at Z ⊢;generalize aY:inB t p.ready[k]=ic at Z ax;clear aY
   cases sb with
   |true=>
    rw[Bool.true_or] at Z;clear ax aB;go_wp2_with fail
    clear cl aN;obtain⟨u,cu,Y⟩:=J.at (j:=k) n;have aj:=hid (show ci (mapK (goneP fun x=>x==(t:Int)) k p.ready) k=(p.ready[k].length,ints p.ready[k]) by
     have L:k<(mapK (goneP fun x=>x==(t:Int)) k p.ready).length:=by rw[cV];exact n
     unfold ci;rw[aa,ac L,aS,mapK_at _ _ _ n L])
    rw[aj.out] at Y;have HU:=hid (dm Y.1);have aG:=hid (aC.out _ (aw n));have ad:=hid (fun X (h:Below wr.heap.size wr X)=>show X.frozen? ⟨d,k,none⟩=false from (J.kp (T:=fun _=>False) (.of_below h) (fun _ _=>rfl) (fun _ _ e=>e)).fr k);have H:=hid (fun X (h:Below wr.heap.size wr X)=>show X.cell? ⟨wb,7,none⟩=some (.slice (some ⟨d,0,none⟩) p.ready.length p.ready.length) by rw[af (F.below h).r (k:=7) rfl,E.out]);have G:=hid (fun X (h:Below wr.heap.size wr X)=>show X.cell? ⟨d,k,none⟩=some u from (h.cell (al _ _ cu)).trans cu);have C:Hid (Below wr.heap.size wr wr.drew):=hid (aA wr 1);have ab:=hid (fun X v (h:Below wr.heap.size wr X) (A:X.ownsRow wr.heap.size 3 1 v ((goneP fun x=>x==(t:Int)) p.ready[k]).length (ints ((goneP fun x=>x==(t:Int)) p.ready[k])))=>show BoxT (X.setCell ⟨d,k,none⟩ v) wb (tagN tg wr.heap.size (13+3*k)) V {p with ready:=mapK (goneP fun x=>x==(t:Int)) (k+1) p.ready}∧Kt tag (tagN tg wr.heap.size (13+3*k)) W (X.setCell ⟨d,k,none⟩ v) from by
     obtain⟨aK,M⟩:=J.put (tag':=tagN tg wr.heap.size (13+3*k)) (w1:=X) (u:=v) (c:=(((goneP fun x=>x==(t:Int)) p.ready[k]).length,ints ((goneP fun x=>x==(t:Int)) p.ready[k]))) (j:=k) n (fun j=>by omega) (.of_below h) (fun k hk=>cW hk) ⟨A.mono (bI _),fun j e=>by
      unfold tagN;rw[ae (by have:=(A.lt j e).1;omega)]⟩
     refine⟨F.ready M (fun k hk=>cW hk) ?_,HK.trans (Kt.of (tag':=tagN tg wr.heap.size (13+3*k)) M (fun k e=>by rcases e with e|⟨j,e⟩<;>omega) (fun k hk=>cW hk))⟩;rw[cV,E.out,mapK_succ _ _ _ n,ci_set _ _ (by rw[cV];exact n)];exact aK)
    clear Y cu aj;refine wp_region_F (S:=fun X=>X.cell? ⟨wb,7,none⟩=some (.slice (some ⟨d,0,none⟩) p.ready.length p.ready.length)) (R:=fun X=>X.cell? ⟨d,k,none⟩=some u) [15] (by kernel_rfl) (H.out _ C) (G.out _ C) (fun an am=>?_);have g:=hid an;have f:=hid am;clear an am;refine tF 0 (.pointer (some ⟨wb,0,none⟩)) rfl g (fun _=>f.out) ?_;simp only[jj];refine tF 1 (.pointer (some ⟨wb,0,none⟩)) rfl g (fun _=>f.out) ?_;simp only[jj];refine tF 2 (.pointer (some ⟨wb,7,none⟩)) rfl g (fun _=>f.out) ?_;simp only[jj];refine tG 3 (.slice (some ⟨d,0,none⟩) p.ready.length p.ready.length) rfl g (fun _=>f.out) ?_;simp only[jj];refine tF 4 (.int .i64 k) rfl g (fun _=>f.out) ?_;simp only[jj];refine tF 5 (.pointer (some ⟨wb,0,none⟩)) rfl g (fun _=>f.out) ?_;simp only[jj];refine tF 6 (.pointer (some ⟨wb,0,none⟩)) rfl g (fun _=>f.out) ?_;simp only[jj];refine tF 7 (.pointer (some ⟨wb,7,none⟩)) rfl g (fun _=>f.out) ?_;simp only[jj];refine tG 8 (.slice (some ⟨d,0,none⟩) p.ready.length p.ready.length) rfl g (fun _=>f.out) ?_;simp only[jj];refine tF 9 (.int .i64 k) rfl g (fun _=>f.out) ?_;simp only[jj];refine tF 10 (.pointer (some ⟨d,k,none⟩)) rfl g (fun _=>f.out) ?_;simp only[jj];refine wpAnyF_takeR (i:=11) (v:=u) rfl (by kernel_rfl) (by kernel_rfl) (by kernel_rfl) (by kernel_rfl) (by kernel_rfl) (by kernel_rfl) (fun _ _ _ h=>h) (Or.inl ⟨by rfl,fun W h=>by have h3:=h.2;clear h;go_simp⟩) g (fun _=>f.out) ?_;simp only[jj];refine tF 12 (.int .i64 t) rfl g (fun _=>f.out) ?_;simp only[jj];refine r1 13 rfl (fun K D=>?_);go_simp
    refine (without_ref u p.ready[k] t _ (HU.below C) aG).mono ?_;rintro r w1 ⟨v,rfl,A,B⟩;obtain⟨qv,cv,rfl⟩:=own_form A;have z:=hid (btr C B);have HO:=hid A;clear A B;go_wp2_with fail
    refine D _ _ (H.out _ z) (fun _=>G.out _ z) (fun _ _=>?_);clear D K
    try simp only[Act.put,jD,jE,jF]
    have O:=hid (H.out _ z);have N:=hid (G.out _ z);clear g f;refine tF 14 (.pointer (some ⟨d,k,none⟩)) rfl O (fun _=>N.out) ?_;simp only[jj];have aI:=O.out;have aH:=N.out;have aJ:=ad.out _ z;obtain⟨Q,aq⟩:=ab.out w1 _ z HO;have B6:=hid Q;have K6:=hid aq;have S6:=hid (show (w1.setCell ⟨d,k,none⟩ (.slice qv ((goneP fun x=>x==(t:Int)) p.ready[k]).length cv)).cell? ⟨wb,7,none⟩=some (.slice (some ⟨d,0,none⟩) p.ready.length p.ready.length) by rw[af Q.r (k:=7) rfl,E.out]);clear Q aq ab HO;refine r1 15 rfl (fun K D=>?_);go_simp
    refine D _ _ S6 (notClean (by kernel_rfl)) (fun _ _=>?_);clear D K
    try simp only[Act.put]
    refine wpAnyF_done (by kernel_rfl) ?_ _;generalize World.setCell _ _ _=W6 at*;clear H G C ad HU z O N S6 aI aH aJ;go_wp2_with fail
    exact⟨⟨k+1,_,by omega,by rw[Z.out],by go_num,B6,K6⟩,by simp[intOf];omega⟩
   |false=>
    rw[Bool.false_or] at Z;go_wp2_with fail
    refine ax.mono ?_;rintro r0 w0 ⟨rfl,rfl⟩;clear ax aB;go_wp2_with fail
    clear cl aN;obtain⟨u,cu,Y⟩:=J.at (j:=k) n;have aj:=hid (show ci (mapK (goneP fun x=>x==(t:Int)) k p.ready) k=(p.ready[k].length,ints p.ready[k]) by
     have L:k<(mapK (goneP fun x=>x==(t:Int)) k p.ready).length:=by rw[cV];exact n
     unfold ci;rw[aa,ac L,aS,mapK_at _ _ _ n L])
    rw[aj.out] at Y;have HU:=hid (dm Y.1);have aG:=hid (aC.out _ (aw n));have ad:=hid (fun X (h:Below wr.heap.size wr X)=>show X.frozen? ⟨d,k,none⟩=false from (J.kp (T:=fun _=>False) (.of_below h) (fun _ _=>rfl) (fun _ _ e=>e)).fr k);have H:=hid (fun X (h:Below wr.heap.size wr X)=>show X.cell? ⟨wb,7,none⟩=some (.slice (some ⟨d,0,none⟩) p.ready.length p.ready.length) by rw[af (F.below h).r (k:=7) rfl,E.out]);have G:=hid (fun X (h:Below wr.heap.size wr X)=>show X.cell? ⟨d,k,none⟩=some u from (h.cell (al _ _ cu)).trans cu);have C:Hid (Below wr.heap.size wr wr.drew):=hid (aA wr 1);have ab:=hid (fun X v (h:Below wr.heap.size wr X) (A:X.ownsRow wr.heap.size 3 1 v ((goneP fun x=>x==(t:Int)) p.ready[k]).length (ints ((goneP fun x=>x==(t:Int)) p.ready[k])))=>show BoxT (X.setCell ⟨d,k,none⟩ v) wb (tagN tg wr.heap.size (13+3*k)) V {p with ready:=mapK (goneP fun x=>x==(t:Int)) (k+1) p.ready}∧Kt tag (tagN tg wr.heap.size (13+3*k)) W (X.setCell ⟨d,k,none⟩ v) from by
     obtain⟨aK,M⟩:=J.put (tag':=tagN tg wr.heap.size (13+3*k)) (w1:=X) (u:=v) (c:=(((goneP fun x=>x==(t:Int)) p.ready[k]).length,ints ((goneP fun x=>x==(t:Int)) p.ready[k]))) (j:=k) n (fun j=>by omega) (.of_below h) (fun k hk=>cW hk) ⟨A.mono (bI _),fun j e=>by
      unfold tagN;rw[ae (by have:=(A.lt j e).1;omega)]⟩
     refine⟨F.ready M (fun k hk=>cW hk) ?_,HK.trans (Kt.of (tag':=tagN tg wr.heap.size (13+3*k)) M (fun k e=>by rcases e with e|⟨j,e⟩<;>omega) (fun k hk=>cW hk))⟩;rw[cV,E.out,mapK_succ _ _ _ n,ci_set _ _ (by rw[cV];exact n)];exact aK)
    clear Y cu aj;refine wp_region_F (S:=fun X=>X.cell? ⟨wb,7,none⟩=some (.slice (some ⟨d,0,none⟩) p.ready.length p.ready.length)) (R:=fun X=>X.cell? ⟨d,k,none⟩=some u) [15] (by kernel_rfl) (H.out _ C) (G.out _ C) (fun an am=>?_);have g:=hid an;have f:=hid am;clear an am;refine tF 0 (.pointer (some ⟨wb,0,none⟩)) rfl g (fun _=>f.out) ?_;simp only[jj];refine tF 1 (.pointer (some ⟨wb,0,none⟩)) rfl g (fun _=>f.out) ?_;simp only[jj];refine tF 2 (.pointer (some ⟨wb,7,none⟩)) rfl g (fun _=>f.out) ?_;simp only[jj];refine tG 3 (.slice (some ⟨d,0,none⟩) p.ready.length p.ready.length) rfl g (fun _=>f.out) ?_;simp only[jj];refine tF 4 (.int .i64 k) rfl g (fun _=>f.out) ?_;simp only[jj];refine tF 5 (.pointer (some ⟨wb,0,none⟩)) rfl g (fun _=>f.out) ?_;simp only[jj];refine tF 6 (.pointer (some ⟨wb,0,none⟩)) rfl g (fun _=>f.out) ?_;simp only[jj];refine tF 7 (.pointer (some ⟨wb,7,none⟩)) rfl g (fun _=>f.out) ?_;simp only[jj];refine tG 8 (.slice (some ⟨d,0,none⟩) p.ready.length p.ready.length) rfl g (fun _=>f.out) ?_;simp only[jj];refine tF 9 (.int .i64 k) rfl g (fun _=>f.out) ?_;simp only[jj];refine tF 10 (.pointer (some ⟨d,k,none⟩)) rfl g (fun _=>f.out) ?_;simp only[jj];refine wpAnyF_takeR (i:=11) (v:=u) rfl (by kernel_rfl) (by kernel_rfl) (by kernel_rfl) (by kernel_rfl) (by kernel_rfl) (by kernel_rfl) (fun _ _ _ h=>h) (Or.inl ⟨by rfl,fun W h=>by have h3:=h.2;clear h;go_simp⟩) g (fun _=>f.out) ?_;simp only[jj];refine tF 12 (.int .i64 t) rfl g (fun _=>f.out) ?_;simp only[jj];refine r1 13 rfl (fun K D=>?_);go_simp
    refine (without_ref u p.ready[k] t _ (HU.below C) aG).mono ?_;rintro r w1 ⟨v,rfl,A,B⟩;obtain⟨qv,cv,rfl⟩:=own_form A;have z:=hid (btr C B);have HO:=hid A;clear A B;go_wp2_with fail
    refine D _ _ (H.out _ z) (fun _=>G.out _ z) (fun _ _=>?_);clear D K
    try simp only[Act.put,jD,jE,jF]
    have O:=hid (H.out _ z);have N:=hid (G.out _ z);clear g f;refine tF 14 (.pointer (some ⟨d,k,none⟩)) rfl O (fun _=>N.out) ?_;simp only[jj];have aI:=O.out;have aH:=N.out;have aJ:=ad.out _ z;obtain⟨Q,aq⟩:=ab.out w1 _ z HO;have B6:=hid Q;have K6:=hid aq;have S6:=hid (show (w1.setCell ⟨d,k,none⟩ (.slice qv ((goneP fun x=>x==(t:Int)) p.ready[k]).length cv)).cell? ⟨wb,7,none⟩=some (.slice (some ⟨d,0,none⟩) p.ready.length p.ready.length) by rw[af Q.r (k:=7) rfl,E.out]);clear Q aq ab HO;refine r1 15 rfl (fun K D=>?_);go_simp
    refine D _ _ S6 (notClean (by kernel_rfl)) (fun _ _=>?_);clear D K
    try simp only[Act.put]
    refine wpAnyF_done (by kernel_rfl) ?_ _;generalize World.setCell _ _ _=W6 at*;clear H G C ad HU z O N S6 aI aH aJ;go_wp2_with fail
    exact⟨⟨k+1,_,by omega,by rw[Z.out],by go_num,B6,K6⟩,by simp[intOf];omega⟩
  ·obtain rfl:k=p.ready.length:=by omega
   have aZ:¬((p.ready.length:Int)<(p.ready.length:Int)):=by omega
   have BR:=hid (show BoxT wr wb tg V {p with ready:=lvs t p.ready} by
    have w:=F.out;rw[show mapK (goneP fun x=>x==(t:Int)) p.ready.length p.ready=lvs t p.ready from mapK_all _ _] at w;exact w)
   rw[dg];have P:V 3=.slice (some ⟨g3,0,none⟩) ({p with ready:=lvs t p.ready}:PW).tasks.length cap3:=E3.out;have c3:wr.cell? ⟨wb,3,none⟩=some (.slice (some ⟨g3,0,none⟩) p.tasks.length cap3):=by rw[af BR.r (k:=3) rfl,E3.out]
   have aQ:=BR.taskAt P aM (show 10<20 by omega);have aO:=BR.tasksFr P (t*20+10);obtain⟨b1,k1⟩:=BR.task P aM (show 10<20 by omega) b;have B1:=hid b1;have K1:=hid (HK.trans k1);clear b1 k1 P F HK J E B0 BR;by_cases h7:0<cna t p.ready
   ·have aE:=hid (show rkP p t b=wnP (({p with ready:=lvs t p.ready}:PW).task t 10 b) t (rdN (p.task t 10 b) t) by rw[←aL.out];exact ag h7);rw[aF h7];clear h7;go_upto_region 13 with fail
    generalize World.setCell _ _ _=W1 at*;clear cl c3 aQ aO;have aR:=hid (HW.out W1 tg B1);go_wp2_with fail
    refine aR.mono ?_;rintro q w2 ⟨rfl,tag',w,h2⟩;have H1:=hid w;have H2:=hid h2;clear w h2;go_wp2_with fail
    go_ret
    exact⟨rfl,tag',K1.trans H2,fun _=>⟨V,by rw[aE.out];exact H1⟩,fun h=>absurd (by first|rfl|assumption|exact HE) h⟩
   ·have aE:=hid (show rkP p t b=({p with ready:=lvs t p.ready}:PW).task t 10 b by rw[←aL.out];exact ae h7);rw[ay h7];clear h7 HW;go_upto_region 13 with fail
    generalize World.setCell _ _ _=W1 at*;clear cl c3 aQ aO;go_wp2_with fail
    go_ret
    exact⟨rfl,tg,K1.out,⟨V,by rw[aE.out];exact B1⟩⟩
set_option maxRecDepth 512
set_option maxHeartbeats 200000
theorem fro_at {S:List (Nat→Int)} {i:Nat} (hi:i<S.length):fro S i=S[i] 6:=by
 unfold fro;rw[ag (by omega),ah,aa,ac hi];rfl
theorem up_at {r:Nat→Nat} {S:List (Nat→Int)} (h:Up r S) {i:Nat} (hi:i<S.length):S[i] 6= -1∨∃u:Nat,S[i] 6=u∧u<S.length∧r u<r i:=by
 have e:S.getD i eS=S[i]:=by rw[aa,ac hi];rfl
 rw[←e];exact h.fr i
set_option maxRecDepth 100000
set_option maxHeartbeats 1000000
theorem madeFrom_ref {r:Nat→Nat} (vb:Nat) (V:Nat→Value) (p:PW) (i t:Nat) (w:World) (o:ViewAt w vb V p) (n:Up r p.slots) (hi:i<p.slots.length):
  Calls Tryz.prog 79 #[.pointer (some ⟨vb,0,none⟩),.int .i64 i,.int .i64 t] w fun x w'=>x=.returned (.bool (unB p.slots t i))∧w=w':=by
 have c2:w.cell? ⟨vb,2,none⟩=some (V 2):=af o.r rfl;obtain⟨q,b,off,cap,e2,B,A⟩:=o.v.slots;have F:=B (by omega);subst F;have I:(i:Int)<(p.slots.length:Int):=by omega
 have c6:=ey (A i hi) (cf_at 7 _ 6 (by omega));have m:=hid (show (UnS p.slots t (fro p.slots i)↔UnS p.slots t (p.slots[i] 6))∧(p.slots[i] 6= -1∨∃j:Nat,p.slots[i] 6=j∧j<p.slots.length) by
  refine⟨by rw[fro_at hi],?_⟩;rcases up_at n hi with h|⟨u,h,g, -⟩
  ·exact .inl h
  ·exact .inr ⟨u,h,g⟩)
 generalize p.slots[i] 6=H at c6 m;have D:=hid A;have f:=hid n;clear o B A n hi;go_enter Tryz.func79,Tryz.ntmps79
 go_wp2_with fail
 clear c6
 go_loopw [1] (fun v wr=>∃y:Int,v=.int .i64 y∧Hid ((UnS p.slots t (fro p.slots i)↔UnS p.slots t y)∧(y= -1∨∃j:Nat,y=j∧j<p.slots.length))∧Hid (w=wr)) (fun v _=>if intOf v<0 then 0 else r (intOf v).toNat+1)
 case atStart=>exact⟨H,rfl,m,hid rfl⟩
 case round=>
  obtain⟨y,rfl,a,C⟩:=hrel;obtain rfl:=C.out;clear m;rcases a.2 with s|⟨j,s,l⟩
  ·subst s;have E:¬((0:Int)≤ -1):=by omega
   have c:=hid (show unB p.slots t i=false by
    cases e:unB p.slots t i with
    |false=>rfl
    |true=>exact absurd (a.1.1 ((unB_iff f t i).1 e)) uns_no)
   clear a;go_wp2_with fail
   go_ret
   exact⟨by rw[c.out];rfl,rfl⟩
  ·subst s;have E:(0:Int)≤(j:Int):=by omega
   by_cases d:(j:Int)=t
   ·have G:((j:Int)==(t:Int))=true:=bp.2 d;have c:=hid (show unB p.slots t i=true from (unB_iff f t i).2 (a.1.2 (by rw[d];exact uns_self)));clear a d;go_wp2_with fail
    go_ret
    exact⟨by rw[c.out];rfl,rfl⟩
   ·have G:((j:Int)==(t:Int))=false:=beq_eq_false_iff_ne.2 d;have J:(j:Int)<(p.slots.length:Int):=by omega
    have c7:=ey (D.out j l) (cf_at 7 _ 6 (by omega));have c:=hid (show ((UnS p.slots t (fro p.slots i)↔UnS p.slots t (p.slots[j] 6))∧(p.slots[j] 6= -1∨∃k:Nat,p.slots[j] 6=k∧k<p.slots.length))∧(if p.slots[j] 6<0 then 0 else r (p.slots[j] 6).toNat+1)<r j+1 by
     refine⟨⟨a.1.trans (by rw[uns_step d,fro_at l]),?_⟩,?_⟩
     ·rcases up_at f l with h|⟨u,h,g, -⟩
      ·exact .inl h
      ·exact .inr ⟨u,h,g⟩
     ·rcases up_at f l with h|⟨u,h, -,g⟩
      ·rw[h,ag (by decide)];omega
      ·rw[h,ae (by omega),ah];omega)
    generalize p.slots[j] 6=z at c7 c;clear a d;go_wp2_with fail
    refine⟨⟨z,rfl,hid c.1,hid (by simp)⟩,?_⟩;show (if z<0 then 0 else r z.toNat+1)<(if (j:Int)<0 then 0 else r (j:Int).toNat+1)
    rw[ae (show ¬(j:Int)<0 by omega),ah];exact c.2
set_option maxRecDepth 512
set_option maxHeartbeats 200000
theorem md_len (S:List (Nat→Int)) (t n:Nat):(mdL S t n).length≤n:=by
 unfold mdL;rw[bN];exact aD (dG _ _) (by rw[List.length_range];exact au _)
theorem app_md {w wr:World} {zs:List Int} {y:Int} {h:Option Addr} {cu:Nat} (hB:Below w.heap.size w wr) (hl:zs.length≤1000) (f:wr.ownsRow w.heap.size 3 1 (.slice h zs.length cu) zs.length (ints zs)):
  ∃q c w',(Builtin.append_ #[22,22] 22 #[.slice h zs.length cu,.slice (some ⟨wr.heap.size,0,none⟩) 1 1]).run Tryz.prog (wr.alloc (.cells #[.int .i64 y] 3))=.ok (.slice q (zs.length+1) c) w'∧w'.ownsRow w.heap.size 3 1 (.slice q (zs.length+1) c) (zs++[y]).length (ints (zs++[y]))∧Below w.heap.size w w':=by
 have b:=bal (aj wr.heap.size wr) (.cells #[.int .i64 y] 3);have g:=aD hB.size b.size;obtain⟨i,hi,p,n,o⟩:=info_get infoI;obtain⟨r,w',m,d,l,_⟩:=run_append_own (P:=Tryz.prog) (wr.alloc (.cells #[.int .i64 y] 3)) w.heap.size 22 22 3 i (.int .i64 0) 1 8 Tryz.underlying22 hi p n o rfl (by decide) _ _ _ (eE f b) ⟨wr.heap.size,0,none⟩ 1 1 [.int .i64 y] rfl (fun j v a=>by
  match j,a with
  |0,a=>cases a;exact cJ wr #[.int .i64 y] 3 0
  |j+1,a=>simp at a) (int1 y) (by unfold maxLen;omega) (by omega) g
 obtain⟨q,c,rfl⟩:=own_form d;have e:ints zs++[Value.int .i64 y]=ints (zs++[y]):=by unfold ints;simp
 exact⟨q,c,w',m,by rw[←e,av];exact d,(btr hB b).grown l g (fun k hk=>(f.lt k hk).1)⟩
set_option maxRecDepth 100000
set_option maxHeartbeats 2000000
theorem made_ref {r:Nat→Nat} (vb:Nat) (V:Nat→Value) (p:PW) (t:Nat) (w:World) (m:ViewAt w vb V p) (H:Up r p.slots):
  Calls Tryz.prog 39 #[.pointer (some ⟨vb,0,none⟩),.int .i64 t] w fun x w'=>∃v,x=.returned v∧IntsIn w' v (mdL p.slots t p.slots.length)∧Below w.heap.size w w':=by
 have hl:(p.slots.length:Int)≤1000:=by have:=m.f.slots;omega
 have M:=hid m;have o:=hid H;obtain⟨q,b,off,cap,e2,E, -⟩:=m.v.slots;have Q:=hid E;clear m H E;go_enter Tryz.func39,Tryz.ntmps39
 go_wp2_with fail
 go_loopw [5,6] (fun u i wr=>∃(k:Nat) (c:Option Addr) (cu:Nat),k≤p.slots.length∧i=.int .i64 k∧u=.slice c (mdL p.slots t k).length cu∧Hid (wr.ownsRow w.heap.size 3 1 (.slice c (mdL p.slots t k).length cu) (mdL p.slots t k).length (ints (mdL p.slots t k)))∧Hid (Below w.heap.size w wr)) (fun _ i _=>p.slots.length - (intOf i).toNat)
 case atStart=>exact⟨0,none,0,by omega,rfl,rfl,hid (cT _ _ _ _),hid (aj _ _)⟩
 case round=>
  obtain⟨k,c,cu,hk,rfl,rfl,g,d⟩:=hrel;have h:=hid (M.below d);have c2:wr.cell? ⟨vb,2,none⟩=some (V 2):=af h.r rfl;by_cases s:k<p.slots.length
  ·have W:(k:Int)<(p.slots.length:Int):=by omega
   obtain⟨z,R,X,S,T,F,I⟩:=h.v.slots;have O:=F (by omega);subst O;have c0:=range_at0 (I k s) (cf_at 7 _ 0 (by omega));have A:=hid (show (mdL p.slots t k).length≤1000 from aD (md_len _ _ _) (by omega));have a:=hid (mdL_succ p.slots t k);have n:=hid (madeFrom_ref vb V p k t wr h o s);have l:=hid (show p.slots[k] 0=0→unB p.slots t k=false from fun N=>by
    cases e:unB p.slots t k with
    |false=>rfl
    |true=>exact absurd (show (p.slots.getD k eS) 0=0 by rw[slot_get s];exact N) (und_full o ((unB_iff o t k).1 e)))
   generalize p.slots[k] 0=y at c0 l;clear F I h e2;generalize mdL p.slots t k=zs at g A a ⊢;by_cases j:y=0
   ·rw[l.out j,ae (by decide),dB] at a;have P:(y !=0)=false:=by simpa using j
    clear j l n;go_wp2_with fail
    refine⟨⟨k+1,c,cu,by omega,by go_num,by rw[a.out],hid (by rw[a.out];exact g),d⟩,by simp[intOf];omega⟩
   ·have P:(y !=0)=true:=by simpa using j
    clear j l;go_wp2_with fail
    refine n.mono ?_;rintro x w1 ⟨rfl,rfl⟩;clear n
    cases e:unB p.slots t k with
    |false=>
     rw[e,ae (by decide),dB] at a;clear e;go_wp2_with fail
     refine⟨⟨k+1,c,cu,by omega,by go_num,by rw[a.out],hid (by rw[a.out];exact g),d⟩,by simp[intOf];omega⟩
    |true=>
     rw[e,ag rfl] at a;obtain⟨z,B,w',G,C,D⟩:=app_md (y:=(k:Int)) d A g;have L:=hid G;have K:=hid C;have J:=hid D;clear G C D e;go_wp2_with (first|(at_builtin;refine wpList_app rfl _ _ 22 rfl (.slice c zs.length cu) (.slice (some ⟨wr.heap.size,0,none⟩) 1 1) (.slice z (zs.length+1) B) rfl rfl L ?_))
     exact⟨⟨k+1,z,B,by omega,by go_num,by rw[a.out,av];rfl,hid (by rw[a.out];have:=K.out;rw[av] at this ⊢;exact this),J⟩,by simp[intOf];omega⟩
  ·obtain rfl:k=p.slots.length:=by omega
   have U:¬((p.slots.length:Int)<(p.slots.length:Int)):=by omega
   clear h;go_wp2_with fail
   go_ret
   exact⟨_,rfl,dm g,d.out⟩
end Go.Proofs.YtaejnmmpddbbjaaGreatDoor.Wd
