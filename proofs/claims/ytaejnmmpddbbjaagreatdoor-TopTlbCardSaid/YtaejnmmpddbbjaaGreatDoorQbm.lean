/- Qbm -/
import Derived.Test.YtaejnmmpddbbjaaGreatDoorQbl
namespace Go.Proofs.YtaejnmmpddbbjaaGreatDoor.Wd
open Go.RowKit Mem Bw Nums Mmu
theorem far_cell {W:World} {g b o a:Nat} {v x:Value} (h:W.cell? ⟨b,a,none⟩=some x) (c:b≠g):(W.setCell ⟨g,o,none⟩ v).cell? ⟨b,a,none⟩=some x:=(aI W _ _ _ (by intro e;have:=cX Addr.block e;exact c this.symm)).trans h
theorem _root_.Go.Proofs.YtaejnmmpddbbjaaGreatDoor.bS:type_of% @far_cell:= @far_cell
theorem off_cell {W:World} {g o a:Nat} {v x:Value} (h:W.cell? ⟨g,a,none⟩=some x) (b:a≠o):(W.setCell ⟨g,o,none⟩ v).cell? ⟨g,a,none⟩=some x:=(aI W _ _ _ (by intro e;have:=cX Addr.off e;exact b this.symm)).trans h
structure Eq1 (p q:PW):Prop where
 s:Sm p q
 k:q.kinds=p.kinds
 l:q.tasks.length=p.tasks.length
theorem Eq1.has {p q:PW} (h:Eq1 p q) {u:Nat} (a:p.k u=6) {k:Nat} {v:Int} (hk:k≠9∧k≠10∧k≠14∧k≠17∧k≠18) (b:fOk q k v=true):Eq1 p (q.task u k v):=
 ⟨h.s.trans (h.s.w.has (by show q.kinds.getD u 0=6;rw[h.k];exact a) hk b),h.k,by show (List.set ..).length=_;rw[ar];exact h.l⟩
theorem Eq1.or {p q:PW} (h:Eq1 p q) {f:Nat} {k:Int} (hl:f<p.kinds.length) (a:p.k f=k):isOrB q (f:Int) k=true:=by
 unfold isOrB;rw[isB_k (by rw[h.k];exact hl),show q.k f=k by show q.kinds.getD f 0=k;rw[h.k];exact a];simp
set_option maxRecDepth 100000
set_option maxHeartbeats 16000000
theorem equipped_ok (wb:Nat) (tag:Nat→Nat) (V:Nat→Value) (p:PW) (t:Nat) (g:Nat→Int) (w:World) (bt:BoxT w wb tag V p) (hp:Lv p) (h6:p.k t=6) (hg:∀k,k<8→0≤g k∧g k≤65535):
  Calls Tryz.prog 143 #[.pointer (some ⟨wb,0,none⟩),.int .i64 (t:Int),.agg (cf 8 g).toArray] w fun r w'=>Okd p wb tag w r w':=by
 have lf:=hp.w.m.tk.lf;have HV:=hid (bt.view hp.w.fits hp.w.t100);have BT:=hid bt;have HP:=hid hp;obtain⟨e,kt,e3⟩:∃g cap,V 3=.slice (some ⟨g,0,none⟩) p.tasks.length cap:=bt.o.tasks.form (by have:=lf.tasks;have:=lf.k1;show 0<p.tasks.length;omega)
 have Z:=hid e3;have aw:=k_in (p:=p) (f:=t) (by rw[h6];decide);have bA:(t:Int)<(p.tasks.length:Int):=by have:=lf.tasks;omega
 have bB:(p.tasks.length:Int)≤1000:=by have:=lf.tasks;have:=lf.k2;omega
 have Q:=hid (show p.tasks.length=p.kinds.length from by have:=lf.tasks;omega);have B0:=hid (bal (aj w.heap.size w) (.cells (cf 8 g).toArray 43));have T0:=hid (range_new w (cf 8 g) 43 _ rfl);have CT:=hid (fun i k (hi:i<p.tasks.length) (hk:k<20)=>cu B0 (bt.taskAt e3 hi hk));have H:=cu B0 (show w.cell? ⟨wb,3,none⟩=some (.slice (some ⟨e,0,none⟩) p.tasks.length kt) by rw[←e3];exact af bt.r rfl);have td:=CT.out t 11 (by rw[Q.out];exact aw) (by decide);have a0:=hid (hp.w.m.tk.a.ok t h6 19 (by decide));have am:=hid (show e<w.heap.size from al _ _ (bt.taskAt e3 (i:=t) (k:=11) (by rw[Q.out];exact aw) (by decide)));have t1:=af T0 (cf_at 8 g 1 (by decide));have bg:=hid (fun W (h:Below w.heap.size w W)=>eD wb V p (p.t t 11) (g 1) 6 2 W (HV.below h) hp.s);have aP:=hid (kAt_rng p (p.t t 11) (g 1) 6 2);have aT:=hid (fun h=>kAt_to hp.w (n:=p.t t 11) (a:=g 1) (k:=6) (r:=2) (by decide) h);have t2:=af T0 (cf_at 8 g 2 (by decide));have bj:=hid (fun W (h:Below w.heap.size w W)=>eD wb V p (p.t t 11) (g 2) 5 4 W (HV.below h) hp.s);have aQ:=hid (kAt_rng p (p.t t 11) (g 2) 5 4);have aU:=hid (fun h=>kAt_to hp.w (n:=p.t t 11) (a:=g 2) (k:=5) (r:=4) (by decide) h);have t3:=af T0 (cf_at 8 g 3 (by decide));have bk:=hid (fun W (h:Below w.heap.size w W)=>eD wb V p (p.t t 11) (g 3) 4 4 W (HV.below h) hp.s);have aR:=hid (kAt_rng p (p.t t 11) (g 3) 4 4);have aV:=hid (fun h=>kAt_to hp.w (n:=p.t t 11) (a:=g 3) (k:=4) (r:=4) (by decide) h);have t4:=af T0 (cf_at 8 g 4 (by decide));have bo:=hid (fun W (h:Below w.heap.size w W)=>eD wb V p (p.t t 11) (g 4) 7 6 W (HV.below h) hp.s);have aS:=hid (kAt_rng p (p.t t 11) (g 4) 7 6);have aY:=hid (fun h=>kAt_to hp.w (n:=p.t t 11) (a:=g 4) (k:=7) (r:=6) (by decide) h);have A:=af T0 (cf_at 8 g 5 (by decide));have B:=CT.out t 19 (by rw[Q.out];exact aw) (by decide);have a2:=hid (hg 5 (by decide));generalize (kAt p (p.t t 11) (g 1) 6 2).2=ap at*;generalize (kAt p (p.t t 11) (g 1) 6 2).1=K1 at*;generalize (kAt p (p.t t 11) (g 2) 5 4).2=ar at*;generalize (kAt p (p.t t 11) (g 2) 5 4).1=K2 at*;generalize (kAt p (p.t t 11) (g 3) 4 4).2=au at*;generalize (kAt p (p.t t 11) (g 3) 4 4).1=K3 at*;generalize (kAt p (p.t t 11) (g 4) 7 6).2=av at*;generalize (kAt p (p.t t 11) (g 4) 7 6).1=K4 at*;change ((w.alloc (.cells (cf 8 g).toArray 43)).cell? ⟨e,t*20+11,none⟩=some (.int .i64 (p.t t 11))) at td;change ((w.alloc (.cells (cf 8 g).toArray 43)).cell? ⟨e,t*20+19,none⟩=some (.int .i64 (p.t t 19))) at B;generalize p.t t 11=d at*;generalize p.t t 19=aa at*;clear bt hp e3 hg lf aw h6 HV;go_enter Tryz.func143,Tryz.ntmps143
 go_wp2_with fail
 generalize World.alloc _ _=W0 at*;refine (bg.out _ B0).mono ?_;rintro r w1 ⟨rfl,hb⟩;have KS:=hid (fun o=>aG (T:=fun _=>False) (w:=W0) (b:=w1.heap.size) (.inr hb.size) (cf 6 K1) 0 _ ((dR hb).alloc o));have XS:=hid (fun z u (hz:6≤z.size)=>World.rangeAt_setCells_same (w1.alloc (.cells z u)) w1.heap.size 0 (cf 6 K1) (by rw[ax];exact aM w1 z u _ 6 rfl hz));have a7:=hid (aD B0.size hb.size);clear hb;go_upto_region 3 with ((with_reducible refine gst 78 ?_);refine wp_stK rfl _ _ rfl w1.heap.size 0 rfl (cf 6 K1) rfl (ax _ _) (bK _ _) (aM _ _ _ _ _ (by simp) (by decide)) ?_)
 generalize hW:World.setCells _ _ _ _=W1;have C:=hid (show Below W0.heap.size W0 W1 by rw[←hW];exact (KS.out _).all);have XX:=hid (show W1.rangeAt w1.heap.size 0 (cf 6 K1) by rw[←hW];exact XS _ _ (by simp));clear hW KS XS;have B1:=hid (btr B0 C);replace H:=cu C H;replace td:=cu C td;replace t1:=cu C t1;replace t2:=cu C t2;replace t3:=cu C t3;replace t4:=cu C t4;replace A:=cu C A;replace B:=cu C B;have x:=af XX (cf_at 6 K1 1 (by decide));have C1:=C;clear XX C;by_cases hE:ap=0
 case neg=>
  have aN:(ap==0)=false:=by simp[hE]
  go_wp2_with fail
  refine aq (v:=.int .i64 (ap)) (by simp[results,Tryz.results143,go_sem]) rfl ⟨ap,rfl,aP.out,bU HP BT B1⟩
 case pos=>
  subst hE;obtain⟨u,ah,ag⟩:=aT.out rfl;rw[ah] at x;have ai:=hid ag;have Y:=hid (k_in (p:=p) (f:=u) (by rw[ag];decide));clear ah ag aT aP;have bC:(u:Int)<(p.tasks.length:Int):=by have:=Q.out;have:=Y.out;omega
  obtain⟨sv,ba⟩:∃z,p.t u 9=z:=⟨_,rfl⟩
  have x9:W0.cell? ⟨e,u*20+9,none⟩=some (.int .i64 sv):=by rw[←ba];exact CT u 9 (by rw[Q.out];exact Y) (by decide)
  replace x9:=cu C1 x9;clear C1 ba CT;go_upto_region 5 with fail
  refine bh (by kernel_rfl) (by kernel_rfl) ?_
  repeat (first|go_big_quiet_skip|(go_big_quiet_want;go_big_quiet_op;first|go_big_quiet_on|go_big_quiet_call (fail)))
  refine cG ?_;intro _ bs;obtain⟨nq,bu⟩:=bs;subst bu;have y:=hid (bc (aj W1.heap.size W1) nq);replace H:=cu y H;replace td:=cu y td;replace t1:=cu y t1;replace t2:=cu y t2;replace t3:=cu y t3;replace t4:=cu y t4;replace A:=cu y A;replace B:=cu y B;replace x:=cu y x;have ao:=hid (btr B1 y);clear x9 B1;generalize W1.drewN nq=aK at*;clear y;by_cases aO:sv=0
  case neg=>
   have br:(sv==0)=false:=by simp[aO]
   go_wp2_with fail
   refine aq (v:=.int .i64 (7)) (by simp[results,Tryz.results143,go_sem]) rfl ⟨7,rfl,by decide,bU HP BT ao⟩
  case pos=>
   have br:(sv==0)=true:=by simp[aO]
   clear aO;go_wp2_with fail
   refine (bj.out _ ao).mono ?_;rintro r w2 ⟨rfl,hb⟩;have KS:=hid (fun o=>aG (T:=fun _=>False) (w:=aK) (b:=w2.heap.size) (.inr hb.size) (cf 6 K2) 0 _ ((dR hb).alloc o));have XS:=hid (fun z u (hz:6≤z.size)=>World.rangeAt_setCells_same (w2.alloc (.cells z u)) w2.heap.size 0 (cf 6 K2) (by rw[ax];exact aM w2 z u _ 6 rfl hz));have a8:=hid (aD ao.size hb.size);clear hb;go_upto_region 8 with ((with_reducible refine gst 78 ?_);refine wp_stK rfl _ _ rfl w2.heap.size 0 rfl (cf 6 K2) rfl (ax _ _) (bK _ _) (aM _ _ _ _ _ (by simp) (by decide)) ?_)
   generalize hW:World.setCells _ _ _ _=W2;have C:=hid (show Below aK.heap.size aK W2 by rw[←hW];exact (KS.out _).all);have XX:=hid (show W2.rangeAt w2.heap.size 0 (cf 6 K2) by rw[←hW];exact XS _ _ (by simp));clear hW KS XS;have B2:=hid (btr ao C);replace H:=cu C H;replace td:=cu C td;replace t1:=cu C t1;replace t2:=cu C t2;replace t3:=cu C t3;replace t4:=cu C t4;replace A:=cu C A;replace B:=cu C B;replace x:=cu C x;have E:=af XX (cf_at 6 K2 1 (by decide));clear XX C;by_cases hE:ar=0
   case neg=>
    have aN:(ar==0)=false:=by simp[hE]
    go_wp2_with fail
    refine aq (v:=.int .i64 (ar)) (by simp[results,Tryz.results143,go_sem]) rfl ⟨ar,rfl,aQ.out,bU HP BT B2⟩
   case pos=>
    subst hE;obtain⟨U,ah,ag⟩:=aU.out rfl;rw[ah] at E;have a3:=hid ag;have a5:=hid (k_in (p:=p) (f:=U) (by rw[ag];decide));clear ah ag aU aQ;go_wp2_with fail
    refine (bk.out _ B2).mono ?_;rintro r w3 ⟨rfl,hb⟩;have KS:=hid (fun o=>aG (T:=fun _=>False) (w:=W2) (b:=w3.heap.size) (.inr hb.size) (cf 6 K3) 0 _ ((dR hb).alloc o));have XS:=hid (fun z u (hz:6≤z.size)=>World.rangeAt_setCells_same (w3.alloc (.cells z u)) w3.heap.size 0 (cf 6 K3) (by rw[ax];exact aM w3 z u _ 6 rfl hz));have a9:=hid (aD B2.size hb.size);clear hb;go_upto_region 11 with ((with_reducible refine gst 78 ?_);refine wp_stK rfl _ _ rfl w3.heap.size 0 rfl (cf 6 K3) rfl (ax _ _) (bK _ _) (aM _ _ _ _ _ (by simp) (by decide)) ?_)
    generalize hW:World.setCells _ _ _ _=W3;have C:=hid (show Below W2.heap.size W2 W3 by rw[←hW];exact (KS.out _).all);have XX:=hid (show W3.rangeAt w3.heap.size 0 (cf 6 K3) by rw[←hW];exact XS _ _ (by simp));clear hW KS XS;have B3:=hid (btr B2 C);replace H:=cu C H;replace td:=cu C td;replace t1:=cu C t1;replace t2:=cu C t2;replace t3:=cu C t3;replace t4:=cu C t4;replace A:=cu C A;replace B:=cu C B;replace x:=cu C x;replace E:=cu C E;have F:=af XX (cf_at 6 K3 1 (by decide));clear XX C;by_cases hE:au=0
    case neg=>
     have aN:(au==0)=false:=by simp[hE]
     go_wp2_with fail
     refine aq (v:=.int .i64 (au)) (by simp[results,Tryz.results143,go_sem]) rfl ⟨au,rfl,aR.out,bU HP BT B3⟩
    case pos=>
     subst hE;obtain⟨X,ah,ag⟩:=aV.out rfl;rw[ah] at F;have a4:=hid ag;have a6:=hid (k_in (p:=p) (f:=X) (by rw[ag];decide));clear ah ag aV aR;by_cases h4:g 4=65535
     case pos=>
      have bp:(g 4==65535)=true:=by simp[h4]
      have ay:∃q,Eq1 p q∧BoxT W3 wb tag V q:=⟨p,⟨Sm.refl HP,rfl,rfl⟩,BT.below B3⟩;obtain⟨q,hq,bq⟩:=ay;have j:=hid hq;have y:=hid bq;have S:=hid (aW (tag:=tag) B3);have N1:=hid (show w1.heap.size≠e by have:=a7.out;have:=am.out;omega);have N2:=hid (show w2.heap.size≠e by have:=a8.out;have:=am.out;omega);have N3:=hid (show w3.heap.size≠e by have:=a9.out;have:=am.out;omega);have N5:=hid (show w.heap.size≠e by have:=am.out;omega);clear hq bq t1 t2 t3 td;go_upto_region 19 with fail
      have c:=hid (show Below W3.heap.size W3 W3.drew from aA W3 1);have D:=hid (show V 3=.slice (some ⟨e,0,none⟩) q.tasks.length kt by rw[j.l];exact Z);have M:=hid (show W3.drew.frozen? ⟨e,u*20+11,none⟩=false from by
       have I:=(y.below c).o.tasks;rw[D.out] at I;exact I.frozen (u*20+11))
      have L:=hid ((y.below c).task D (i:=u) (k:=11) (by rw[j.l,Q.out];exact Y) (by decide) (U:Int));have y5:=(y.below c).taskAt D (i:=u) (k:=11) (by rw[j.l,Q.out];exact Y) (by decide);have N:=hid (j.has (u:=u) ai (k:=11) (v:=(U:Int)) (by decide) (by unfold fOk;simpa using j.or a5 a3));have G:=hid (show (fun W=>W.cell? ⟨wb,3,none⟩=some (.slice (some ⟨e,0,none⟩) p.tasks.length kt)∧W.cell? ⟨w1.heap.size,1,none⟩=some (.int .i64 (u:Int))∧W.cell? ⟨w2.heap.size,1,none⟩=some (.int .i64 (U:Int))) W3.drew from⟨cu c H,cu c x,cu c E⟩);refine aX (R:=fun W=>W.cell? ⟨wb,3,none⟩=some (.slice (some ⟨e,0,none⟩) p.tasks.length kt)∧W.cell? ⟨w1.heap.size,1,none⟩=some (.int .i64 (u:Int))∧W.cell? ⟨w2.heap.size,1,none⟩=some (.int .i64 (U:Int))) [10] [0,1,2,3,4,5,6,7] 3 (by kernel_rfl) G (by kernel_rfl) (by kernel_rfl) (by kernel_rfl) (fun _=>?_);replace x:=cu c x;replace E:=cu c E;replace F:=cu c F;replace A:=cu c A;replace B:=cu c B;clear H;generalize W3.drew=aB at*
      repeat (refine aJ rfl (by rfl) (fun _ _ _ _ h=>h) ?_;apply Exists.intro;refine⟨fun W h=>?_,?_⟩;(focus (obtain⟨h1,I,h3⟩:=h;go_simp;try rfl));simp only[jj])
      refine aE ?_;refine aZ (by kernel_rfl) _ G [8,9] 1 _ _ (by kernel_rfl) ?_
      repeat (refine aJ rfl (by rfl) (fun _ _ _ _ h=>h) ?_;apply Exists.intro;refine⟨fun W _=>?_,?_⟩;(focus (go_simp;try rfl));simp only[jj])
      refine aE ?_;refine Rf.r1 10 rfl (fun K O=>?_);have fz:=M.out;go_simp
      refine O _ _ trivial (bF (by kernel_rfl)) (fun _ _=>?_);clear O K fz y5 M G
      try simp only[jj]
      refine aL (by kernel_rfl) ?_ _;replace x:=bS (g:=e) (o:=u*20+11) (v:=.int .i64 (U:Int)) x N1;replace E:=bS (g:=e) (o:=u*20+11) (v:=.int .i64 (U:Int)) E N2;replace F:=bS (g:=e) (o:=u*20+11) (v:=.int .i64 (U:Int)) F N3;replace A:=bS (g:=e) (o:=u*20+11) (v:=.int .i64 (U:Int)) A N5;replace B:=off_cell (o:=u*20+11) (v:=.int .i64 (U:Int)) B (by omega);obtain⟨J,P⟩:=L.out;generalize aB.setCell ⟨e,u*20+11,none⟩ (Value.int IntKind.i64 (U:Int))=ab at*;replace S:=hid ((S.trans (aW c)).trans P);replace y:=hid J;replace j:=N;have H:ab.cell? ⟨wb,3,none⟩=some (.slice (some ⟨e,0,none⟩) p.tasks.length kt):=by rw[←Z.out];exact af J.r rfl
      clear J P L N D c;generalize q.task u 11 (U:Int)=q at*;go_upto_region 20 with fail
      have c:=hid (show Below ab.heap.size ab ab.drew from aA ab 1);have D:=hid (show V 3=.slice (some ⟨e,0,none⟩) q.tasks.length kt by rw[j.l];exact Z);have M:=hid (show ab.drew.frozen? ⟨e,u*20+12,none⟩=false from by
       have I:=(y.below c).o.tasks;rw[D.out] at I;exact I.frozen (u*20+12))
      have L:=hid ((y.below c).task D (i:=u) (k:=12) (by rw[j.l,Q.out];exact Y) (by decide) (X:Int));have y5:=(y.below c).taskAt D (i:=u) (k:=12) (by rw[j.l,Q.out];exact Y) (by decide);have N:=hid (j.has (u:=u) ai (k:=12) (v:=(X:Int)) (by decide) (by unfold fOk;simpa using j.or a6 a4));have G:=hid (show (fun W=>W.cell? ⟨wb,3,none⟩=some (.slice (some ⟨e,0,none⟩) p.tasks.length kt)∧W.cell? ⟨w1.heap.size,1,none⟩=some (.int .i64 (u:Int))∧W.cell? ⟨w3.heap.size,1,none⟩=some (.int .i64 (X:Int))) ab.drew from⟨cu c H,cu c x,cu c F⟩);refine aX (R:=fun W=>W.cell? ⟨wb,3,none⟩=some (.slice (some ⟨e,0,none⟩) p.tasks.length kt)∧W.cell? ⟨w1.heap.size,1,none⟩=some (.int .i64 (u:Int))∧W.cell? ⟨w3.heap.size,1,none⟩=some (.int .i64 (X:Int))) [10] [0,1,2,3,4,5,6,7] 3 (by kernel_rfl) G (by kernel_rfl) (by kernel_rfl) (by kernel_rfl) (fun _=>?_);replace x:=cu c x;replace E:=cu c E;replace F:=cu c F;replace A:=cu c A;replace B:=cu c B;clear H;generalize ab.drew=aC at*
      repeat (refine aJ rfl (by rfl) (fun _ _ _ _ h=>h) ?_;apply Exists.intro;refine⟨fun W h=>?_,?_⟩;(focus (obtain⟨h1,I,h3⟩:=h;go_simp;try rfl));simp only[jj])
      refine aE ?_;refine aZ (by kernel_rfl) _ G [8,9] 1 _ _ (by kernel_rfl) ?_
      repeat (refine aJ rfl (by rfl) (fun _ _ _ _ h=>h) ?_;apply Exists.intro;refine⟨fun W _=>?_,?_⟩;(focus (go_simp;try rfl));simp only[jj])
      refine aE ?_;refine Rf.r1 10 rfl (fun K O=>?_);have fz:=M.out;go_simp
      refine O _ _ trivial (bF (by kernel_rfl)) (fun _ _=>?_);clear O K fz y5 M G
      try simp only[jj]
      refine aL (by kernel_rfl) ?_ _;replace x:=bS (g:=e) (o:=u*20+12) (v:=.int .i64 (X:Int)) x N1;replace E:=bS (g:=e) (o:=u*20+12) (v:=.int .i64 (X:Int)) E N2;replace F:=bS (g:=e) (o:=u*20+12) (v:=.int .i64 (X:Int)) F N3;replace A:=bS (g:=e) (o:=u*20+12) (v:=.int .i64 (X:Int)) A N5;replace B:=off_cell (o:=u*20+12) (v:=.int .i64 (X:Int)) B (by omega);obtain⟨J,P⟩:=L.out;generalize aC.setCell ⟨e,u*20+12,none⟩ (Value.int IntKind.i64 (X:Int))=ac at*;replace S:=hid ((S.trans (aW c)).trans P);replace y:=hid J;replace j:=N;have H:ac.cell? ⟨wb,3,none⟩=some (.slice (some ⟨e,0,none⟩) p.tasks.length kt):=by rw[←Z.out];exact af J.r rfl
      clear J P L N D c;generalize q.task u 12 (X:Int)=q at*;go_upto_region 21 with fail
      have c:=hid (show Below ac.heap.size ac ac.drew from aA ac 1);have D:=hid (show V 3=.slice (some ⟨e,0,none⟩) q.tasks.length kt by rw[j.l];exact Z);have M:=hid (show ac.drew.frozen? ⟨e,u*20+13,none⟩=false from by
       have I:=(y.below c).o.tasks;rw[D.out] at I;exact I.frozen (u*20+13))
      have L:=hid ((y.below c).task D (i:=u) (k:=13) (by rw[j.l,Q.out];exact Y) (by decide) (-1));have y5:=(y.below c).taskAt D (i:=u) (k:=13) (by rw[j.l,Q.out];exact Y) (by decide);have N:=hid (j.has (u:=u) ai (k:=13) (v:=(-1)) (by decide) (by unfold fOk isOrB;simp));have G:=hid (show (fun W=>W.cell? ⟨wb,3,none⟩=some (.slice (some ⟨e,0,none⟩) p.tasks.length kt)∧W.cell? ⟨w1.heap.size,1,none⟩=some (.int .i64 (u:Int))∧W.cell? ⟨wb,3,none⟩=some (.slice (some ⟨e,0,none⟩) p.tasks.length kt)) ac.drew from⟨cu c H,cu c x,cu c H⟩);refine aX (R:=fun W=>W.cell? ⟨wb,3,none⟩=some (.slice (some ⟨e,0,none⟩) p.tasks.length kt)∧W.cell? ⟨w1.heap.size,1,none⟩=some (.int .i64 (u:Int))∧W.cell? ⟨wb,3,none⟩=some (.slice (some ⟨e,0,none⟩) p.tasks.length kt)) [9] [0,1,2,3,4,5,6] 3 (by kernel_rfl) G (by kernel_rfl) (by kernel_rfl) (by kernel_rfl) (fun _=>?_);replace x:=cu c x;replace E:=cu c E;replace F:=cu c F;replace A:=cu c A;replace B:=cu c B;clear H;generalize ac.drew=aF at*
      repeat (refine aJ rfl (by rfl) (fun _ _ _ _ h=>h) ?_;apply Exists.intro;refine⟨fun W h=>?_,?_⟩;(focus (obtain⟨h1,I,h3⟩:=h;go_simp;try rfl));simp only[jj])
      refine aE ?_;refine aZ (by kernel_rfl) _ G [7,8] 1 _ _ (by kernel_rfl) ?_
      repeat (refine aJ rfl (by rfl) (fun _ _ _ _ h=>h) ?_;apply Exists.intro;refine⟨fun W _=>?_,?_⟩;(focus (go_simp;try rfl));simp only[jj])
      refine aE ?_;refine Rf.r1 9 rfl (fun K O=>?_);have fz:=M.out;go_simp
      refine O _ _ trivial (bF (by kernel_rfl)) (fun _ _=>?_);clear O K fz y5 M G
      try simp only[jj]
      refine aL (by kernel_rfl) ?_ _;replace x:=bS (g:=e) (o:=u*20+13) (v:=.int .i64 (-1)) x N1;replace E:=bS (g:=e) (o:=u*20+13) (v:=.int .i64 (-1)) E N2;replace F:=bS (g:=e) (o:=u*20+13) (v:=.int .i64 (-1)) F N3;replace A:=bS (g:=e) (o:=u*20+13) (v:=.int .i64 (-1)) A N5;replace B:=off_cell (o:=u*20+13) (v:=.int .i64 (-1)) B (by omega);obtain⟨J,P⟩:=L.out;generalize aF.setCell ⟨e,u*20+13,none⟩ (Value.int IntKind.i64 (-1))=ad at*;replace S:=hid ((S.trans (aW c)).trans P);replace y:=hid J;replace j:=N;have H:ad.cell? ⟨wb,3,none⟩=some (.slice (some ⟨e,0,none⟩) p.tasks.length kt):=by rw[←Z.out];exact af J.r rfl
      clear J P L N D c;generalize q.task u 13 (-1)=q at*;go_upto_region 22 with fail
      have c:=hid (show Below ad.heap.size ad ad.drew from aA ad 1);have D:=hid (show V 3=.slice (some ⟨e,0,none⟩) q.tasks.length kt by rw[j.l];exact Z);have M:=hid (show ad.drew.frozen? ⟨e,u*20+8,none⟩=false from by
       have I:=(y.below c).o.tasks;rw[D.out] at I;exact I.frozen (u*20+8))
      have L:=hid ((y.below c).task D (i:=u) (k:=8) (by rw[j.l,Q.out];exact Y) (by decide) (g 5));have y5:=(y.below c).taskAt D (i:=u) (k:=8) (by rw[j.l,Q.out];exact Y) (by decide);have N:=hid (j.has (u:=u) ai (k:=8) (v:=(g 5)) (by decide) (by unfold fOk wB;simpa using a2.out));have G:=hid (show (fun W=>W.cell? ⟨wb,3,none⟩=some (.slice (some ⟨e,0,none⟩) p.tasks.length kt)∧W.cell? ⟨w1.heap.size,1,none⟩=some (.int .i64 (u:Int))∧W.cell? ⟨w.heap.size,5,none⟩=some (.int .i64 (g 5))) ad.drew from⟨cu c H,cu c x,cu c A⟩);refine aX (R:=fun W=>W.cell? ⟨wb,3,none⟩=some (.slice (some ⟨e,0,none⟩) p.tasks.length kt)∧W.cell? ⟨w1.heap.size,1,none⟩=some (.int .i64 (u:Int))∧W.cell? ⟨w.heap.size,5,none⟩=some (.int .i64 (g 5))) [10] [0,1,2,3,4,5,6,7] 3 (by kernel_rfl) G (by kernel_rfl) (by kernel_rfl) (by kernel_rfl) (fun _=>?_);replace x:=cu c x;replace E:=cu c E;replace F:=cu c F;replace A:=cu c A;replace B:=cu c B;clear H;generalize ad.drew=aH at*
      repeat (refine aJ rfl (by rfl) (fun _ _ _ _ h=>h) ?_;apply Exists.intro;refine⟨fun W h=>?_,?_⟩;(focus (obtain⟨h1,I,h3⟩:=h;go_simp;try rfl));simp only[jj])
      refine aE ?_;refine aZ (by kernel_rfl) _ G [8,9] 1 _ _ (by kernel_rfl) ?_
      repeat (refine aJ rfl (by rfl) (fun _ _ _ _ h=>h) ?_;apply Exists.intro;refine⟨fun W _=>?_,?_⟩;(focus (go_simp;try rfl));simp only[jj])
      refine aE ?_;refine Rf.r1 10 rfl (fun K O=>?_);have fz:=M.out;go_simp
      refine O _ _ trivial (bF (by kernel_rfl)) (fun _ _=>?_);clear O K fz y5 M G
      try simp only[jj]
      refine aL (by kernel_rfl) ?_ _;replace x:=bS (g:=e) (o:=u*20+8) (v:=.int .i64 (g 5)) x N1;replace E:=bS (g:=e) (o:=u*20+8) (v:=.int .i64 (g 5)) E N2;replace F:=bS (g:=e) (o:=u*20+8) (v:=.int .i64 (g 5)) F N3;replace A:=bS (g:=e) (o:=u*20+8) (v:=.int .i64 (g 5)) A N5;replace B:=off_cell (o:=u*20+8) (v:=.int .i64 (g 5)) B (by omega);obtain⟨J,P⟩:=L.out;generalize aH.setCell ⟨e,u*20+8,none⟩ (Value.int IntKind.i64 (g 5))=ae at*;replace S:=hid ((S.trans (aW c)).trans P);replace y:=hid J;replace j:=N;have H:ae.cell? ⟨wb,3,none⟩=some (.slice (some ⟨e,0,none⟩) p.tasks.length kt):=by rw[←Z.out];exact af J.r rfl
      clear J P L N D c;generalize q.task u 8 (g 5)=q at*;go_upto_region 23 with fail
      have c:=hid (show Below ae.heap.size ae ae.drew from aA ae 1);have D:=hid (show V 3=.slice (some ⟨e,0,none⟩) q.tasks.length kt by rw[j.l];exact Z);have M:=hid (show ae.drew.frozen? ⟨e,u*20+19,none⟩=false from by
       have I:=(y.below c).o.tasks;rw[D.out] at I;exact I.frozen (u*20+19))
      have L:=hid ((y.below c).task D (i:=u) (k:=19) (by rw[j.l,Q.out];exact Y) (by decide) aa);have y5:=(y.below c).taskAt D (i:=u) (k:=19) (by rw[j.l,Q.out];exact Y) (by decide);have N:=hid (j.has (u:=u) ai (k:=19) (v:=aa) (by decide) (by have h:=a0.out;unfold fOk at h ⊢;simpa using h));have G:=hid (show (fun W=>W.cell? ⟨wb,3,none⟩=some (.slice (some ⟨e,0,none⟩) p.tasks.length kt)∧W.cell? ⟨w1.heap.size,1,none⟩=some (.int .i64 (u:Int))∧W.cell? ⟨e,t*20+19,none⟩=some (.int .i64 aa)) ae.drew from⟨cu c H,cu c x,cu c B⟩);refine aX (R:=fun W=>W.cell? ⟨wb,3,none⟩=some (.slice (some ⟨e,0,none⟩) p.tasks.length kt)∧W.cell? ⟨w1.heap.size,1,none⟩=some (.int .i64 (u:Int))∧W.cell? ⟨e,t*20+19,none⟩=some (.int .i64 aa)) [16] [0,1,2,3,4,5,6,7,8,9,10] 6 (by kernel_rfl) G (by kernel_rfl) (by kernel_rfl) (by kernel_rfl) (fun _=>?_);replace x:=cu c x;replace E:=cu c E;replace F:=cu c F;replace A:=cu c A;replace B:=cu c B;clear H;generalize ae.drew=aI at*
      repeat (refine aJ rfl (by rfl) (fun _ _ _ _ h=>h) ?_;apply Exists.intro;refine⟨fun W h=>?_,?_⟩;(focus (obtain⟨h1,I,h3⟩:=h;go_simp;try rfl));simp only[jj])
      refine aE ?_;refine aZ (by kernel_rfl) _ G [11,12] 4 _ _ (by kernel_rfl) ?_
      repeat (refine aJ rfl (by rfl) (fun _ _ _ _ h=>h) ?_;apply Exists.intro;refine⟨fun W _=>?_,?_⟩;(focus (go_simp;try rfl));simp only[jj])
      refine aE ?_;refine Rf.wpAnyF_group (by kernel_rfl) _ G [13] 3 _ _ (by kernel_rfl) ?_
      repeat (refine aJ rfl (by rfl) (fun _ _ _ _ h=>h) ?_;apply Exists.intro;refine⟨fun W h=>?_,?_⟩;(focus (obtain⟨h1,I,h3⟩:=h;go_simp;try rfl));simp only[jj])
      refine aE ?_;refine aZ (by kernel_rfl) _ G [14,15] 1 _ _ (by kernel_rfl) ?_
      repeat (refine aJ rfl (by rfl) (fun _ _ _ _ h=>h) ?_;apply Exists.intro;refine⟨fun W _=>?_,?_⟩;(focus (go_simp;try rfl));simp only[jj])
      refine aE ?_;refine Rf.r1 16 rfl (fun K O=>?_);have fz:=M.out;go_simp
      refine O _ _ trivial (bF (by kernel_rfl)) (fun _ _=>?_);clear O K fz y5 M G
      try simp only[jj]
      refine aL (by kernel_rfl) ?_ _;replace x:=bS (g:=e) (o:=u*20+19) (v:=.int .i64 aa) x N1;replace E:=bS (g:=e) (o:=u*20+19) (v:=.int .i64 aa) E N2;replace F:=bS (g:=e) (o:=u*20+19) (v:=.int .i64 aa) F N3;replace A:=bS (g:=e) (o:=u*20+19) (v:=.int .i64 aa) A N5;clear B;obtain⟨J,P⟩:=L.out;generalize aI.setCell ⟨e,u*20+19,none⟩ (Value.int IntKind.i64 aa)=an at*;replace S:=hid ((S.trans (aW c)).trans P);replace y:=hid J;replace j:=N;have H:an.cell? ⟨wb,3,none⟩=some (.slice (some ⟨e,0,none⟩) p.tasks.length kt):=by rw[←Z.out];exact af J.r rfl
      clear J P L N D c;generalize q.task u 19 aa=q at*;have az:=hid (show Bx p wb tag w an from⟨tag,V,q,S.out,y.out,j.s⟩);clear S y j;go_wp2_with fail
      refine aq (v:=.int .i64 (0)) (by simp[results,Tryz.results143,go_sem]) rfl ⟨0,rfl,by decide,az.out⟩
     case neg=>
      have bp:(g 4==65535)=false:=by simp[h4]
      clear h4;go_wp2_with fail
      refine (bo.out _ B3).mono ?_;rintro r w4 ⟨rfl,hb⟩;have KS:=hid (fun o=>aG (T:=fun _=>False) (w:=W3) (b:=w4.heap.size) (.inr hb.size) (cf 6 K4) 0 _ ((dR hb).alloc o));have XS:=hid (fun z u (hz:6≤z.size)=>World.rangeAt_setCells_same (w4.alloc (.cells z u)) w4.heap.size 0 (cf 6 K4) (by rw[ax];exact aM w4 z u _ 6 rfl hz));have bz:=hid (aD B3.size hb.size);clear hb;go_upto_region 16 with ((with_reducible refine gst 78 ?_);refine wp_stK rfl _ _ rfl w4.heap.size 0 rfl (cf 6 K4) rfl (ax _ _) (bK _ _) (aM _ _ _ _ _ (by simp) (by decide)) ?_)
      generalize hW:World.setCells _ _ _ _=W4;have C:=hid (show Below W3.heap.size W3 W4 by rw[←hW];exact (KS.out _).all);have XX:=hid (show W4.rangeAt w4.heap.size 0 (cf 6 K4) by rw[←hW];exact XS _ _ (by simp));clear hW KS XS;have B4:=hid (btr B3 C);replace H:=cu C H;replace td:=cu C td;replace t1:=cu C t1;replace t2:=cu C t2;replace t3:=cu C t3;replace t4:=cu C t4;replace A:=cu C A;replace B:=cu C B;replace x:=cu C x;replace E:=cu C E;replace F:=cu C F;have bv:=af XX (cf_at 6 K4 1 (by decide));clear XX C;by_cases hE:av=0
      case neg=>
       have aN:(av==0)=false:=by simp[hE]
       go_wp2_with fail
       refine aq (v:=.int .i64 (av)) (by simp[results,Tryz.results143,go_sem]) rfl ⟨av,rfl,aS.out,bU HP BT B4⟩
      case pos=>
       subst hE;obtain⟨zz,ah,ag⟩:=aY.out rfl;rw[ah] at bv;have bb:=hid ag;have bf:=hid (k_in (p:=p) (f:=zz) (by rw[ag];decide));clear ah ag aY aS;have ay:∃q,Eq1 p q∧BoxT W4 wb tag V q:=⟨p,⟨Sm.refl HP,rfl,rfl⟩,BT.below B4⟩;obtain⟨q,hq,bq⟩:=ay;have j:=hid hq;have y:=hid bq;have S:=hid (aW (tag:=tag) B4);have N1:=hid (show w1.heap.size≠e by have:=a7.out;have:=am.out;omega);have N2:=hid (show w2.heap.size≠e by have:=a8.out;have:=am.out;omega);have N3:=hid (show w3.heap.size≠e by have:=a9.out;have:=am.out;omega);have N5:=hid (show w.heap.size≠e by have:=am.out;omega);clear hq bq t1 t2 t3 td;go_upto_region 19 with fail
       have c:=hid (show Below W4.heap.size W4 W4.drew from aA W4 1);have D:=hid (show V 3=.slice (some ⟨e,0,none⟩) q.tasks.length kt by rw[j.l];exact Z);have M:=hid (show W4.drew.frozen? ⟨e,u*20+11,none⟩=false from by
        have I:=(y.below c).o.tasks;rw[D.out] at I;exact I.frozen (u*20+11))
       have L:=hid ((y.below c).task D (i:=u) (k:=11) (by rw[j.l,Q.out];exact Y) (by decide) (U:Int));have y5:=(y.below c).taskAt D (i:=u) (k:=11) (by rw[j.l,Q.out];exact Y) (by decide);have N:=hid (j.has (u:=u) ai (k:=11) (v:=(U:Int)) (by decide) (by unfold fOk;simpa using j.or a5 a3));have G:=hid (show (fun W=>W.cell? ⟨wb,3,none⟩=some (.slice (some ⟨e,0,none⟩) p.tasks.length kt)∧W.cell? ⟨w1.heap.size,1,none⟩=some (.int .i64 (u:Int))∧W.cell? ⟨w2.heap.size,1,none⟩=some (.int .i64 (U:Int))) W4.drew from⟨cu c H,cu c x,cu c E⟩);refine aX (R:=fun W=>W.cell? ⟨wb,3,none⟩=some (.slice (some ⟨e,0,none⟩) p.tasks.length kt)∧W.cell? ⟨w1.heap.size,1,none⟩=some (.int .i64 (u:Int))∧W.cell? ⟨w2.heap.size,1,none⟩=some (.int .i64 (U:Int))) [10] [0,1,2,3,4,5,6,7] 3 (by kernel_rfl) G (by kernel_rfl) (by kernel_rfl) (by kernel_rfl) (fun _=>?_);replace x:=cu c x;replace E:=cu c E;replace F:=cu c F;replace A:=cu c A;replace B:=cu c B;clear H;generalize W4.drew=aB at*
       repeat (refine aJ rfl (by rfl) (fun _ _ _ _ h=>h) ?_;apply Exists.intro;refine⟨fun W h=>?_,?_⟩;(focus (obtain⟨h1,I,h3⟩:=h;go_simp;try rfl));simp only[jj])
       refine aE ?_;refine aZ (by kernel_rfl) _ G [8,9] 1 _ _ (by kernel_rfl) ?_
       repeat (refine aJ rfl (by rfl) (fun _ _ _ _ h=>h) ?_;apply Exists.intro;refine⟨fun W _=>?_,?_⟩;(focus (go_simp;try rfl));simp only[jj])
       refine aE ?_;refine Rf.r1 10 rfl (fun K O=>?_);have fz:=M.out;go_simp
       refine O _ _ trivial (bF (by kernel_rfl)) (fun _ _=>?_);clear O K fz y5 M G
       try simp only[jj]
       refine aL (by kernel_rfl) ?_ _;replace x:=bS (g:=e) (o:=u*20+11) (v:=.int .i64 (U:Int)) x N1;replace E:=bS (g:=e) (o:=u*20+11) (v:=.int .i64 (U:Int)) E N2;replace F:=bS (g:=e) (o:=u*20+11) (v:=.int .i64 (U:Int)) F N3;replace A:=bS (g:=e) (o:=u*20+11) (v:=.int .i64 (U:Int)) A N5;replace B:=off_cell (o:=u*20+11) (v:=.int .i64 (U:Int)) B (by omega);obtain⟨J,P⟩:=L.out;generalize aB.setCell ⟨e,u*20+11,none⟩ (Value.int IntKind.i64 (U:Int))=ab at*;replace S:=hid ((S.trans (aW c)).trans P);replace y:=hid J;replace j:=N;have H:ab.cell? ⟨wb,3,none⟩=some (.slice (some ⟨e,0,none⟩) p.tasks.length kt):=by rw[←Z.out];exact af J.r rfl
       clear J P L N D c;generalize q.task u 11 (U:Int)=q at*;go_upto_region 20 with fail
       have c:=hid (show Below ab.heap.size ab ab.drew from aA ab 1);have D:=hid (show V 3=.slice (some ⟨e,0,none⟩) q.tasks.length kt by rw[j.l];exact Z);have M:=hid (show ab.drew.frozen? ⟨e,u*20+12,none⟩=false from by
        have I:=(y.below c).o.tasks;rw[D.out] at I;exact I.frozen (u*20+12))
       have L:=hid ((y.below c).task D (i:=u) (k:=12) (by rw[j.l,Q.out];exact Y) (by decide) (X:Int));have y5:=(y.below c).taskAt D (i:=u) (k:=12) (by rw[j.l,Q.out];exact Y) (by decide);have N:=hid (j.has (u:=u) ai (k:=12) (v:=(X:Int)) (by decide) (by unfold fOk;simpa using j.or a6 a4));have G:=hid (show (fun W=>W.cell? ⟨wb,3,none⟩=some (.slice (some ⟨e,0,none⟩) p.tasks.length kt)∧W.cell? ⟨w1.heap.size,1,none⟩=some (.int .i64 (u:Int))∧W.cell? ⟨w3.heap.size,1,none⟩=some (.int .i64 (X:Int))) ab.drew from⟨cu c H,cu c x,cu c F⟩);refine aX (R:=fun W=>W.cell? ⟨wb,3,none⟩=some (.slice (some ⟨e,0,none⟩) p.tasks.length kt)∧W.cell? ⟨w1.heap.size,1,none⟩=some (.int .i64 (u:Int))∧W.cell? ⟨w3.heap.size,1,none⟩=some (.int .i64 (X:Int))) [10] [0,1,2,3,4,5,6,7] 3 (by kernel_rfl) G (by kernel_rfl) (by kernel_rfl) (by kernel_rfl) (fun _=>?_);replace x:=cu c x;replace E:=cu c E;replace F:=cu c F;replace A:=cu c A;replace B:=cu c B;clear H;generalize ab.drew=aC at*
       repeat (refine aJ rfl (by rfl) (fun _ _ _ _ h=>h) ?_;apply Exists.intro;refine⟨fun W h=>?_,?_⟩;(focus (obtain⟨h1,I,h3⟩:=h;go_simp;try rfl));simp only[jj])
       refine aE ?_;refine aZ (by kernel_rfl) _ G [8,9] 1 _ _ (by kernel_rfl) ?_
       repeat (refine aJ rfl (by rfl) (fun _ _ _ _ h=>h) ?_;apply Exists.intro;refine⟨fun W _=>?_,?_⟩;(focus (go_simp;try rfl));simp only[jj])
       refine aE ?_;refine Rf.r1 10 rfl (fun K O=>?_);have fz:=M.out;go_simp
       refine O _ _ trivial (bF (by kernel_rfl)) (fun _ _=>?_);clear O K fz y5 M G
       try simp only[jj]
       refine aL (by kernel_rfl) ?_ _;replace x:=bS (g:=e) (o:=u*20+12) (v:=.int .i64 (X:Int)) x N1;replace E:=bS (g:=e) (o:=u*20+12) (v:=.int .i64 (X:Int)) E N2;replace F:=bS (g:=e) (o:=u*20+12) (v:=.int .i64 (X:Int)) F N3;replace A:=bS (g:=e) (o:=u*20+12) (v:=.int .i64 (X:Int)) A N5;replace B:=off_cell (o:=u*20+12) (v:=.int .i64 (X:Int)) B (by omega);obtain⟨J,P⟩:=L.out;generalize aC.setCell ⟨e,u*20+12,none⟩ (Value.int IntKind.i64 (X:Int))=ac at*;replace S:=hid ((S.trans (aW c)).trans P);replace y:=hid J;replace j:=N;have H:ac.cell? ⟨wb,3,none⟩=some (.slice (some ⟨e,0,none⟩) p.tasks.length kt):=by rw[←Z.out];exact af J.r rfl
       clear J P L N D c;generalize q.task u 12 (X:Int)=q at*;go_upto_region 21 with fail
       have c:=hid (show Below ac.heap.size ac ac.drew from aA ac 1);have D:=hid (show V 3=.slice (some ⟨e,0,none⟩) q.tasks.length kt by rw[j.l];exact Z);have M:=hid (show ac.drew.frozen? ⟨e,u*20+13,none⟩=false from by
        have I:=(y.below c).o.tasks;rw[D.out] at I;exact I.frozen (u*20+13))
       have L:=hid ((y.below c).task D (i:=u) (k:=13) (by rw[j.l,Q.out];exact Y) (by decide) (zz:Int));have y5:=(y.below c).taskAt D (i:=u) (k:=13) (by rw[j.l,Q.out];exact Y) (by decide);have N:=hid (j.has (u:=u) ai (k:=13) (v:=(zz:Int)) (by decide) (by unfold fOk;simpa using j.or bf bb));have G:=hid (show (fun W=>W.cell? ⟨wb,3,none⟩=some (.slice (some ⟨e,0,none⟩) p.tasks.length kt)∧W.cell? ⟨w1.heap.size,1,none⟩=some (.int .i64 (u:Int))∧W.cell? ⟨wb,3,none⟩=some (.slice (some ⟨e,0,none⟩) p.tasks.length kt)) ac.drew from⟨cu c H,cu c x,cu c H⟩);refine aX (R:=fun W=>W.cell? ⟨wb,3,none⟩=some (.slice (some ⟨e,0,none⟩) p.tasks.length kt)∧W.cell? ⟨w1.heap.size,1,none⟩=some (.int .i64 (u:Int))∧W.cell? ⟨wb,3,none⟩=some (.slice (some ⟨e,0,none⟩) p.tasks.length kt)) [9] [0,1,2,3,4,5,6] 3 (by kernel_rfl) G (by kernel_rfl) (by kernel_rfl) (by kernel_rfl) (fun _=>?_);replace x:=cu c x;replace E:=cu c E;replace F:=cu c F;replace A:=cu c A;replace B:=cu c B;clear H;generalize ac.drew=aF at*
       repeat (refine aJ rfl (by rfl) (fun _ _ _ _ h=>h) ?_;apply Exists.intro;refine⟨fun W h=>?_,?_⟩;(focus (obtain⟨h1,I,h3⟩:=h;go_simp;try rfl));simp only[jj])
       refine aE ?_;refine aZ (by kernel_rfl) _ G [7,8] 1 _ _ (by kernel_rfl) ?_
       repeat (refine aJ rfl (by rfl) (fun _ _ _ _ h=>h) ?_;apply Exists.intro;refine⟨fun W _=>?_,?_⟩;(focus (go_simp;try rfl));simp only[jj])
       refine aE ?_;refine Rf.r1 9 rfl (fun K O=>?_);have fz:=M.out;go_simp
       refine O _ _ trivial (bF (by kernel_rfl)) (fun _ _=>?_);clear O K fz y5 M G
       try simp only[jj]
       refine aL (by kernel_rfl) ?_ _;replace x:=bS (g:=e) (o:=u*20+13) (v:=.int .i64 (zz:Int)) x N1;replace E:=bS (g:=e) (o:=u*20+13) (v:=.int .i64 (zz:Int)) E N2;replace F:=bS (g:=e) (o:=u*20+13) (v:=.int .i64 (zz:Int)) F N3;replace A:=bS (g:=e) (o:=u*20+13) (v:=.int .i64 (zz:Int)) A N5;replace B:=off_cell (o:=u*20+13) (v:=.int .i64 (zz:Int)) B (by omega);obtain⟨J,P⟩:=L.out;generalize aF.setCell ⟨e,u*20+13,none⟩ (Value.int IntKind.i64 (zz:Int))=ad at*;replace S:=hid ((S.trans (aW c)).trans P);replace y:=hid J;replace j:=N;have H:ad.cell? ⟨wb,3,none⟩=some (.slice (some ⟨e,0,none⟩) p.tasks.length kt):=by rw[←Z.out];exact af J.r rfl
       clear J P L N D c;generalize q.task u 13 (zz:Int)=q at*;go_upto_region 22 with fail
       have c:=hid (show Below ad.heap.size ad ad.drew from aA ad 1);have D:=hid (show V 3=.slice (some ⟨e,0,none⟩) q.tasks.length kt by rw[j.l];exact Z);have M:=hid (show ad.drew.frozen? ⟨e,u*20+8,none⟩=false from by
        have I:=(y.below c).o.tasks;rw[D.out] at I;exact I.frozen (u*20+8))
       have L:=hid ((y.below c).task D (i:=u) (k:=8) (by rw[j.l,Q.out];exact Y) (by decide) (g 5));have y5:=(y.below c).taskAt D (i:=u) (k:=8) (by rw[j.l,Q.out];exact Y) (by decide);have N:=hid (j.has (u:=u) ai (k:=8) (v:=(g 5)) (by decide) (by unfold fOk wB;simpa using a2.out));have G:=hid (show (fun W=>W.cell? ⟨wb,3,none⟩=some (.slice (some ⟨e,0,none⟩) p.tasks.length kt)∧W.cell? ⟨w1.heap.size,1,none⟩=some (.int .i64 (u:Int))∧W.cell? ⟨w.heap.size,5,none⟩=some (.int .i64 (g 5))) ad.drew from⟨cu c H,cu c x,cu c A⟩);refine aX (R:=fun W=>W.cell? ⟨wb,3,none⟩=some (.slice (some ⟨e,0,none⟩) p.tasks.length kt)∧W.cell? ⟨w1.heap.size,1,none⟩=some (.int .i64 (u:Int))∧W.cell? ⟨w.heap.size,5,none⟩=some (.int .i64 (g 5))) [10] [0,1,2,3,4,5,6,7] 3 (by kernel_rfl) G (by kernel_rfl) (by kernel_rfl) (by kernel_rfl) (fun _=>?_);replace x:=cu c x;replace E:=cu c E;replace F:=cu c F;replace A:=cu c A;replace B:=cu c B;clear H;generalize ad.drew=aH at*
       repeat (refine aJ rfl (by rfl) (fun _ _ _ _ h=>h) ?_;apply Exists.intro;refine⟨fun W h=>?_,?_⟩;(focus (obtain⟨h1,I,h3⟩:=h;go_simp;try rfl));simp only[jj])
       refine aE ?_;refine aZ (by kernel_rfl) _ G [8,9] 1 _ _ (by kernel_rfl) ?_
       repeat (refine aJ rfl (by rfl) (fun _ _ _ _ h=>h) ?_;apply Exists.intro;refine⟨fun W _=>?_,?_⟩;(focus (go_simp;try rfl));simp only[jj])
       refine aE ?_;refine Rf.r1 10 rfl (fun K O=>?_);have fz:=M.out;go_simp
       refine O _ _ trivial (bF (by kernel_rfl)) (fun _ _=>?_);clear O K fz y5 M G
       try simp only[jj]
       refine aL (by kernel_rfl) ?_ _;replace x:=bS (g:=e) (o:=u*20+8) (v:=.int .i64 (g 5)) x N1;replace E:=bS (g:=e) (o:=u*20+8) (v:=.int .i64 (g 5)) E N2;replace F:=bS (g:=e) (o:=u*20+8) (v:=.int .i64 (g 5)) F N3;replace A:=bS (g:=e) (o:=u*20+8) (v:=.int .i64 (g 5)) A N5;replace B:=off_cell (o:=u*20+8) (v:=.int .i64 (g 5)) B (by omega);obtain⟨J,P⟩:=L.out;generalize aH.setCell ⟨e,u*20+8,none⟩ (Value.int IntKind.i64 (g 5))=ae at*;replace S:=hid ((S.trans (aW c)).trans P);replace y:=hid J;replace j:=N;have H:ae.cell? ⟨wb,3,none⟩=some (.slice (some ⟨e,0,none⟩) p.tasks.length kt):=by rw[←Z.out];exact af J.r rfl
       clear J P L N D c;generalize q.task u 8 (g 5)=q at*;go_upto_region 23 with fail
       have c:=hid (show Below ae.heap.size ae ae.drew from aA ae 1);have D:=hid (show V 3=.slice (some ⟨e,0,none⟩) q.tasks.length kt by rw[j.l];exact Z);have M:=hid (show ae.drew.frozen? ⟨e,u*20+19,none⟩=false from by
        have I:=(y.below c).o.tasks;rw[D.out] at I;exact I.frozen (u*20+19))
       have L:=hid ((y.below c).task D (i:=u) (k:=19) (by rw[j.l,Q.out];exact Y) (by decide) aa);have y5:=(y.below c).taskAt D (i:=u) (k:=19) (by rw[j.l,Q.out];exact Y) (by decide);have N:=hid (j.has (u:=u) ai (k:=19) (v:=aa) (by decide) (by have h:=a0.out;unfold fOk at h ⊢;simpa using h));have G:=hid (show (fun W=>W.cell? ⟨wb,3,none⟩=some (.slice (some ⟨e,0,none⟩) p.tasks.length kt)∧W.cell? ⟨w1.heap.size,1,none⟩=some (.int .i64 (u:Int))∧W.cell? ⟨e,t*20+19,none⟩=some (.int .i64 aa)) ae.drew from⟨cu c H,cu c x,cu c B⟩);refine aX (R:=fun W=>W.cell? ⟨wb,3,none⟩=some (.slice (some ⟨e,0,none⟩) p.tasks.length kt)∧W.cell? ⟨w1.heap.size,1,none⟩=some (.int .i64 (u:Int))∧W.cell? ⟨e,t*20+19,none⟩=some (.int .i64 aa)) [16] [0,1,2,3,4,5,6,7,8,9,10] 6 (by kernel_rfl) G (by kernel_rfl) (by kernel_rfl) (by kernel_rfl) (fun _=>?_);replace x:=cu c x;replace E:=cu c E;replace F:=cu c F;replace A:=cu c A;replace B:=cu c B;clear H;generalize ae.drew=aI at*
       repeat (refine aJ rfl (by rfl) (fun _ _ _ _ h=>h) ?_;apply Exists.intro;refine⟨fun W h=>?_,?_⟩;(focus (obtain⟨h1,I,h3⟩:=h;go_simp;try rfl));simp only[jj])
       refine aE ?_;refine aZ (by kernel_rfl) _ G [11,12] 4 _ _ (by kernel_rfl) ?_
       repeat (refine aJ rfl (by rfl) (fun _ _ _ _ h=>h) ?_;apply Exists.intro;refine⟨fun W _=>?_,?_⟩;(focus (go_simp;try rfl));simp only[jj])
       refine aE ?_;refine Rf.wpAnyF_group (by kernel_rfl) _ G [13] 3 _ _ (by kernel_rfl) ?_
       repeat (refine aJ rfl (by rfl) (fun _ _ _ _ h=>h) ?_;apply Exists.intro;refine⟨fun W h=>?_,?_⟩;(focus (obtain⟨h1,I,h3⟩:=h;go_simp;try rfl));simp only[jj])
       refine aE ?_;refine aZ (by kernel_rfl) _ G [14,15] 1 _ _ (by kernel_rfl) ?_
       repeat (refine aJ rfl (by rfl) (fun _ _ _ _ h=>h) ?_;apply Exists.intro;refine⟨fun W _=>?_,?_⟩;(focus (go_simp;try rfl));simp only[jj])
       refine aE ?_;refine Rf.r1 16 rfl (fun K O=>?_);have fz:=M.out;go_simp
       refine O _ _ trivial (bF (by kernel_rfl)) (fun _ _=>?_);clear O K fz y5 M G
       try simp only[jj]
       refine aL (by kernel_rfl) ?_ _;replace x:=bS (g:=e) (o:=u*20+19) (v:=.int .i64 aa) x N1;replace E:=bS (g:=e) (o:=u*20+19) (v:=.int .i64 aa) E N2;replace F:=bS (g:=e) (o:=u*20+19) (v:=.int .i64 aa) F N3;replace A:=bS (g:=e) (o:=u*20+19) (v:=.int .i64 aa) A N5;clear B;obtain⟨J,P⟩:=L.out;generalize aI.setCell ⟨e,u*20+19,none⟩ (Value.int IntKind.i64 aa)=an at*;replace S:=hid ((S.trans (aW c)).trans P);replace y:=hid J;replace j:=N;have H:an.cell? ⟨wb,3,none⟩=some (.slice (some ⟨e,0,none⟩) p.tasks.length kt):=by rw[←Z.out];exact af J.r rfl
       clear J P L N D c;generalize q.task u 19 aa=q at*;have az:=hid (show Bx p wb tag w an from⟨tag,V,q,S.out,y.out,j.s⟩);clear S y j;go_wp2_with fail
       refine aq (v:=.int .i64 (0)) (by simp[results,Tryz.results143,go_sem]) rfl ⟨0,rfl,by decide,az.out⟩
end Go.Proofs.YtaejnmmpddbbjaaGreatDoor.Wd
