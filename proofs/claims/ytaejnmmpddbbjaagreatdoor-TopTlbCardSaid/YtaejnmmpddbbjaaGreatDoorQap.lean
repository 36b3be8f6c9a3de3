/- Qap -/
import Derived.Test.YtaejnmmpddbbjaaGreatDoorQao
namespace Go.Proofs.YtaejnmmpddbbjaaGreatDoor.Wd
open Go.RowKit Mem Bw Nums Mmu
theorem app_copy {w:World} {base:Nat} {v:Value} (f:w.ownsRow base 3 1 v 0 []) (e:base≤w.heap.size) {u:Value} {zs:List Int} (p:IntsIn w u zs) (hl:zs.length≤1000):
  ∃q c w',(Builtin.append_ #[22,22] 22 #[v,u]).run Tryz.prog w=.ok (.slice q zs.length c) w'∧w'.ownsRow base 3 1 (.slice q zs.length c) zs.length (ints zs)∧Below base w w'∧w.grownBy w' v.ownBlock:=by
 obtain⟨i,hi,s,o,r⟩:=info_get infoI;obtain⟨q,b,off,cap,rfl,m,t⟩:=p;obtain⟨j,l⟩:=ints_src m t (aj w.heap.size w);obtain⟨A,w',n,a,d⟩:=run_app (P:=Tryz.prog) 22 22 3 i (.int .i64 0) 1 8 Tryz.underlying22 hi s o r rfl (by decide) base v f q zs.length cap (ints zs) j (by unfold ints;simp) l (fun x g=>by
  unfold ints at g;obtain⟨y,_,rfl⟩:=List.mem_map.1 g;rfl) (by unfold maxLen;omega) (by omega) e
 obtain⟨z,h,rfl⟩:=own_form a;exact⟨z,h,w',n,a,(aj base w).grown d e (fun k hk=>(f.lt k hk).1),d⟩
theorem app_one {w:World} {base:Nat} {v:Value} {zs:List Int} (g:w.ownsRow base 3 1 v zs.length (ints zs)) (f:base≤w.heap.size) (hl:zs.length≤1000) {b:Nat} {x:Int} (l:w.cell? ⟨b,0,none⟩=some (.int .i64 x)):
  ∃q c w',(Builtin.append_ #[22,22] 22 #[v,.slice (some ⟨b,0,none⟩) 1 1]).run Tryz.prog w=.ok (.slice q (zs.length+1) c) w'∧w'.ownsRow base 3 1 (.slice q (zs.length+1) c) (zs++[x]).length (ints (zs++[x]))∧Below base w w':=by
 obtain⟨i,hi,p,n,o⟩:=info_get infoI;obtain⟨r,w',m,d,h,_⟩:=run_append_own (P:=Tryz.prog) w base 22 22 3 i (.int .i64 0) 1 8 Tryz.underlying22 hi p n o rfl (by decide) v zs.length (ints zs) g ⟨b,0,none⟩ 1 1 [.int .i64 x] rfl (fun j v a=>by
  match j,a with
  |0,a=>cases a;exact l
  |j+1,a=>simp at a) (int1 x) (by unfold maxLen;omega) (by omega) f
 obtain⟨q,cap,rfl⟩:=own_form d;have e:ints zs++[Value.int .i64 x]=ints (zs++[x]):=by unfold ints;simp
 exact⟨q,cap,w',m,by rw[←e,av];exact d,(aj base w).grown h f (fun k hk=>(g.lt k hk).1)⟩
def wnP (p:PW) (t n:Nat):PW:={(p.task t 9 1).task t 14 (-1) with ready:=p.ready.set n (p.ready.getD n []++[(t:Int)])}
set_option maxRecDepth 100000
set_option maxHeartbeats 8000000
theorem woken_ref (wb:Nat) (tag:Nat→Nat) (V:Nat→Value) (p:PW) (t n:Nat) (W:World) (bt:BoxT W wb tag V p) (hp:p.Fits) (D:t<p.tasks.length) (hn:n<p.ready.length) (aW:0≤p.tasks.getD t bl 18∧p.tasks.getD t bl 18≤1000) (aV:0≤p.tasks.getD t bl 10∧p.tasks.getD t bl 10≤1000) (a0:p.tasks.getD t bl 18*4+p.tasks.getD t bl 10=(n:Int)):
  Calls Tryz.prog 41 #[.pointer (some ⟨wb,0,none⟩),.int .i64 t] W fun r W'=>r=.returned (.tuple #[])∧∃tag',BoxT W' wb tag' V (wnP p t n)∧Kt tag tag' W W':=by
 have bn:=hid (show (p.ready.getD n []).length≤1000 by rw[aa,ac hn];exact hp.next _ (aw hn));have av:=hid hn;have ck:(p.ready.length:Int)≤1000:=by have:=hp.ready;omega
 have cj:(p.tasks.length:Int)≤1000:=by have:=hp.tasks;omega
 have cp:(t:Int)<(p.tasks.length:Int):=by omega
 have cm:(n:Int)<(p.ready.length:Int):=by omega
 have am:=hid D;have J:=hid (ap p t 9 1);have L2:=hid ((ap (p.task t 9 1) t 14 (-1)).trans J);have aM:=hid (show (((p.task t 9 1).task t 14 (-1)).tasks.getD t bl) 18=p.tasks.getD t bl 18 by rw[task_getD _ t 14 18 (-1) (by rw[J.out];exact D)];exact task_getD p t 9 18 1 D);have aL:=hid (show (((p.task t 9 1).task t 14 (-1)).tasks.getD t bl) 10=p.tasks.getD t bl 10 by rw[task_getD _ t 14 10 (-1) (by rw[J.out];exact D)];exact task_getD p t 9 10 1 D);generalize p.tasks.getD t bl 18=cc at aM aW a0;generalize p.tasks.getD t bl 10=pp at aL aV a0;obtain⟨bY,bZ⟩:=aW;obtain⟨cd,cg⟩:=aV;obtain⟨g3,cap3,L⟩:=bt.o.tasks.form (by omega);have E3:=hid L;have c3:W.cell? ⟨wb,3,none⟩=some (.slice (some ⟨g3,0,none⟩) p.tasks.length cap3):=by rw[af bt.r (k:=3) rfl,L]
 have x9:=bt.taskAt L D (show 9<20 by omega);have f9:=bt.tasksFr L (t*20+9);obtain⟨b1,k1⟩:=bt.task L D (show 9<20 by omega) 1;have N:=hid b1;have K1:=hid k1;clear bt hp b1 k1 L D hn;go_enter Tryz.func41,Tryz.ntmps41
 go_upto_region 1 with fail
 generalize World.setCell _ _ _=W1 at*;clear c3 x9 f9;have e4:V 3=.slice (some ⟨g3,0,none⟩) (p.task t 9 1).tasks.length cap3:=by rw[J.out];exact E3
 have c3:W1.cell? ⟨wb,3,none⟩=some (.slice (some ⟨g3,0,none⟩) p.tasks.length cap3):=by rw[af N.r (k:=3) rfl,E3.out]
 have bU:=N.taskAt e4 (i:=t) (by rw[J.out];exact am) (show 14<20 by omega);have bR:=N.tasksFr e4 (t*20+14);obtain⟨b2,k2⟩:=N.task e4 (i:=t) (by rw[J.out];exact am) (show 14<20 by omega) (-1);have O:=hid b2;have K2:=hid (K1.trans k2);clear b2 k2 e4 N K1;go_upto_region 2 with fail
 generalize World.setCell _ _ _=W2 at*;clear c3 bU bR;have e5:V 3=.slice (some ⟨g3,0,none⟩) ((p.task t 9 1).task t 14 (-1)).tasks.length cap3:=by rw[L2.out];exact E3
 have c3:W2.cell? ⟨wb,3,none⟩=some (.slice (some ⟨g3,0,none⟩) p.tasks.length cap3):=by rw[af O.r (k:=3) rfl,E3.out]
 have a8:=O.taskAt e5 (i:=t) (by rw[L2.out];exact am) (show 18<20 by omega);have a7:=O.taskAt e5 (i:=t) (by rw[L2.out];exact am) (show 10<20 by omega);rw[aM.out] at a8;rw[aL.out] at a7;clear e5
 go_quiet (fail)
 have BS:=hid (bc (aj W2.heap.size W2) nq);generalize World.drewN _ _=a at BS ⊢;have B3:=hid (O.below BS);have K3:=hid (K2.trans (.below BS));clear c3 a8 a7 O K2 BS;go_wp2_with fail
 obtain⟨d,eL⟩:=B3.o.ready.form;have M:=B3.o.ready;rw[eL] at M;obtain⟨u,cu,hu⟩:=M.at (j:=n) av;obtain⟨zs,ab⟩:∃zs,(p.ready).getD n []=zs:=⟨_,rfl⟩
 have a3:InT a tag (13+3*n) 3 1 u (zs.length,ints zs):=by
  have h1:InT a tag (13+3*n) 3 1 u (ci (p.ready) n):=hu;unfold ci at h1;rw[ab] at h1;exact h1
 have I:=hid (show zs.length≤1000 from by rw[←ab];exact bn);have bW:=hid ab;have HU:=hid (dm a3.1);have bV:=hid M;have Y:=hid (show V 7=.slice (some ⟨d,0,none⟩) p.ready.length p.ready.length from eL);have aq:=hid (fun X (h:Below a.heap.size a X)=>show X.frozen? ⟨d,n,none⟩=false from (M.kp (T:=fun _=>False) (.of_below h) (fun _ _=>rfl) (fun _ _ e=>e)).fr n);have l:=hid (fun X (h:Below a.heap.size a X)=>show X.cell? ⟨wb,7,none⟩=some (.slice (some ⟨d,0,none⟩) p.ready.length p.ready.length) by rw[af (B3.below h).r (k:=7) rfl,Y.out]);have g:=hid (fun X (h:Below a.heap.size a X)=>show X.cell? ⟨d,n,none⟩=some u from (h.cell (al _ _ cu)).trans cu);have BD:Hid (Below a.heap.size a a.drew):=hid (aA a 1);have ao:=hid (fun X v (zz:List Int) (hz:zz=zs++[(t:Int)]) (h:Below a.heap.size a X) (f:X.ownsRow a.heap.size 3 1 v zz.length (ints zz))=>show BoxT (X.setCell ⟨d,n,none⟩ v) wb (tagN tag a.heap.size (13+3*n)) V {(p.task t 9 1).task t 14 (-1) with ready:=(p.ready).set n ((p.ready).getD n []++[(t:Int)])}∧Kt tag (tagN tag a.heap.size (13+3*n)) W (X.setCell ⟨d,n,none⟩ v) from by
  obtain⟨bS,a2⟩:=M.put (tag':=tagN tag a.heap.size (13+3*n)) (w1:=X) (u:=v) (c:=(zz.length,ints zz)) (j:=n) av (fun j=>by omega) (.of_below h) (fun k hk=>cW hk) ⟨f.mono (bI _),fun k e=>by
   unfold tagN;rw[ae (by have:=(f.lt k e).1;omega)]⟩
  refine⟨B3.ready a2 (fun k hk=>cW hk) ?_,K3.trans (Kt.of (tag':=tagN tag a.heap.size (13+3*n)) a2 (fun k e=>by rcases e with e|⟨j,e⟩<;>omega) (fun k hk=>cW hk))⟩;rw[ar,Y.out,ci_set _ _ av,ab, ←hz];exact bS)
 clear hu a3 ab M eL cu;refine wp_region_F (S:=fun X=>X.cell? ⟨wb,7,none⟩=some (.slice (some ⟨d,0,none⟩) p.ready.length p.ready.length)) (R:=fun X=>X.cell? ⟨d,n,none⟩=some u) [18] (by kernel_rfl) (l.out _ BD) (g.out _ BD) (fun aZ aX=>?_);have w:=hid aZ;have s:=hid aX;clear aZ aX;refine tF 0 (.pointer (some ⟨wb,0,none⟩)) rfl w (fun _=>s.out) ?_;simp only[jj];refine tF 1 (.pointer (some ⟨wb,0,none⟩)) rfl w (fun _=>s.out) ?_;simp only[jj];refine tF 2 (.pointer (some ⟨wb,7,none⟩)) rfl w (fun _=>s.out) ?_;simp only[jj];refine tG 3 (.slice (some ⟨d,0,none⟩) p.ready.length p.ready.length) rfl w (fun _=>s.out) ?_;simp only[jj];refine tF 4 (.int .i64 n) rfl w (fun _=>s.out) ?_;simp only[jj];refine tF 6 (.pointer (some ⟨wb,0,none⟩)) rfl w (fun _=>s.out) ?_;simp only[jj];refine tF 7 (.pointer (some ⟨wb,0,none⟩)) rfl w (fun _=>s.out) ?_;simp only[jj];refine tF 8 (.pointer (some ⟨wb,7,none⟩)) rfl w (fun _=>s.out) ?_;simp only[jj];refine tG 9 (.slice (some ⟨d,0,none⟩) p.ready.length p.ready.length) rfl w (fun _=>s.out) ?_;simp only[jj];refine tF 10 (.int .i64 n) rfl w (fun _=>s.out) ?_;simp only[jj];refine tF 11 (.pointer (some ⟨d,n,none⟩)) rfl w (fun _=>s.out) ?_;simp only[jj];refine wpAnyF_takeR (i:=12) (v:=u) rfl (by kernel_rfl) (by kernel_rfl) (by kernel_rfl) (by kernel_rfl) (by kernel_rfl) (by kernel_rfl) (fun _ _ _ h=>h) (Or.inl ⟨by rfl,fun W h=>by have h3:=h.2;clear h;go_simp⟩) w (fun _=>s.out) ?_;simp only[jj];refine tF 14 (.int .i64 t) rfl w (fun _=>s.out) ?_;simp only[jj];refine wpAnyF_ready (rs:=[5,15]) (by kernel_rfl) (by simp) (AllReadyF.cons rfl (fun K b=>?_) (AllReadyF.cons rfl (fun K b=>?_) AllReadyF.nil))
 ·have Ea:=hid (show (a.alloc (.cells #[] 3)).drew.ownsRow a.heap.size 3 1 (.slice (some ⟨a.heap.size,0,none⟩) 0 0) 0 [] from (de a #[] 0 (au _) (bI _) (by simp)));have H:=hid (show Below a.heap.size a (a.alloc (.cells #[] 3)).drew from (bal (aj _ a) (.cells #[] 3)).drew);go_simp
  refine b _ _ (l.out _ H) (fun _=>g.out _ H) (fun _ _=>?_);clear b K
  try simp only[Act.put,jD,jE,jF]
  generalize World.drew (World.alloc _ _)=y at*;refine wpAnyF_ready (rs:=[13,15]) (by kernel_rfl) (by simp) (AllReadyF.cons rfl (fun K b=>?_) (AllReadyF.cons rfl (fun K b=>?_) AllReadyF.nil))
  ·obtain⟨aG,aC,F,q,f,m,G⟩:=app_copy Ea H.size (show IntsIn y u zs from HU.below H) I;have bb:=hid q;have bq:=hid f;have an:=hid (show Below a.heap.size a F from H.trans m);clear q f m G;refine wp_app1 _ _ 22 rfl (.slice (some ⟨a.heap.size,0,none⟩) 0 0) u (.slice aG zs.length aC) rfl rfl bb ?_;refine b _ _ (l.out _ an) (fun _=>g.out _ an) (fun _ _=>?_);clear b K;simp only[jj];refine wpAnyF_ready (rs:=[15]) (by kernel_rfl) (by simp) (AllReadyF.cons rfl (fun K b=>?_) AllReadyF.nil);have bH:=hid (show (F.alloc (.cells #[.int .i64 t] 3)).cell? ⟨F.heap.size,0,none⟩=some (.int .i64 t) from cJ F #[.int .i64 t] 3 0);have ad:=hid (show Below a.heap.size a (F.alloc (.cells #[.int .i64 t] 3)) from bal an (.cells #[.int .i64 t] 3));have br:=hid (show (F.alloc (.cells #[.int .i64 t] 3)).ownsRow a.heap.size 3 1 (.slice aG zs.length aC) zs.length (ints zs) from bq.alloc _);go_simp
   refine b _ _ (l.out _ ad) (fun _=>g.out _ ad) (fun _ _=>?_);clear b K
   try simp only[Act.put,jD,jE,jF]
   generalize World.alloc _ _=bX at*;generalize F.heap.size=bT at*;refine wpAnyF_ready (rs:=[16]) (by kernel_rfl) (by simp) (AllReadyF.cons rfl (fun K b=>?_) AllReadyF.nil);obtain⟨aH,aD,ay,q,f,m⟩:=app_one br ad.size I bH;have bf:=hid q;have bv:=hid f;have z:=hid (show Below a.heap.size a ay from ad.trans m);have bE:=hid (l.out _ z);have bB:=hid (g.out _ z);clear q f m;refine wp_app1 _ _ 22 rfl (.slice aG zs.length aC) (.slice (some ⟨bT,0,none⟩) 1 1) (.slice aH (zs.length+1) aD) rfl rfl bf ?_;refine b _ _ (l.out _ z) (fun _=>g.out _ z) (fun _ _=>?_);clear b K;simp only[jj];refine tF 17 (.pointer (some ⟨d,n,none⟩)) rfl bE (fun _=>bB.out) ?_;simp only[jj];have aT:=l.out _ z;have aS:=g.out _ z;have aU:=aq.out _ z;obtain⟨x,C⟩:=ao.out ay (.slice aH (zs.length+1) aD) (zs++[(t:Int)]) rfl z bv;have P:=hid x;have Z:=hid C;have S6:=hid (show (ay.setCell ⟨d,n,none⟩ (.slice aH (zs.length+1) aD)).cell? ⟨wb,7,none⟩=some (.slice (some ⟨d,0,none⟩) p.ready.length p.ready.length) by rw[af x.r (k:=7) rfl,Y.out]);clear x C;refine r1 18 rfl (fun K b=>?_);go_simp
   refine b _ _ S6 (notClean (by kernel_rfl)) (fun _ _=>?_);clear b K
   try simp only[Act.put]
   refine wpAnyF_done (by kernel_rfl) ?_ _;generalize World.setCell _ _ _=W6 at*;go_wp2_with fail
   exact aY (aN rfl _ _ _) rfl ⟨rfl,_,by unfold wnP;exact P,Z.out⟩
  ·have bK:=hid (show (y.alloc (.cells #[.int .i64 t] 3)).cell? ⟨y.heap.size,0,none⟩=some (.int .i64 t) from cJ y #[.int .i64 t] 3 0);have Q:=hid (show Below a.heap.size a (y.alloc (.cells #[.int .i64 t] 3)) from bal H (.cells #[.int .i64 t] 3));have a9:=hid (show (y.alloc (.cells #[.int .i64 t] 3)).ownsRow a.heap.size 3 1 (.slice (some ⟨a.heap.size,0,none⟩) 0 0) 0 [] from Ea.alloc _);have bo:=hid (show a.heap.size≠y.heap.size from fun e=>by have h1:a.heap.size<y.heap.size:=(Ea.lt _ rfl).2;omega);go_simp
   refine b _ _ (l.out _ Q) (fun _=>g.out _ Q) (fun _ _=>?_);clear b K
   try simp only[Act.put,jD,jE,jF]
   generalize World.alloc _ _=bO at*;generalize y.heap.size=a6 at*;refine wpAnyF_ready (rs:=[13]) (by kernel_rfl) (by simp) (AllReadyF.cons rfl (fun K b=>?_) AllReadyF.nil);obtain⟨a4,aQ,aO,q,f,m,G⟩:=app_copy a9 Q.size (show IntsIn bO u zs from HU.below Q) I;have bg:=hid q;have bs:=hid f;have ag:=hid (show Below a.heap.size a aO from Q.trans m);have bL:=hid (show aO.cell? ⟨a6,0,none⟩=some (.int .i64 t) from G.cell bK (fun e=>bo.out (aK e).symm));clear q f m G;refine wp_app1 _ _ 22 rfl (.slice (some ⟨a.heap.size,0,none⟩) 0 0) u (.slice a4 zs.length aQ) rfl rfl bg ?_;refine b _ _ (l.out _ ag) (fun _=>g.out _ ag) (fun _ _=>?_);clear b K;simp only[jj];refine wpAnyF_ready (rs:=[16]) (by kernel_rfl) (by simp) (AllReadyF.cons rfl (fun K b=>?_) AllReadyF.nil);obtain⟨aI,aE,az,q,f,m⟩:=app_one bs ag.size I bL;have bh:=hid q;have bz:=hid f;have A:=hid (show Below a.heap.size a az from ag.trans m);have bF:=hid (l.out _ A);have bC:=hid (g.out _ A);clear q f m;refine wp_app1 _ _ 22 rfl (.slice a4 zs.length aQ) (.slice (some ⟨a6,0,none⟩) 1 1) (.slice aI (zs.length+1) aE) rfl rfl bh ?_;refine b _ _ (l.out _ A) (fun _=>g.out _ A) (fun _ _=>?_);clear b K;simp only[jj];refine tF 17 (.pointer (some ⟨d,n,none⟩)) rfl bF (fun _=>bC.out) ?_;simp only[jj];have aT:=l.out _ A;have aS:=g.out _ A;have aU:=aq.out _ A;obtain⟨x,C⟩:=ao.out az (.slice aI (zs.length+1) aE) (zs++[(t:Int)]) rfl A bz;have P:=hid x;have Z:=hid C;have S6:=hid (show (az.setCell ⟨d,n,none⟩ (.slice aI (zs.length+1) aE)).cell? ⟨wb,7,none⟩=some (.slice (some ⟨d,0,none⟩) p.ready.length p.ready.length) by rw[af x.r (k:=7) rfl,Y.out]);clear x C;refine r1 18 rfl (fun K b=>?_);go_simp
   refine b _ _ S6 (notClean (by kernel_rfl)) (fun _ _=>?_);clear b K
   try simp only[Act.put]
   refine wpAnyF_done (by kernel_rfl) ?_ _;generalize World.setCell _ _ _=W6 at*;go_wp2_with fail
   exact aY (aN rfl _ _ _) rfl ⟨rfl,_,by unfold wnP;exact P,Z.out⟩
 ·have ax:=hid (show (a.alloc (.cells #[.int .i64 t] 3)).drew.cell? ⟨a.heap.size,0,none⟩=some (.int .i64 t) from cJ a #[.int .i64 t] 3 0);have ah:=hid (show Below a.heap.size a (a.alloc (.cells #[.int .i64 t] 3)).drew from (bal (aj _ a) (.cells #[.int .i64 t] 3)).drew);go_simp
  refine b _ _ (l.out _ ah) (fun _=>g.out _ ah) (fun _ _=>?_);clear b K
  try simp only[Act.put,jD,jE,jF]
  generalize World.drew (World.alloc _ _)=E at*;refine wpAnyF_ready (rs:=[5]) (by kernel_rfl) (by simp) (AllReadyF.cons rfl (fun K b=>?_) AllReadyF.nil);have ba:=hid (show (E.alloc (.cells #[] 3)).ownsRow a.heap.size 3 1 (.slice (some ⟨E.heap.size,0,none⟩) 0 0) 0 [] from (de E #[] 0 ah.size (bI _) (by simp)));have U:=hid (show Below a.heap.size a (E.alloc (.cells #[] 3)) from bal ah (.cells #[] 3));have bM:=hid (show (E.alloc (.cells #[] 3)).cell? ⟨a.heap.size,0,none⟩=some (.int .i64 t) from (bJ _ _ _ (al _ _ ax)).trans ax);have bp:=hid (show (E.heap.size)≠a.heap.size from fun e=>by have:=al _ _ ax;simp only at this;omega);go_simp
  refine b _ _ (l.out _ U) (fun _=>g.out _ U) (fun _ _=>?_);clear b K
  try simp only[Act.put,jD,jE,jF]
  generalize World.alloc _ _=bP at*;generalize E.heap.size=bQ at*;refine wpAnyF_ready (rs:=[13]) (by kernel_rfl) (by simp) (AllReadyF.cons rfl (fun K b=>?_) AllReadyF.nil);obtain⟨a5,aR,aP,q,f,m,G⟩:=app_copy ba U.size (show IntsIn bP u zs from HU.below U) I;have bj:=hid q;have bu:=hid f;have ai:=hid (show Below a.heap.size a aP from U.trans m);have bN:=hid (show aP.cell? ⟨a.heap.size,0,none⟩=some (.int .i64 t) from G.cell bM (fun e=>bp.out (aK e).symm));clear q f m G;refine wp_app1 _ _ 22 rfl (.slice (some ⟨bQ,0,none⟩) 0 0) u (.slice a5 zs.length aR) rfl rfl bj ?_;refine b _ _ (l.out _ ai) (fun _=>g.out _ ai) (fun _ _=>?_);clear b K;simp only[jj];refine wpAnyF_ready (rs:=[16]) (by kernel_rfl) (by simp) (AllReadyF.cons rfl (fun K b=>?_) AllReadyF.nil);obtain⟨aJ,aF,aB,q,f,m⟩:=app_one bu ai.size I bN;have bk:=hid q;have bA:=hid f;have B:=hid (show Below a.heap.size a aB from ai.trans m);have bG:=hid (l.out _ B);have bD:=hid (g.out _ B);clear q f m;refine wp_app1 _ _ 22 rfl (.slice a5 zs.length aR) (.slice (some ⟨a.heap.size,0,none⟩) 1 1) (.slice aJ (zs.length+1) aF) rfl rfl bk ?_;refine b _ _ (l.out _ B) (fun _=>g.out _ B) (fun _ _=>?_);clear b K;simp only[jj];refine tF 17 (.pointer (some ⟨d,n,none⟩)) rfl bG (fun _=>bD.out) ?_;simp only[jj];have aT:=l.out _ B;have aS:=g.out _ B;have aU:=aq.out _ B;obtain⟨x,C⟩:=ao.out aB (.slice aJ (zs.length+1) aF) (zs++[(t:Int)]) rfl B bA;have P:=hid x;have Z:=hid C;have S6:=hid (show (aB.setCell ⟨d,n,none⟩ (.slice aJ (zs.length+1) aF)).cell? ⟨wb,7,none⟩=some (.slice (some ⟨d,0,none⟩) p.ready.length p.ready.length) by rw[af x.r (k:=7) rfl,Y.out]);clear x C;refine r1 18 rfl (fun K b=>?_);go_simp
  refine b _ _ S6 (notClean (by kernel_rfl)) (fun _ _=>?_);clear b K
  try simp only[Act.put]
  refine wpAnyF_done (by kernel_rfl) ?_ _;generalize World.setCell _ _ _=W6 at*;go_wp2_with fail
  exact aY (aN rfl _ _ _) rfl ⟨rfl,_,by unfold wnP;exact P,Z.out⟩
set_option maxRecDepth 512
set_option maxHeartbeats 200000
theorem LF.of {p q:PW} (h:LF p) (e1:q.kinds.length=p.kinds.length:=by first|rfl|simp) (e2:q.cores.length=p.cores.length:=by first|rfl|simp) (a:q.doms.length=p.doms.length:=by first|rfl|simp) (e4:q.ram.length=p.ram.length:=by first|rfl|simp) (e5:q.slots.length=p.slots.length:=by first|rfl|simp) (e6:q.tasks.length=p.tasks.length:=by first|rfl|simp[PW.task]) (e7:q.lines.length=p.lines.length:=by first|rfl|simp[lvs]) (e8:q.bits.length=p.bits.length:=by first|rfl|simp) (e9:q.ready.length=p.ready.length:=by first|rfl|simp[lvs]) (e10:q.tlbs.length=p.tlbs.length:=by first|rfl|simp):LF q:=
 ⟨by rw[e1];exact h.k1,by rw[e1];exact h.k2,by rw[e2];exact h.c1,by rw[e2];exact h.c2,by rw[a];exact h.d1,by rw[a];exact h.d2,by rw[e4,e1];exact h.ram,by rw[e5,e1];exact h.slots,by rw[e6,e1];exact h.tasks,by rw[e7,e1];exact h.lines,by rw[e8,e1];exact h.bits,by rw[e9,e2];exact h.ready,by rw[e10,e2];exact h.tlbs⟩
theorem fOk_eq {p q:PW} (d:q.kinds=p.kinds) (c:q.cores.length=p.cores.length) (k:Nat) (v:Int):fOk q k v=fOk p k v:=by
 have e:∀a b,isOrB q a b=isOrB p a b:=fun a b=>by unfold isOrB isB kindAt;rw[d]
 unfold fOk;rw[c,e,e,e]
structure Tk (h:Nat→Prop) (p:PW):Prop where
 lf:LF p
 a:TkA p
 o:TkO p
 q:TkQ h p
theorem tk_t {p:PW} {t:Nat} (a:t<p.tasks.length) (k:Nat) (x:Int) (n j:Nat):(p.task t k x).t n j=if n=t∧j=k then x else p.t n j:=by
 show ((p.tasks.set t (upd (p.tasks.getD t bl) k x)).getD n bl) j=_
 rw[getD_set a];by_cases e:n=t
 ·rw[ag e];show (if j=k then x else p.t t j)=_
  by_cases e2:j=k
  ·rw[ag e2,ag ⟨e,e2⟩]
  ·rw[ae e2,ae (fun y=>e2 y.2),e]
 ·rw[ae e,ae (fun y=>e y.1)]
theorem TkA.to {p q:PW} (x:TkA p) (b:q.kinds=p.kinds) (et:q.tasks=p.tasks) (c:q.cores.length=p.cores.length):TkA q:=by
 have k:∀n,q.k n=p.k n:=fun n=>by show q.kinds.getD n 0=_;rw[b]
 have t:∀n,q.t n=p.t n:=fun n=>by show q.tasks.getD n bl=_;rw[et]
 exact⟨fun n a=>by rw[t];exact x.no n (k n▸a),fun n a j d=>by rw[t,fOk_eq b c];exact x.ok n (k n▸a) j d⟩
theorem TkA.fld {p:PW} (x:TkA p) {t:Nat} (c:t<p.tasks.length) (d:p.k t=6) {k:Nat} {v:Int} (f:fOk p k v=true):TkA (p.task t k v):=by
 refine⟨fun n a j b=>?_,fun n a j b=>?_⟩
 ·rw[tk_t c,ae (fun (y:n=t∧j=k)=>a (y.1▸d))];exact x.no n a j b
 ·rw[tk_t c,fOk_eq (q:=p.task t k v) (p:=p) rfl rfl];split
  ·rename_i e;rw[e.2];exact f
  ·exact x.ok n a j b
theorem TkO.to {p q:PW} (x:TkO p) (d:∀n,q.t n 17=p.t n 17) (e9:∀n,q.t n 9=p.t n 9):TkO q:=
 ⟨fun n=>by rw[d,e9];exact (x.ow n).elim .inl fun ⟨u,a,b,c⟩=>.inr ⟨u,a,by rw[e9];exact b,c⟩,fun u e=>by rw[e9] at e;obtain⟨n,h⟩:=x.ak u e;exact⟨n,by rw[d];exact h⟩,fun n m u f g=>x.ij n m u (d n▸f) (d m▸g)⟩
theorem TkO.st {p q:PW} (x:TkO p) (t:Nat) (a:∀n,q.t n 17=p.t n 17) (e9:∀n,n≠t→q.t n 9=p.t n 9) (k:p.t t 9≠5) (l:q.t t 9≠5) (j:q.t t 9=4→p.t t 17= -1):TkO q:=by
 refine⟨fun n=>?_,fun u b=>?_,fun n m u h i=>x.ij n m u (a n▸h) (a m▸i)⟩
 ·rw[a];rcases x.ow n with g|⟨u,c,d,f⟩
  ·exact .inl g
  ·refine .inr ⟨u,c,?_,?_⟩
   ·rw[e9 u (fun e=>k (e▸d))];exact d
   ·by_cases e:n=t
    ·subst e;exact fun y=>by rw[j y] at c;omega
    ·rw[e9 n e];exact f
 ·have e:u≠t:=fun e=>l (e▸b);rw[e9 u e] at b;obtain⟨n,o⟩:=x.ak u b;exact⟨n,by rw[a];exact o⟩
theorem Tk.tl {h:Nat→Prop} {p:PW} (x:Tk h p) {t:Nat} (a:p.k t=6):t<p.tasks.length:=by
 have:=k_in (p:=p) (f:=t) (by omega);rw[x.lf.tasks];exact this
theorem Tk.fld {h:Nat→Prop} {p:PW} (x:Tk h p) {t:Nat} (i:p.k t=6) {k:Nat} {v:Int} (u:fOk p k v=true) (m:k≠17) (r:h t∨k≠9∧k≠10∧k≠14∧k≠18) (s:k=9→p.t t 9≠5∧v≠5∧(v=4→p.t t 17= -1)):Tk h (p.task t k v):=by
 have d:=x.tl i;refine⟨x.lf.of,x.a.fld d i u,?_,x.q.to rfl (fun n f j w=>?_) rfl rfl rfl rfl⟩
 ·have g:∀n,(p.task t k v).t n 17=p.t n 17:=fun n=>by rw[tk_t d,ae (fun y=>m y.2.symm)]
  by_cases e:k=9
  ·obtain⟨a,b,c⟩:=s e;have l:(p.task t k v).t t 9=v:=by rw[tk_t d,ag ⟨rfl,e.symm⟩]
   exact x.o.st t g (fun n f=>by rw[tk_t d,ae (fun y=>f y.1)]) a (by rw[l];exact b) (by rw[l];exact c)
  ·exact x.o.to g (fun n=>by rw[tk_t d,ae (fun y=>e y.2.symm)])
 ·rw[tk_t d,ae];rintro⟨rfl,rfl⟩;rcases r with e|e
  ·exact f e
  ·omega
theorem Tk.hh {p:PW} {t:Nat} (x:Tk (Hnd t) p):p.k t=6:=x.q.hk t rfl
theorem Tk.reg {h:Nat→Prop} {p:PW} (x:Tk h p) {t:Nat} (a:p.k t=6) {k:Nat} {v:Int} (hk:k≤8∨k=15∨k=16) (b:0≤v∧v≤65535):Tk h (p.task t k v):=
 x.fld a (by unfold fOk;rw[ag hk];exact aF b) (by omega) (.inr (by omega)) (by omega)
theorem Tk.at' {p:PW} {t:Nat} (x:Tk (Hnd t) p) (v:Int):Tk (Hnd t) (p.task t 14 v):=x.fld x.hh rfl (by decide) (.inl rfl) (by omega)
theorem Tk.set9 {p:PW} {t:Nat} (x:Tk (Hnd t) p) {v:Int} (d:0≤v∧v≤6) (b:p.t t 9≠5) (c:v≠5) (a:v=4→p.t t 17= -1):Tk (Hnd t) (p.task t 9 v):=
 x.fld x.hh (by unfold fOk;rw[ae (by omega),ag rfl];exact aF d) (by decide) (.inl rfl) (fun _=>⟨b,c,a⟩)
theorem Tk.num {h:Nat→Prop} {p:PW} (x:Tk h p) {t:Nat} (c:p.k t=6):(0≤p.t t 10∧p.t t 10≤3)∧(0≤p.t t 18∧p.t t 18≤(p.cores.length:Int) - 1)∧rdN p t<p.ready.length:=by
 have a:within 0 3 (p.t t 10)=true:=x.a.ok t c 10 (by decide);have b:within 0 ((p.cores.length:Int) - 1) (p.t t 18)=true:=x.a.ok t c 18 (by decide);have a:=az a;have b:=az b;refine⟨a,b,?_⟩;have:=x.lf.ready;show (p.t t 18*4+p.t t 10).toNat<_
 omega
theorem Tk.li' {h b:Nat→Prop} {p:PW} (x:Tk h p) {L R:List (List Int)} {B C:List Int} (y:TkQ b {p with lines:=L,bits:=B,ready:=R,cores:=C}) (e7:L.length=p.lines.length:=by first|rfl|simp[lvs]) (e8:B.length=p.bits.length:=by first|rfl|simp) (e9:R.length=p.ready.length:=by first|rfl|simp[lvs]) (e2:C.length=p.cores.length:=by first|rfl|simp):Tk b {p with lines:=L,bits:=B,ready:=R,cores:=C}:=
 ⟨x.lf.of (e2:=e2) (e7:=e7) (e8:=e8) (e9:=e9),x.a.to rfl rfl e2,x.o.to (fun _=>rfl) (fun _=>rfl),y⟩
theorem Tk.putReady {p:PW} {t:Nat} (x:Tk (Hnd t) p) (b:p.t t 9=1) (a:p.t t 14= -1):Tk Nbd {p with ready:=p.ready.set (rdN p t) (p.re (rdN p t)++[(t:Int)])}:=
 x.li' (B:=p.bits) (L:=p.lines) (C:=p.cores) (x.q.ready b a (x.num x.hh).2.2)
theorem wn_t {p:PW} {t:Nat} (a:t<p.tasks.length) (n j i:Nat):(wnP p t i).t n j=if n=t∧j=14 then -1 else if n=t∧j=9 then 1 else p.t n j:=by
 show ((p.task t 9 1).task t 14 (-1)).t n j=_
 rw[tk_t (by rw[ap];exact a),tk_t a]
theorem TkQ.wake {p:PW} {t:Nat} (x:TkQ (Hnd t) p) (a:t<p.tasks.length) (hi:rdN p t<p.ready.length):TkQ Nbd (wnP p t (rdN p t)):=by
 have b:t<(p.task t 9 1).tasks.length:=by rw[ap];exact a
 have e:rdN ((p.task t 9 1).task t 14 (-1)) t=rdN p t:=rdN_of (by rw[tk_t b,ae (by omega),tk_t a,ae (by omega)]) (by rw[tk_t b,ae (by omega),tk_t a,ae (by omega)]);have y:=(x.to (q:=(p.task t 9 1).task t 14 (-1)) rfl (fun n c j _=>by rw[tk_t b,ae (fun y=>c y.1),tk_t a,ae (fun y=>c y.1)]) rfl rfl rfl rfl).ready (by rw[tk_t b,ae (by omega),tk_t a,ag ⟨rfl,rfl⟩]) (by rw[tk_t b,ag ⟨rfl,rfl⟩]) (by rw[e];exact hi);rw[e] at y;exact y
theorem TkA.wake {p:PW} {t i:Nat} (x:TkA p) (a:p.k t=6) (b:t<p.tasks.length):TkA (wnP p t i):=
 ((x.fld b a (k:=9) (v:=1) rfl).fld (by rw[ap];exact b) a (k:=14) (v:= -1) rfl).to rfl rfl rfl
theorem LF.wake {p:PW} (h:LF p) (t i:Nat):LF (wnP p t i):=h.of (e6:=by show ((p.task t 9 1).task t 14 (-1)).tasks.length=_;rw[ap,ap]) (e9:=by show (p.ready.set _ _).length=_;simp)
theorem Tk.wake {p:PW} {t:Nat} (x:Tk (Hnd t) p) (d:p.t t 9≠5):Tk Nbd (wnP p t (rdN p t)):=by
 have b:=x.tl x.hh;have c:(wnP p t (rdN p t)).t t 9=1:=by rw[wn_t b,ae (by omega),ag ⟨rfl,rfl⟩]
 exact⟨x.lf.wake _ _,x.a.wake x.hh b,x.o.st t (fun n=>by rw[wn_t b,ae (by omega),ae (by omega)]) (fun n f=>by rw[wn_t b,ae (by omega),ae (fun y=>f y.1)]) d (by rw[c];decide) (by rw[c];intro e;cases e),x.q.wake b (x.num x.hh).2.2⟩
theorem TkQ.up0 {p:PW} (x:TkQ Nbd p) {t:Nat} (d:p.k t=6) (f:p.t t 9=0∨p.t t 9=5):TkQ (Hnd t) p:=by
 have w:=x.wp d id;have g:pl (p.t t 9)=0:=by rcases f with e|e<;>rw[e]<;>rfl
 have b:p.t t 9≠1:=by omega
 exact x.pick (L:=p.lines) (R:=p.ready) (C:=p.cores) d (fun a z=>same_mem (fun e=>(w.ln a e).1 g) z) x.lu (fun i z=>same_mem (fun e=>b (w.rd i e).1) z) x.ru (co_same fun c e=>b (w.cr c e).1)
theorem Tk.up0 {p:PW} (x:Tk Nbd p) {t:Nat} (b:p.k t=6) (c:p.t t 9=0∨p.t t 9=5):Tk (Hnd t) p:=⟨x.lf,x.a,x.o,x.q.up0 b c⟩
theorem Tk.start {p:PW} (x:Tk Nbd p) {t:Nat} (a:p.k t=6) (b:p.t t 9=0):Tk Nbd (wnP p t (rdN p t)):=(x.up0 a (.inl b)).wake (by omega)
section
variable {α : Type} {p : α → Bool} {l m : List α} {i j : Nat}
end
section
variable {α : Type} (f : α → α) (k : Nat) (l : List α)
end
def wkP (p:PW) (t n:Nat):PW:={(lvP p t).task t 9 1 with ready:=(lvs t p.ready).set n ((lvs t p.ready).getD n []++[(t:Int)])}
end Go.Proofs.YtaejnmmpddbbjaaGreatDoor.Wd
