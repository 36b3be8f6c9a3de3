/- Qaq -/
import Derived.Test.YtaejnmmpddbbjaaGreatDoorQap
namespace Go.Proofs.YtaejnmmpddbbjaaGreatDoor.Wd
open Go.RowKit Mem Bw Nums Mmu
set_option maxRecDepth 100000
set_option maxHeartbeats 8000000
theorem handed_ref (wb:Nat) (tag:Nat→Nat) (V:Nat→Value) (p:PW) (t:Nat) (x y:Int) (W:World) (bt:BoxT W wb tag V p) (n:p.Fits) (q:t<p.tasks.length):
  Calls Tryz.prog 89 #[.pointer (some ⟨wb,0,none⟩),.int .i64 t,.int .i64 x,.int .i64 y] W fun r W'=>r=.returned (.tuple #[])∧BoxT W' wb tag V ((p.task t 1 x).task t 2 y)∧Kt tag tag W W':=by
 have C:(p.tasks.length:Int)≤1000:=by have:=n.tasks;omega
 have D:(t:Int)<(p.tasks.length:Int):=by omega
 obtain⟨g,f,m⟩:=bt.o.tasks.form (by omega);have a:=hid m;have d:=hid q;have b:=hid bt;have h:=hid (Kt.refl tag W);clear bt n m q;go_enter Tryz.func89,Tryz.ntmps89
 have e:=hid (ap p t 1 x);have l:W.cell? ⟨wb,3,none⟩=some (.slice (some ⟨g,0,none⟩) p.tasks.length f):=by rw[af b.r (k:=3) rfl,a.out]
 have A:=b.taskAt a d (show 1<20 by omega);have z:=b.tasksFr a (t*20+1);obtain⟨b1,q1⟩:=b.task a d (show 1<20 by omega) x;have c:=hid b1;have j:=hid (h.trans q1);clear b1 q1 b h;go_upto_region 1 with fail
 generalize World.setCell _ _ _=w at*;clear l A z;have e4:=hid (show V 3=.slice (some ⟨g,0,none⟩) (p.task t 1 x).tasks.length f by rw[e.out];exact a);have l:w.cell? ⟨wb,3,none⟩=some (.slice (some ⟨g,0,none⟩) p.tasks.length f):=by rw[af c.r (k:=3) rfl,a.out]
 have E:=c.taskAt e4 (i:=t) (by rw[e.out];exact d) (show 2<20 by omega);have B:=c.tasksFr e4 (t*20+2);obtain⟨b2,s⟩:=c.task e4 (i:=t) (by rw[e.out];exact d) (show 2<20 by omega) y;have u:=hid b2;have v:=hid (j.trans s);clear b2 s c j e4;go_wp2_with fail
 exact aY (aN rfl _ _ _) rfl ⟨rfl,u.out,v.out⟩
theorem off_ref (wb:Nat) (tag:Nat→Nat) (V:Nat→Value) (p:PW) (t:Nat) (W:World) (bt:BoxT W wb tag V p) (w:p.Fits):
  Calls Tryz.prog 90 #[.pointer (some ⟨wb,0,none⟩),.int .i64 t] W fun r W'=>r=.returned (.tuple #[])∧BoxT W' wb tag V {p with cores:=p.cores.map (noT t)}∧Kt tag tag W W':=by
 have H:(p.cores.length:Int)≤1000:=by have:=w.cores;omega
 obtain⟨E,m,cap6,e6,x⟩:=bt.o.cores.shape;have h:=hid e6;have C:=hid x;have z:=hid bt;clear bt w e6 x;go_enter Tryz.func90,Tryz.ntmps90
 go_wp2_with fail
 go_loopw [4] (fun i wr=>∃(k:Nat),k≤p.cores.length∧i=.int .i64 k∧Hid (BoxT wr wb tag V {p with cores:=mapK (noT t) k p.cores})∧Hid (Kt tag tag W wr)) (fun i _=>p.cores.length - (intOf i).toNat)
 case atStart=>exact⟨0,by omega,rfl,hid (by rw[mapK_zero];exact z),hid (Kt.refl _ _)⟩
 case round=>
  obtain⟨k,hk,rfl,a,j⟩:=hrel;by_cases g:k<p.cores.length
  ·have I:(k:Int)<(p.cores.length:Int):=by omega
   have D:=C.out (by omega);subst D;have n:k<(mapK (noT t) k p.cores).length:=by rw[cV];exact g
   have f:V 6=.slice (some ⟨m,0,none⟩) (mapK (noT t) k p.cores).length cap6:=by rw[cV];exact h
   have c6:wr.cell? ⟨wb,6,none⟩=some (.slice (some ⟨m,0,none⟩) p.cores.length cap6):=by rw[af a.r (k:=6) rfl,h.out]
   have b:=a.o.cores;simp only at b;rw[f] at b;have s:=b.int n;have F:=b.frozen k;rw[mapK_at _ _ _ g n] at s;have d:=hid (mapK_succ (noT (t:Int)) k p.cores g);have e:=hid (mapK_at (noT (t:Int)) k p.cores g n);obtain⟨y,q⟩:∃y,p.cores[k]=y:=⟨_,rfl⟩
   rw[q] at s d e;by_cases c:y=(t:Int)
   ·obtain⟨v,u⟩:=a.coresCell f k (-1);have l:=hid (show BoxT (wr.setCell ⟨m,k,none⟩ (.int .i64 (-1))) wb tag V {p with cores:=mapK (noT t) (k+1) p.cores} by
     rw[d.out,show noT (t:Int) y= -1 from ag c];exact v)
    have B:=hid (j.trans u);rw[c] at s;clear v u f b a c q d e;go_wp2_with fail
    exact⟨⟨k+1,by omega,by go_num,l,B⟩,by simp[intOf];omega⟩
   ·have l:=hid (show BoxT wr wb tag V {p with cores:=mapK (noT t) (k+1) p.cores} by
     rw[d.out,show noT (t:Int) y=y from ae c, ←e.out,cF];exact a)
    have J:(y==(t:Int))=false:=by simpa using c
    clear f b a c q d e;go_wp2_with fail
    exact⟨⟨k+1,by omega,by go_num,l,j⟩,by simp[intOf];omega⟩
  ·obtain rfl:k=p.cores.length:=by omega
   have G:¬((p.cores.length:Int)<(p.cores.length:Int)):=by omega
   have c6:wr.cell? ⟨wb,6,none⟩=some (.slice E p.cores.length cap6):=by rw[af a.r (k:=6) rfl,h.out]
   have A:=hid (show BoxT wr wb tag V {p with cores:=p.cores.map (noT t)} by rw[←mapK_all];exact a);clear a;go_wp2_with fail
   exact aY (aN rfl _ _ _) rfl ⟨rfl,A.out,j.out⟩
set_option maxRecDepth 512
set_option maxHeartbeats 200000
def ssP (p:PW) (t a:Nat) (s:Int):PW:={(({p with cores:=p.cores.map (noT t)}:PW).task t 9 s).task t 14 a with lines:=p.lines.set a (p.lines.getD a []++[(t:Int)])}
set_option maxRecDepth 100000
set_option maxHeartbeats 8000000
theorem stands_ref (wb:Nat) (tag:Nat→Nat) (V:Nat→Value) (p0:PW) (t a:Nat) (s:Int) (W:World) (bt:BoxT W wb tag V p0) (hp:p0.Fits) (ht:t<p0.tasks.length) (ha:a<p0.lines.length):
  Calls Tryz.prog 88 #[.pointer (some ⟨wb,0,none⟩),.int .i64 t,.int .i64 a,.int .i64 s] W fun r W'=>r=.returned (.tuple #[])∧∃tag',BoxT W' wb tag' V (ssP p0 t a s)∧Kt tag tag' W W':=by
 have ay:=hid (off_ref wb tag V p0 t W bt hp);have bP:(p0.lines.length:Int)≤1000:=by have:=hp.lines;omega
 have bN:(a:Int)<(p0.lines.length:Int):=by omega
 have bO:(p0.tasks.length:Int)≤1000:=by have:=hp.tasks;omega
 have bR:(t:Int)<(p0.tasks.length:Int):=by omega
 have aQ:=hid (show (p0.lines.getD a []).length≤1000 by rw[aa,ac ha];exact hp.line _ (aw ha));have an:=hid ha;obtain⟨g3,aI,e3⟩:=bt.o.tasks.form (by omega);have E:=hid e3;have Z:=hid ht;obtain⟨p,ab⟩:∃p,({p0 with cores:=p0.cores.map (noT t)}:PW)=p:=⟨_,rfl⟩
 have az:=hid ab;rw[ab] at ay;have el:p0.lines=p.lines:=by rw[←ab]
 have et:p0.tasks=p.tasks:=by rw[←ab]
 rw[el] at aQ an bP bN;rw[et] at E Z bO bR;have aq:=hid el;clear bt hp e3 ht ha ab el et;go_enter Tryz.func88,Tryz.ntmps88
 go_wp2_with fail
 refine ay.mono ?_;rintro r w0 ⟨rfl,H,h2⟩;have N:=hid H;have K0:=hid h2;clear H h2 ay;have L1:=hid (ap p t 9 s);have c3:w0.cell? ⟨wb,3,none⟩=some (.slice (some ⟨g3,0,none⟩) p.tasks.length aI):=by rw[af N.r (k:=3) rfl,E.out]
 have xa:=N.taskAt E Z (show 9<20 by omega);have fa:=N.tasksFr E (t*20+9);obtain⟨b1,q1⟩:=N.task E Z (show 9<20 by omega) s;have O:=hid b1;have K1:=hid (K0.trans q1);clear b1 q1 N K0;go_upto_region 2 with fail
 generalize World.setCell _ _ _=W1 at*;clear c3 xa fa;have e4:=hid (show V 3=.slice (some ⟨g3,0,none⟩) (p.task t 9 s).tasks.length aI by rw[L1.out];exact E);have c3:W1.cell? ⟨wb,3,none⟩=some (.slice (some ⟨g3,0,none⟩) p.tasks.length aI):=by rw[af O.r (k:=3) rfl,E.out]
 have xb:=O.taskAt e4 (i:=t) (by rw[L1.out];exact Z) (show 14<20 by omega);have fb:=O.tasksFr e4 (t*20+14);obtain⟨b2,q2⟩:=O.task e4 (i:=t) (by rw[L1.out];exact Z) (show 14<20 by omega) (a:Int);have B2:=hid b2;have K2:=hid (K1.trans q2);clear b2 q2 O K1 e4;go_upto_region 3 with fail
 generalize World.setCell _ _ _=b at*;have B3:=B2;have K3:=K2;clear c3 xb fb B2 K2;obtain⟨f,eL⟩:=B3.o.lines.form;have M:=B3.o.lines;rw[eL] at M;obtain⟨u,cu,hu⟩:=M.at (j:=a) an;obtain⟨zs,ad⟩:∃zs,(p.lines).getD a []=zs:=⟨_,rfl⟩
 have a3:InT b tag (12+3*a) 3 1 u (zs.length,ints zs):=by
  have H:InT b tag (12+3*a) 3 1 u (ci (p.lines) a):=hu;unfold ci at H;rw[ad] at H;exact H
 have L:=hid (show zs.length≤1000 from by rw[←ad];exact aQ);have bU:=hid ad;have HU:=hid (dm a3.1);have bT:=hid M;have Y:=hid (show V 4=.slice (some ⟨f,0,none⟩) p.lines.length p.lines.length from eL);have ax:=hid (fun X (h:Below b.heap.size b X)=>show X.frozen? ⟨f,a,none⟩=false from (M.kp (T:=fun _=>False) (.of_below h) (fun _ _=>rfl) (fun _ _ e=>e)).fr a);have m:=hid (fun X (h:Below b.heap.size b X)=>show X.cell? ⟨wb,4,none⟩=some (.slice (some ⟨f,0,none⟩) p.lines.length p.lines.length) by rw[af (B3.below h).r (k:=4) rfl,Y.out]);have l:=hid (fun X (h:Below b.heap.size b X)=>show X.cell? ⟨f,a,none⟩=some u from (h.cell (al _ _ cu)).trans cu);have BD:Hid (Below b.heap.size b b.drew):=hid (aA b 1);have av:=hid (fun X v (zz:List Int) (hz:zz=zs++[(t:Int)]) (h:Below b.heap.size b X) (g:X.ownsRow b.heap.size 3 1 v zz.length (ints zz))=>show BoxT (X.setCell ⟨f,a,none⟩ v) wb (tagN tag b.heap.size (12+3*a)) V {(p.task t 9 s).task t 14 a with lines:=(p.lines).set a ((p.lines).getD a []++[(t:Int)])}∧Kt tag (tagN tag b.heap.size (12+3*a)) W (X.setCell ⟨f,a,none⟩ v) from by
  obtain⟨bQ,a2⟩:=M.put (tag':=tagN tag b.heap.size (12+3*a)) (w1:=X) (u:=v) (c:=(zz.length,ints zz)) (j:=a) an (fun j=>by omega) (.of_below h) (fun k hk=>cW hk) ⟨g.mono (bI _),fun k e=>by
   unfold tagN;rw[ae (by have:=(g.lt k e).1;omega)]⟩
  refine⟨B3.lines a2 (fun k hk=>cW hk) ?_,K3.trans (Kt.of (tag':=tagN tag b.heap.size (12+3*a)) a2 (fun k e=>by rcases e with e|⟨j,e⟩<;>omega) (fun k hk=>cW hk))⟩;rw[ar,Y.out,ci_set _ _ an,ad, ←hz];exact bQ)
 clear hu a3 ad M eL cu;refine wp_region_F (S:=fun X=>X.cell? ⟨wb,4,none⟩=some (.slice (some ⟨f,0,none⟩) p.lines.length p.lines.length)) (R:=fun X=>X.cell? ⟨f,a,none⟩=some u) [18] (by kernel_rfl) (m.out _ BD) (l.out _ BD) (fun a0 aZ=>?_);have x:=hid a0;have w:=hid aZ;clear a0 aZ;refine tF 0 (.pointer (some ⟨wb,0,none⟩)) rfl x (fun _=>w.out) ?_;simp only[jj];refine tF 1 (.pointer (some ⟨wb,0,none⟩)) rfl x (fun _=>w.out) ?_;simp only[jj];refine tF 2 (.pointer (some ⟨wb,4,none⟩)) rfl x (fun _=>w.out) ?_;simp only[jj];refine tG 3 (.slice (some ⟨f,0,none⟩) p.lines.length p.lines.length) rfl x (fun _=>w.out) ?_;simp only[jj];refine tF 4 (.int .i64 a) rfl x (fun _=>w.out) ?_;simp only[jj];refine tF 6 (.pointer (some ⟨wb,0,none⟩)) rfl x (fun _=>w.out) ?_;simp only[jj];refine tF 7 (.pointer (some ⟨wb,0,none⟩)) rfl x (fun _=>w.out) ?_;simp only[jj];refine tF 8 (.pointer (some ⟨wb,4,none⟩)) rfl x (fun _=>w.out) ?_;simp only[jj];refine tG 9 (.slice (some ⟨f,0,none⟩) p.lines.length p.lines.length) rfl x (fun _=>w.out) ?_;simp only[jj];refine tF 10 (.int .i64 a) rfl x (fun _=>w.out) ?_;simp only[jj];refine tF 11 (.pointer (some ⟨f,a,none⟩)) rfl x (fun _=>w.out) ?_;simp only[jj];refine wpAnyF_takeR (i:=12) (v:=u) rfl (by kernel_rfl) (by kernel_rfl) (by kernel_rfl) (by kernel_rfl) (by kernel_rfl) (by kernel_rfl) (fun _ _ _ h=>h) (Or.inl ⟨by rfl,fun W h=>by have h3:=h.2;clear h;go_simp⟩) x (fun _=>w.out) ?_;simp only[jj];refine tF 14 (.int .i64 t) rfl x (fun _=>w.out) ?_;simp only[jj];refine wpAnyF_ready (rs:=[5,15]) (by kernel_rfl) (by simp) (AllReadyF.cons rfl (fun K d=>?_) (AllReadyF.cons rfl (fun K d=>?_) AllReadyF.nil))
 ·have Ea:=hid (show (b.alloc (.cells #[] 3)).drew.ownsRow b.heap.size 3 1 (.slice (some ⟨b.heap.size,0,none⟩) 0 0) 0 [] from (de b #[] 0 (au _) (bI _) (by simp)));have J:=hid (show Below b.heap.size b (b.alloc (.cells #[] 3)).drew from (bal (aj _ b) (.cells #[] 3)).drew);go_simp
  refine d _ _ (m.out _ J) (fun _=>l.out _ J) (fun _ _=>?_);clear d K
  try simp only[Act.put,jD,jE,jF]
  generalize World.drew (World.alloc _ _)=z at*;refine wpAnyF_ready (rs:=[13,15]) (by kernel_rfl) (by simp) (AllReadyF.cons rfl (fun K d=>?_) (AllReadyF.cons rfl (fun K d=>?_) AllReadyF.nil))
  ·obtain⟨aL,aF,G,q,g,n,I⟩:=app_copy Ea J.size (show IntsIn z u zs from HU.below J) L;have a9:=hid q;have bk:=hid g;have ao:=hid (show Below b.heap.size b G from J.trans n);clear q g n I;refine wp_app1 _ _ 22 rfl (.slice (some ⟨b.heap.size,0,none⟩) 0 0) u (.slice aL zs.length aF) rfl rfl a9 ?_;refine d _ _ (m.out _ ao) (fun _=>l.out _ ao) (fun _ _=>?_);clear d K;simp only[jj];refine wpAnyF_ready (rs:=[15]) (by kernel_rfl) (by simp) (AllReadyF.cons rfl (fun K d=>?_) AllReadyF.nil);have bD:=hid (show (G.alloc (.cells #[.int .i64 t] 3)).cell? ⟨G.heap.size,0,none⟩=some (.int .i64 t) from cJ G #[.int .i64 t] 3 0);have ag:=hid (show Below b.heap.size b (G.alloc (.cells #[.int .i64 t] 3)) from bal ao (.cells #[.int .i64 t] 3));have bn:=hid (show (G.alloc (.cells #[.int .i64 t] 3)).ownsRow b.heap.size 3 1 (.slice aL zs.length aF) zs.length (ints zs) from bk.alloc _);go_simp
   refine d _ _ (m.out _ ag) (fun _=>l.out _ ag) (fun _ _=>?_);clear d K
   try simp only[Act.put,jD,jE,jF]
   generalize World.alloc _ _=bV at*;generalize G.heap.size=bS at*;refine wpAnyF_ready (rs:=[16]) (by kernel_rfl) (by simp) (AllReadyF.cons rfl (fun K d=>?_) AllReadyF.nil);obtain⟨aM,aG,aC,q,g,n⟩:=app_one bn ag.size L bD;have ba:=hid q;have bq:=hid g;have A:=hid (show Below b.heap.size b aC from ag.trans n);have bA:=hid (m.out _ A);have bu:=hid (l.out _ A);clear q g n;refine wp_app1 _ _ 22 rfl (.slice aL zs.length aF) (.slice (some ⟨bS,0,none⟩) 1 1) (.slice aM (zs.length+1) aG) rfl rfl ba ?_;refine d _ _ (m.out _ A) (fun _=>l.out _ A) (fun _ _=>?_);clear d K;simp only[jj];refine tF 17 (.pointer (some ⟨f,a,none⟩)) rfl bA (fun _=>bu.out) ?_;simp only[jj];have aW:=m.out _ A;have aV:=l.out _ A;have aX:=ax.out _ A;obtain⟨y,D⟩:=av.out aC (.slice aM (zs.length+1) aG) (zs++[(t:Int)]) rfl A bq;have P:=hid y;have K6:=hid D;have S6:=hid (show (aC.setCell ⟨f,a,none⟩ (.slice aM (zs.length+1) aG)).cell? ⟨wb,4,none⟩=some (.slice (some ⟨f,0,none⟩) p.lines.length p.lines.length) by rw[af y.r (k:=4) rfl,Y.out]);clear y D;refine r1 18 rfl (fun K d=>?_);go_simp
   refine d _ _ S6 (notClean (by kernel_rfl)) (fun _ _=>?_);clear d K
   try simp only[Act.put]
   refine wpAnyF_done (by kernel_rfl) ?_ _;generalize World.setCell _ _ _=W6 at*;go_wp2_with fail
   exact aY (aN rfl _ _ _) rfl ⟨rfl,_,by unfold ssP;rw[az.out,aq.out];exact P,K6.out⟩
  ·have bE:=hid (show (z.alloc (.cells #[.int .i64 t] 3)).cell? ⟨z.heap.size,0,none⟩=some (.int .i64 t) from cJ z #[.int .i64 t] 3 0);have Q:=hid (show Below b.heap.size b (z.alloc (.cells #[.int .i64 t] 3)) from bal J (.cells #[.int .i64 t] 3));have a7:=hid (show (z.alloc (.cells #[.int .i64 t] 3)).ownsRow b.heap.size 3 1 (.slice (some ⟨b.heap.size,0,none⟩) 0 0) 0 [] from Ea.alloc _);have bh:=hid (show b.heap.size≠z.heap.size from fun e=>by have H:b.heap.size<z.heap.size:=(Ea.lt _ rfl).2;omega);go_simp
   refine d _ _ (m.out _ Q) (fun _=>l.out _ Q) (fun _ _=>?_);clear d K
   try simp only[Act.put,jD,jE,jF]
   generalize World.alloc _ _=bK at*;generalize z.heap.size=a6 at*;refine wpAnyF_ready (rs:=[13]) (by kernel_rfl) (by simp) (AllReadyF.cons rfl (fun K d=>?_) AllReadyF.nil);obtain⟨a4,aT,aR,q,g,n,I⟩:=app_copy a7 Q.size (show IntsIn bK u zs from HU.below Q) L;have bb:=hid q;have bo:=hid g;have ah:=hid (show Below b.heap.size b aR from Q.trans n);have bF:=hid (show aR.cell? ⟨a6,0,none⟩=some (.int .i64 t) from I.cell bE (fun e=>bh.out (aK e).symm));clear q g n I;refine wp_app1 _ _ 22 rfl (.slice (some ⟨b.heap.size,0,none⟩) 0 0) u (.slice a4 zs.length aT) rfl rfl bb ?_;refine d _ _ (m.out _ ah) (fun _=>l.out _ ah) (fun _ _=>?_);clear d K;simp only[jj];refine wpAnyF_ready (rs:=[16]) (by kernel_rfl) (by simp) (AllReadyF.cons rfl (fun K d=>?_) AllReadyF.nil);obtain⟨aO,aH,aD,q,g,n⟩:=app_one bo ah.size L bF;have bc:=hid q;have br:=hid g;have B:=hid (show Below b.heap.size b aD from ah.trans n);have bB:=hid (m.out _ B);have bv:=hid (l.out _ B);clear q g n;refine wp_app1 _ _ 22 rfl (.slice a4 zs.length aT) (.slice (some ⟨a6,0,none⟩) 1 1) (.slice aO (zs.length+1) aH) rfl rfl bc ?_;refine d _ _ (m.out _ B) (fun _=>l.out _ B) (fun _ _=>?_);clear d K;simp only[jj];refine tF 17 (.pointer (some ⟨f,a,none⟩)) rfl bB (fun _=>bv.out) ?_;simp only[jj];have aW:=m.out _ B;have aV:=l.out _ B;have aX:=ax.out _ B;obtain⟨y,D⟩:=av.out aD (.slice aO (zs.length+1) aH) (zs++[(t:Int)]) rfl B br;have P:=hid y;have K6:=hid D;have S6:=hid (show (aD.setCell ⟨f,a,none⟩ (.slice aO (zs.length+1) aH)).cell? ⟨wb,4,none⟩=some (.slice (some ⟨f,0,none⟩) p.lines.length p.lines.length) by rw[af y.r (k:=4) rfl,Y.out]);clear y D;refine r1 18 rfl (fun K d=>?_);go_simp
   refine d _ _ S6 (notClean (by kernel_rfl)) (fun _ _=>?_);clear d K
   try simp only[Act.put]
   refine wpAnyF_done (by kernel_rfl) ?_ _;generalize World.setCell _ _ _=W6 at*;go_wp2_with fail
   exact aY (aN rfl _ _ _) rfl ⟨rfl,_,by unfold ssP;rw[az.out,aq.out];exact P,K6.out⟩
 ·have aB:=hid (show (b.alloc (.cells #[.int .i64 t] 3)).drew.cell? ⟨b.heap.size,0,none⟩=some (.int .i64 t) from cJ b #[.int .i64 t] 3 0);have ai:=hid (show Below b.heap.size b (b.alloc (.cells #[.int .i64 t] 3)).drew from (bal (aj _ b) (.cells #[.int .i64 t] 3)).drew);go_simp
  refine d _ _ (m.out _ ai) (fun _=>l.out _ ai) (fun _ _=>?_);clear d K
  try simp only[Act.put,jD,jE,jF]
  generalize World.drew (World.alloc _ _)=F at*;refine wpAnyF_ready (rs:=[5]) (by kernel_rfl) (by simp) (AllReadyF.cons rfl (fun K d=>?_) AllReadyF.nil);have a8:=hid (show (F.alloc (.cells #[] 3)).ownsRow b.heap.size 3 1 (.slice (some ⟨F.heap.size,0,none⟩) 0 0) 0 [] from (de F #[] 0 ai.size (bI _) (by simp)));have U:=hid (show Below b.heap.size b (F.alloc (.cells #[] 3)) from bal ai (.cells #[] 3));have bG:=hid (show (F.alloc (.cells #[] 3)).cell? ⟨b.heap.size,0,none⟩=some (.int .i64 t) from (bJ _ _ _ (al _ _ aB)).trans aB);have bj:=hid (show (F.heap.size)≠b.heap.size from fun e=>by have:=al _ _ aB;simp only at this;omega);go_simp
  refine d _ _ (m.out _ U) (fun _=>l.out _ U) (fun _ _=>?_);clear d K
  try simp only[Act.put,jD,jE,jF]
  generalize World.alloc _ _=bL at*;generalize F.heap.size=bM at*;refine wpAnyF_ready (rs:=[13]) (by kernel_rfl) (by simp) (AllReadyF.cons rfl (fun K d=>?_) AllReadyF.nil);obtain⟨a5,aU,aS,q,g,n,I⟩:=app_copy a8 U.size (show IntsIn bL u zs from HU.below U) L;have bf:=hid q;have bp:=hid g;have am:=hid (show Below b.heap.size b aS from U.trans n);have bH:=hid (show aS.cell? ⟨b.heap.size,0,none⟩=some (.int .i64 t) from I.cell bG (fun e=>bj.out (aK e).symm));clear q g n I;refine wp_app1 _ _ 22 rfl (.slice (some ⟨bM,0,none⟩) 0 0) u (.slice a5 zs.length aU) rfl rfl bf ?_;refine d _ _ (m.out _ am) (fun _=>l.out _ am) (fun _ _=>?_);clear d K;simp only[jj];refine wpAnyF_ready (rs:=[16]) (by kernel_rfl) (by simp) (AllReadyF.cons rfl (fun K d=>?_) AllReadyF.nil);obtain⟨aP,aJ,aE,q,g,n⟩:=app_one bp am.size L bH;have bg:=hid q;have bs:=hid g;have C:=hid (show Below b.heap.size b aE from am.trans n);have bC:=hid (m.out _ C);have bz:=hid (l.out _ C);clear q g n;refine wp_app1 _ _ 22 rfl (.slice a5 zs.length aU) (.slice (some ⟨b.heap.size,0,none⟩) 1 1) (.slice aP (zs.length+1) aJ) rfl rfl bg ?_;refine d _ _ (m.out _ C) (fun _=>l.out _ C) (fun _ _=>?_);clear d K;simp only[jj];refine tF 17 (.pointer (some ⟨f,a,none⟩)) rfl bC (fun _=>bz.out) ?_;simp only[jj];have aW:=m.out _ C;have aV:=l.out _ C;have aX:=ax.out _ C;obtain⟨y,D⟩:=av.out aE (.slice aP (zs.length+1) aJ) (zs++[(t:Int)]) rfl C bs;have P:=hid y;have K6:=hid D;have S6:=hid (show (aE.setCell ⟨f,a,none⟩ (.slice aP (zs.length+1) aJ)).cell? ⟨wb,4,none⟩=some (.slice (some ⟨f,0,none⟩) p.lines.length p.lines.length) by rw[af y.r (k:=4) rfl,Y.out]);clear y D;refine r1 18 rfl (fun K d=>?_);go_simp
  refine d _ _ S6 (notClean (by kernel_rfl)) (fun _ _=>?_);clear d K
  try simp only[Act.put]
  refine wpAnyF_done (by kernel_rfl) ?_ _;generalize World.setCell _ _ _=W6 at*;go_wp2_with fail
  exact aY (aN rfl _ _ _) rfl ⟨rfl,_,by unfold ssP;rw[az.out,aq.out];exact P,K6.out⟩
set_option maxRecDepth 512
set_option maxHeartbeats 200000
def frP (p:PW) (a t:Nat) (l:List Int):PW:=({p with lines:=p.lines.set a l}:PW).task t 14 (-1)
set_option maxRecDepth 100000
set_option maxHeartbeats 8000000
theorem front_nil (wb:Nat) (tag:Nat→Nat) (V:Nat→Value) (p:PW) (a:Nat) (j:Bool) (W:World) (bt:BoxT W wb tag V p) (f:p.Fits) (e:a<p.lines.length) (h:p.lines.getD a []=[]):
  Calls Tryz.prog 87 #[.pointer (some ⟨wb,0,none⟩),.int .i64 a,.bool j] W fun r W'=>r=.returned (.int .i64 (-1))∧W=W':=by
 have n:(p.lines.length:Int)≤1000:=by have:=f.lines;omega
 have m:(a:Int)<(p.lines.length:Int):=by omega
 obtain⟨i,c⟩:=bt.o.lines.form;have d:=bt.o.lines;rw[c] at d;obtain⟨u,cu,b⟩:=d.at e;unfold ci at b;rw[h] at b;have l:W.cell? ⟨wb,4,none⟩=some (.slice (some ⟨i,0,none⟩) p.lines.length p.lines.length):=by rw[af bt.r (k:=4) rfl,c]
 obtain⟨q,g,cap,rfl, -⟩:=b.shape;simp only[List.length_nil] at cu;clear bt f e h c d b;go_enter Tryz.func87,Tryz.ntmps87
 go_wp2_with fail
 go_ret
 exact⟨rfl,rfl⟩
theorem front_no (wb:Nat) (tag:Nat→Nat) (V:Nat→Value) (p:PW) (a:Nat) (c:Bool) (W:World) (bt:BoxT W wb tag V p) (f:p.Fits) (e:a<p.lines.length) (t:Nat) (l:List Int) (h:p.lines.getD a []=(t:Int)::l) (s:t<p.tasks.length) (C:decide (p.tasks.getD t bl 9=4)≠c):
  Calls Tryz.prog 87 #[.pointer (some ⟨wb,0,none⟩),.int .i64 a,.bool c] W fun r W'=>r=.returned (.int .i64 (-1))∧W=W':=by
 have K:(p.lines.length:Int)≤1000:=by have:=f.lines;omega
 have I:(a:Int)<(p.lines.length:Int):=by omega
 obtain⟨z,j⟩:=bt.o.lines.form;have m:=bt.o.lines;rw[j] at m;obtain⟨u,cu,b⟩:=m.at e;unfold ci at b;rw[h] at b;have H:W.cell? ⟨wb,4,none⟩=some (.slice (some ⟨z,0,none⟩) p.lines.length p.lines.length):=by rw[af bt.r (k:=4) rfl,j]
 obtain⟨g,cap,rfl⟩:=b.form (by simp);have A:(((t:Int)::l).length:Int)=(l.length:Int)+1:=by simp
 have v:=hid (show l.length+1≤1000 by
  have n:=f.line _ (aw e);rw[aa,ac e,aS] at h;rw[h] at n;exact n)
 have L:((l.length+1:Nat):Int)≤1000:=by have:=v.out;omega
 have D:=b.int (show 0<((t:Int)::l).length by simp);simp only[dU] at cu;simp only[aV] at D;obtain⟨x,w,d⟩:=bt.o.tasks.form (by omega);have F:=hid d;have J:(p.tasks.length:Int)≤1000:=by have:=f.tasks;omega
 have N:(t:Int)<(p.tasks.length:Int):=by omega
 have G:W.cell? ⟨wb,3,none⟩=some (.slice (some ⟨x,0,none⟩) p.tasks.length w):=by rw[af bt.r (k:=3) rfl,d]
 have E:=bt.taskAt d s (show 9<20 by omega);have B:¬(((l.length+1:Nat):Int)=0):=by omega
 have M:(((l.length+1:Nat):Int)==0)=false:=by simpa using B
 have i:=hid (show (p.tasks.getD t bl 9==4)= !c by
  rw[show (p.tasks.getD t bl 9==4)=decide (p.tasks.getD t bl 9=4) from rfl]
  cases hd:decide (p.tasks.getD t bl 9=4)<;>cases c<;>simp_all)
 generalize p.tasks.getD t bl 9=y at E i;have q:=i.out;clear bt f e h j m b C d s i A
 cases c with
 |true=>
  simp only[Bool.not_true] at q;go_enter Tryz.func87,Tryz.ntmps87
  go_wp2_with fail
  go_ret
  exact⟨rfl,rfl⟩
 |false=>
  simp only[Bool.not_false] at q;go_enter Tryz.func87,Tryz.ntmps87
  go_wp2_with fail
  go_ret
  exact⟨rfl,rfl⟩
theorem front_yes (wb:Nat) (tag:Nat→Nat) (V:Nat→Value) (p:PW) (a:Nat) (wt:Bool) (W:World) (bt:BoxT W wb tag V p) (hp:p.Fits) (P:a<p.lines.length) (t:Nat) (l:List Int) (hz:p.lines.getD a []=(t:Int)::l) (ht:t<p.tasks.length) (hs:decide (p.tasks.getD t bl 9=4)=wt):
  Calls Tryz.prog 87 #[.pointer (some ⟨wb,0,none⟩),.int .i64 a,.bool wt] W fun r W'=>r=.returned (.int .i64 t)∧∃tag',BoxT W' wb tag' V (frP p a t l)∧Kt tag tag' W W':=by
 have aK:(p.lines.length:Int)≤1000:=by have:=hp.lines;omega
 have aG:(a:Int)<(p.lines.length:Int):=by omega
 obtain⟨f,eL⟩:=bt.o.lines.form;have ai:=bt.o.lines;rw[eL] at ai;obtain⟨u,cu,F⟩:=ai.at P;unfold ci at F;rw[hz] at F;have c4:W.cell? ⟨wb,4,none⟩=some (.slice (some ⟨f,0,none⟩) p.lines.length p.lines.length):=by rw[af bt.r (k:=4) rfl,eL]
 obtain⟨g,cap,rfl⟩:=F.form (by simp);have aC:(((t:Int)::l).length:Int)=(l.length:Int)+1:=by simp
 have am:=hid (show l.length+1≤1000 by
  have A:=hp.line _ (aw P);rw[aa,ac P,aS] at hz;rw[hz] at A;exact A)
 have aL:((l.length+1:Nat):Int)≤1000:=by have:=am.out;omega
 have x0:=F.int (show 0<((t:Int)::l).length by simp);simp only[dU] at cu;simp only[aV] at x0;obtain⟨g3,an,e3⟩:=bt.o.tasks.form (by omega);have z:=hid e3;have aJ:(p.tasks.length:Int)≤1000:=by have:=hp.tasks;omega
 have aO:(t:Int)<(p.tasks.length:Int):=by omega
 have c3:W.cell? ⟨wb,3,none⟩=some (.slice (some ⟨g3,0,none⟩) p.tasks.length an):=by rw[af bt.r (k:=3) rfl,e3]
 have x9:=bt.taskAt e3 ht (show 9<20 by omega);have aD:¬(((l.length+1:Nat):Int)=0):=by omega
 have aM:(((l.length+1:Nat):Int)==0)=false:=by simpa using aD
 have HS:=hid (show (p.tasks.getD t bl 9==4)=wt from hs);generalize p.tasks.getD t bl 9=y at x9 HS;have aN:=HS.out;have HB:=hid bt;have ag:=hid ai;have ah:=hid ht;have ax:=hid P;have EL:=hid (show V 4=.slice (some ⟨f,0,none⟩) p.lines.length p.lines.length from eL);have CU:=hid cu;have aH:l.length+1≤cap:=by
  rcases F.1.2 with ⟨A,_⟩|⟨_,_,_,A,_,_,h2,_⟩
  ·cases A
  ·cases A;exact h2
 have aI:((l.length+1:Nat):Int)≤(cap:Int):=by omega
 obtain⟨q1,av⟩:∃q1,(if cap=1 then (some ⟨g,0,none⟩:Option Addr) else some ⟨g,1,none⟩)=q1:=⟨_,rfl⟩
 have ay:(1:Int)≤(l.length:Int)+1:=by omega
 have HU:=hid (show IntsIn W (.slice q1 l.length (cap - 1)) l from⟨q1,g,1,cap - 1,rfl,fun hl=>by rw[←av,ae (by omega)],fun j hj=>by
  have A:=F.int (show j+1<((t:Int)::l).length by simp;omega);rw[Nat.add_comm 1 j];simpa using A⟩)
 have w:=hid (fun X (h:Below W.heap.size W X)=>show X.cell? ⟨wb,4,none⟩=some (.slice (some ⟨f,0,none⟩) p.lines.length p.lines.length) by rw[af (HB.below h).r (k:=4) rfl,EL.out]);have s:=hid (fun X (h:Below W.heap.size W X)=>show X.cell? ⟨f,a,none⟩=some (.slice (some ⟨g,0,none⟩) (l.length+1) cap) from (h.cell (al _ _ CU)).trans CU);have ad:=hid (fun X (h:Below W.heap.size W X)=>show X.frozen? ⟨f,a,none⟩=false from (ag.kp (T:=fun _=>False) (.of_below h) (fun _ _=>rfl) (fun _ _ e=>e)).fr a);have G:Hid (Below W.heap.size W W.drew):=hid (aA W 1);have ab:=hid (fun X v (h:Below W.heap.size W X) (B:X.ownsRow W.heap.size 3 1 v l.length (ints l))=>show BoxT (X.setCell ⟨f,a,none⟩ v) wb (tagN tag W.heap.size (12+3*a)) V {p with lines:=p.lines.set a l}∧Kt tag (tagN tag W.heap.size (12+3*a)) W (X.setCell ⟨f,a,none⟩ v) from by
  obtain⟨aE,az⟩:=ag.put (tag':=tagN tag W.heap.size (12+3*a)) (w1:=X) (u:=v) (c:=(l.length,ints l)) (j:=a) ax (fun j=>by omega) (.of_below h) (fun k hk=>cW hk) ⟨B.mono (bI _),fun j e=>by
   unfold tagN;rw[ae (by have:=(B.lt j e).1;omega)]⟩
  refine⟨HB.lines az (fun k hk=>cW hk) ?_,Kt.of (tag':=tagN tag W.heap.size (12+3*a)) az (fun k e=>by rcases e with e|⟨j,e⟩<;>omega) (fun k hk=>cW hk)⟩;rw[ar,EL.out,ci_set _ _ ax];exact aE)
 clear bt hp P hz eL ai F hs e3 ht HS aC
 cases wt with
 |true=>
  go_enter Tryz.func87,Tryz.ntmps87
  go_wp2_with fail
  clear c4 cu x0 c3 x9;refine wp_region_F (S:=fun X=>X.cell? ⟨wb,4,none⟩=some (.slice (some ⟨f,0,none⟩) p.lines.length p.lines.length)) (R:=fun X=>X.cell? ⟨f,a,none⟩=some (.slice (some ⟨g,0,none⟩) (l.length+1) cap)) [16] (by kernel_rfl) (w.out _ G) (s.out _ G) (fun O N=>?_);have d:=hid O;have b:=hid N;clear O N;refine tF 0 (.pointer (some ⟨wb,0,none⟩)) rfl d (fun _=>b.out) ?_;simp only[jj];refine tF 1 (.pointer (some ⟨wb,0,none⟩)) rfl d (fun _=>b.out) ?_;simp only[jj];refine tF 2 (.pointer (some ⟨wb,4,none⟩)) rfl d (fun _=>b.out) ?_;simp only[jj];refine tG 3 (.slice (some ⟨f,0,none⟩) p.lines.length p.lines.length) rfl d (fun _=>b.out) ?_;simp only[jj];refine tF 4 (.int .i64 a) rfl d (fun _=>b.out) ?_;simp only[jj];refine tF 6 (.pointer (some ⟨wb,0,none⟩)) rfl d (fun _=>b.out) ?_;simp only[jj];refine tF 7 (.pointer (some ⟨wb,0,none⟩)) rfl d (fun _=>b.out) ?_;simp only[jj];refine tF 8 (.pointer (some ⟨wb,4,none⟩)) rfl d (fun _=>b.out) ?_;simp only[jj];refine tG 9 (.slice (some ⟨f,0,none⟩) p.lines.length p.lines.length) rfl d (fun _=>b.out) ?_;simp only[jj];refine tF 10 (.int .i64 a) rfl d (fun _=>b.out) ?_;simp only[jj];refine tF 11 (.pointer (some ⟨f,a,none⟩)) rfl d (fun _=>b.out) ?_;simp only[jj];refine wpAnyF_takeR (i:=12) (v:=.slice (some ⟨g,0,none⟩) (l.length+1) cap) rfl (by kernel_rfl) (by kernel_rfl) (by kernel_rfl) (by kernel_rfl) (by kernel_rfl) (by kernel_rfl) (fun _ _ _ h=>h) (Or.inl ⟨by rfl,fun W h=>by have h3:=h.2;clear h;go_simp⟩) d (fun _=>b.out) ?_;simp only[jj];refine tF 13 (.slice q1 l.length (cap - 1)) rfl d (fun _=>b.out) ?_;simp only[jj];have H:=hid (show (W.alloc (.cells #[] 3)).drew.ownsRow W.heap.size 3 1 (.slice (some ⟨W.heap.size,0,none⟩) 0 0) 0 [] from (de W #[] 0 (au _) (bI _) (by simp)));have q:=hid (show Below W.heap.size W (W.alloc (.cells #[] 3)).drew from (bal (aj _ W) (.cells #[] 3)).drew);refine r1 5 rfl (fun K m=>?_);go_simp
  refine m _ _ (w.out _ q) (fun _=>s.out _ q) (fun _ _=>?_);clear m K
  try simp only[Act.put,jD,jE,jF]
  generalize World.drew (World.alloc _ _)=X5 at*;obtain⟨q',M,Y,Z,B,Q, -⟩:=app_copy H q.size (HU.below q) (by have:=am.out;omega);have J:=hid Z;have I:=hid B;have n:=hid (show Below W.heap.size W Y from q.trans Q);have D:=hid (w.out _ n);have C:=hid (s.out _ n);clear Z B Q d b av ay;refine r1 14 rfl (fun K m=>?_);refine wp_app1 _ _ 22 rfl (.slice (some ⟨W.heap.size,0,none⟩) 0 0) (.slice q1 l.length (cap - 1)) (.slice q' l.length M) rfl rfl J ?_;refine m _ _ D (fun _=>C.out) (fun _ _=>?_);clear m K;simp only[jj];refine tF 15 (.pointer (some ⟨f,a,none⟩)) rfl D (fun _=>C.out) ?_;simp only[jj];have ap:=w.out _ n;have ao:=s.out _ n;have aq:=ad.out _ n;obtain⟨E,U⟩:=ab.out Y _ n I;have x:=hid E;have K6:=hid U;have L:=hid (show (Y.setCell ⟨f,a,none⟩ (.slice q' l.length M)).cell? ⟨wb,4,none⟩=some (.slice (some ⟨f,0,none⟩) p.lines.length p.lines.length) by rw[af E.r (k:=4) rfl,EL.out]);clear E U;refine r1 16 rfl (fun K m=>?_);go_simp
  refine m _ _ L (notClean (by kernel_rfl)) (fun _ _=>?_);clear m K
  try simp only[Act.put]
  refine wpAnyF_done (by kernel_rfl) ?_ _;generalize World.setCell _ _ _=W6 at*;clear w s G ad ab HU L ap ao aq D C J I H q n ag CU;have c3:W6.cell? ⟨wb,3,none⟩=some (.slice (some ⟨g3,0,none⟩) p.tasks.length an):=by rw[af x.r (k:=3) rfl,z.out]
  have aF:=x.taskAt z ah (show 14<20 by omega);have aB:=x.tasksFr z (t*20+14);obtain⟨b7,k7⟩:=x.task z ah (show 14<20 by omega) (-1);have B7:=hid b7;have K7:=hid (K6.trans k7);clear b7 k7;go_wp2_with fail
  go_ret
  exact⟨rfl,_,B7.out,K7.out⟩
 |false=>
  go_enter Tryz.func87,Tryz.ntmps87
  go_wp2_with fail
  clear c4 cu x0 c3 x9;refine wp_region_F (S:=fun X=>X.cell? ⟨wb,4,none⟩=some (.slice (some ⟨f,0,none⟩) p.lines.length p.lines.length)) (R:=fun X=>X.cell? ⟨f,a,none⟩=some (.slice (some ⟨g,0,none⟩) (l.length+1) cap)) [16] (by kernel_rfl) (w.out _ G) (s.out _ G) (fun O N=>?_);have d:=hid O;have b:=hid N;clear O N;refine tF 0 (.pointer (some ⟨wb,0,none⟩)) rfl d (fun _=>b.out) ?_;simp only[jj];refine tF 1 (.pointer (some ⟨wb,0,none⟩)) rfl d (fun _=>b.out) ?_;simp only[jj];refine tF 2 (.pointer (some ⟨wb,4,none⟩)) rfl d (fun _=>b.out) ?_;simp only[jj];refine tG 3 (.slice (some ⟨f,0,none⟩) p.lines.length p.lines.length) rfl d (fun _=>b.out) ?_;simp only[jj];refine tF 4 (.int .i64 a) rfl d (fun _=>b.out) ?_;simp only[jj];refine tF 6 (.pointer (some ⟨wb,0,none⟩)) rfl d (fun _=>b.out) ?_;simp only[jj];refine tF 7 (.pointer (some ⟨wb,0,none⟩)) rfl d (fun _=>b.out) ?_;simp only[jj];refine tF 8 (.pointer (some ⟨wb,4,none⟩)) rfl d (fun _=>b.out) ?_;simp only[jj];refine tG 9 (.slice (some ⟨f,0,none⟩) p.lines.length p.lines.length) rfl d (fun _=>b.out) ?_;simp only[jj];refine tF 10 (.int .i64 a) rfl d (fun _=>b.out) ?_;simp only[jj];refine tF 11 (.pointer (some ⟨f,a,none⟩)) rfl d (fun _=>b.out) ?_;simp only[jj];refine wpAnyF_takeR (i:=12) (v:=.slice (some ⟨g,0,none⟩) (l.length+1) cap) rfl (by kernel_rfl) (by kernel_rfl) (by kernel_rfl) (by kernel_rfl) (by kernel_rfl) (by kernel_rfl) (fun _ _ _ h=>h) (Or.inl ⟨by rfl,fun W h=>by have h3:=h.2;clear h;go_simp⟩) d (fun _=>b.out) ?_;simp only[jj];refine tF 13 (.slice q1 l.length (cap - 1)) rfl d (fun _=>b.out) ?_;simp only[jj];have H:=hid (show (W.alloc (.cells #[] 3)).drew.ownsRow W.heap.size 3 1 (.slice (some ⟨W.heap.size,0,none⟩) 0 0) 0 [] from (de W #[] 0 (au _) (bI _) (by simp)));have q:=hid (show Below W.heap.size W (W.alloc (.cells #[] 3)).drew from (bal (aj _ W) (.cells #[] 3)).drew);refine r1 5 rfl (fun K m=>?_);go_simp
  refine m _ _ (w.out _ q) (fun _=>s.out _ q) (fun _ _=>?_);clear m K
  try simp only[Act.put,jD,jE,jF]
  generalize World.drew (World.alloc _ _)=X5 at*;obtain⟨q',M,Y,Z,B,Q, -⟩:=app_copy H q.size (HU.below q) (by have:=am.out;omega);have J:=hid Z;have I:=hid B;have n:=hid (show Below W.heap.size W Y from q.trans Q);have D:=hid (w.out _ n);have C:=hid (s.out _ n);clear Z B Q d b av ay;refine r1 14 rfl (fun K m=>?_);refine wp_app1 _ _ 22 rfl (.slice (some ⟨W.heap.size,0,none⟩) 0 0) (.slice q1 l.length (cap - 1)) (.slice q' l.length M) rfl rfl J ?_;refine m _ _ D (fun _=>C.out) (fun _ _=>?_);clear m K;simp only[jj];refine tF 15 (.pointer (some ⟨f,a,none⟩)) rfl D (fun _=>C.out) ?_;simp only[jj];have ap:=w.out _ n;have ao:=s.out _ n;have aq:=ad.out _ n;obtain⟨E,U⟩:=ab.out Y _ n I;have x:=hid E;have K6:=hid U;have L:=hid (show (Y.setCell ⟨f,a,none⟩ (.slice q' l.length M)).cell? ⟨wb,4,none⟩=some (.slice (some ⟨f,0,none⟩) p.lines.length p.lines.length) by rw[af E.r (k:=4) rfl,EL.out]);clear E U;refine r1 16 rfl (fun K m=>?_);go_simp
  refine m _ _ L (notClean (by kernel_rfl)) (fun _ _=>?_);clear m K
  try simp only[Act.put]
  refine wpAnyF_done (by kernel_rfl) ?_ _;generalize World.setCell _ _ _=W6 at*;clear w s G ad ab HU L ap ao aq D C J I H q n ag CU;have c3:W6.cell? ⟨wb,3,none⟩=some (.slice (some ⟨g3,0,none⟩) p.tasks.length an):=by rw[af x.r (k:=3) rfl,z.out]
  have aF:=x.taskAt z ah (show 14<20 by omega);have aB:=x.tasksFr z (t*20+14);obtain⟨b7,k7⟩:=x.task z ah (show 14<20 by omega) (-1);have B7:=hid b7;have K7:=hid (K6.trans k7);clear b7 k7;go_wp2_with fail
  go_ret
  exact⟨rfl,_,B7.out,K7.out⟩
end Go.Proofs.YtaejnmmpddbbjaaGreatDoor.Wd
