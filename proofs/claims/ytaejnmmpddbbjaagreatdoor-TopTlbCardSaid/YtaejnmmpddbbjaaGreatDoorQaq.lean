/- Qaq -/
import Derived.Test.YtaejnmmpddbbjaaGreatDoorQap
set_option maxRecDepth 100000
set_option maxHeartbeats 16000000
namespace Go.Proofs.YtaejnmmpddbbjaaGreatDoor
namespace Wd
open Go.RowKit Mem Bw Nums Mmu
theorem gC {w:World} {base:Nat} {v:Value} (f:w.ownsRow base 3 1 v 0 []) (e:base<=w.heap.size) {u:Value} {zs:List Int} (p:ey w u zs) (hl:zs.length<=1000):
  ∃q c w',(Builtin.append_ #[22,22] 22 #[v,u]).run Tryz.prog w=.ok (.slice q zs.length c) w'∧w'.ownsRow base 3 1 (.slice q zs.length c) zs.length (ec zs)∧Below base w w'∧w.grownBy w' v.ownBlock:=by
 obtain⟨i,hi,s,o,r⟩:=eH jY;obtain⟨q,b,off,cap,rfl,m,t⟩:=p;obtain⟨j,l⟩:=ni m t (ai w.heap.size w);obtain⟨A,w',n,a,d⟩:=uT (P:=Tryz.prog) 22 22 3 i (.int .i64 0) 1 8 Tryz.underlying22 hi s o r rfl oD base v f q zs.length cap (ec zs) j (by unfold ec;simp) l (fun x g=>by
  unfold ec at g;obtain⟨y,_,rfl⟩:=List.mem_map.1 g;rfl) (by unfold maxLen;omega) oA e
 obtain⟨z,h,rfl⟩:=fZ a;exact⟨z,h,w',n,a,(ai base w).grown d e (fun k hk=>(f.lt k hk).1),d⟩
theorem jO {w:World} {base:Nat} {v:Value} {zs:List Int} (g:w.ownsRow base 3 1 v zs.length (ec zs)) (f:base<=w.heap.size) (hl:zs.length<=1000) {b:Nat} {x:Int} (l:w.cell? ⟨b,0,none⟩=some (.int .i64 x)):
  ∃q c w',(Builtin.append_ #[22,22] 22 #[v,.slice (some ⟨b,0,none⟩) 1 1]).run Tryz.prog w=.ok (.slice q (zs.length+1) c) w'∧w'.ownsRow base 3 1 (.slice q (zs.length+1) c) (zs++[x]).length (ec (zs++[x]))∧Below base w w':=by
 obtain⟨i,hi,p,n,o⟩:=eH jY;obtain⟨r,w',m,d,h,_⟩:=run_append_own (P:=Tryz.prog) w base 22 22 3 i (.int .i64 0) 1 8 Tryz.underlying22 hi p n o rfl oD v zs.length (ec zs) g ⟨b,0,none⟩ 1 1 [.int .i64 x] rfl (fun j v a=>by
  match j,a with
  |0,a=>cases a;exact l
  |j+1,a=>simp at a) (A5 x) (by unfold maxLen;omega) oA f
 obtain⟨q,cap,rfl⟩:=fZ d;have e:ec zs++[Value.int .i64 x]=ec (zs++[x]):=by unfold ec;simp
 exact⟨q,cap,w',m,by rw[<-e,av];exact d,(ai base w).grown h f (fun k hk=>(g.lt k hk).1)⟩
def wnP (p:PW) (t n:Nat):PW:={(p.task t 9 1).task t 14 (-1) with ready:=p.ready.set n (p.ready.getD n []++[(t:Int)])}
theorem gn (wb:Nat) (tag:Nat->Nat) (V:Nat->Value) (p:PW) (t n:Nat) (W:World) (bt:cb W wb tag V p) (hp:p.Fits) (C:t<p.DY.length) (hn:n<p.ready.length) (aW:0<=p.DY.getD t bl 18∧p.DY.getD t bl 18<=1000) (aU:0<=p.DY.getD t bl 10∧p.DY.getD t bl 10<=1000) (aY:p.DY.getD t bl 18*4+p.DY.getD t bl 10=(n:Int)):
  Calls Tryz.prog 41 #[.pointer (some ⟨wb,0,none⟩),.int .i64 t] W fun r W'=>r=.returned (.tuple #[])∧∃tag',cb W' wb tag' V (wnP p t n)∧Kt tag tag' W W':=by
 have bb:=hid (show (p.ready.getD n []).length<=1000 by rw[aa,ac hn];exact hp.next _ (aw hn));have av:=hid hn;have cm:(p.ready.length:Int)<=1000:=by have:=hp.ready;omega
 have ck:(p.DY.length:Int)<=1000:=by have:=hp.DY;omega
 have cq:(t:Int)<(p.DY.length:Int):=oA;have cp:(n:Int)<(p.ready.length:Int):=oA;have al:=hid C;have F:=hid (am p t 9 1);have L2:=hid ((am (p.task t 9 1) t 14 (-1)).trans F);have aL:=hid (show (((p.task t 9 1).task t 14 (-1)).DY.getD t bl) 18=p.DY.getD t bl 18 by rw[gm _ t 14 18 (-1) (by rw[F.out];exact C)];exact gm p t 9 18 1 C);have aJ:=hid (show (((p.task t 9 1).task t 14 (-1)).DY.getD t bl) 10=p.DY.getD t bl 10 by rw[gm _ t 14 10 (-1) (by rw[F.out];exact C)];exact gm p t 9 10 1 C);generalize p.DY.getD t bl 18=cc at aL aW aY;generalize p.DY.getD t bl 10=pp at aJ aU aY;obtain⟨bZ,cd⟩:=aW;obtain⟨cg,cj⟩:=aU;obtain⟨g3,cap3,O⟩:=bt.o.DY.form oA;have E3:=hid O;have c3:=bg bt O;have x9:=bt.Ec O C (show 9<20 by omega);have f9:=bt.Ef O (t*20+9);obtain⟨b1,k1⟩:=bt.task O C (show 9<20 by omega) 1;have Y:=hid b1;have K1:=hid k1;go_enter Tryz.func41,Tryz.ntmps41
 go_upto_region 1 with fail
 generalize World.setCell _ _ _=W1 at*;have e4:V 3=.slice (some ⟨g3,0,none⟩) (p.task t 9 1).DY.length cap3:=by rw[F.out];exact E3
 have c3:=bg Y E3;have cs:=Y.Ec e4 (i:=t) (by rw[F.out];exact al) (show 14<20 by omega);have bY:=Y.Ef e4 (t*20+14);obtain⟨b2,k2⟩:=Y.task e4 (i:=t) (by rw[F.out];exact al) (show 14<20 by omega) (-1);have Z:=hid b2;have K2:=hid (K1.trans k2);go_upto_region 2 with fail
 generalize World.setCell _ _ _=W2 at*;have e5:V 3=.slice (some ⟨g3,0,none⟩) ((p.task t 9 1).task t 14 (-1)).DY.length cap3:=by rw[L2.out];exact E3
 have c3:=bg Z E3;have bS:=Z.Ec e5 (i:=t) (by rw[L2.out];exact al) (show 18<20 by omega);have bR:=Z.Ec e5 (i:=t) (by rw[L2.out];exact al) (show 10<20 by omega);rw[aL.out] at bS;rw[aJ.out] at bR
 go_quiet (fail)
 have BS:=hid (aV (ai W2.heap.size W2) nq);generalize World.drewN _ _=a at BS ⊢;have B3:=hid (Z.below BS);have K3:=hid (K2.trans (.below BS));go_wp2_with fail
 obtain⟨d,eL⟩:=B3.o.ready.form;have P:=B3.o.ready;rw[eL] at P;obtain⟨u,cu,hu⟩:=P.at (j:=n) av;obtain⟨zs,an⟩:∃zs,(p.ready).getD n []=zs:=⟨_,rfl⟩
 have bO:InT a tag (13+3*n) 3 1 u (zs.length,ec zs):=by
  have h1:InT a tag (13+3*n) 3 1 u (ci (p.ready) n):=hu;unfold ci at h1;rw[an] at h1;exact h1
 have E:=hid (show zs.length<=1000 from by rw[<-an];exact bb);have bU:=hid an;have HU:=hid (de bO.1);have bT:=hid P;have L:=hid (show V 7=.slice (some ⟨d,0,none⟩) p.ready.length p.ready.length from eL);have aq:=hid (fun X (h:Below a.heap.size a X)=>show X.frozen? ⟨d,n,none⟩=false from (P.kp (T:=fun _=>False) (.Ed h) (fun _ _=>rfl) (fun _ _ e=>e)).fr n);have g:=hid (fun X (h:Below a.heap.size a X)=>show X.cell? ⟨wb,7,none⟩=some (.slice (some ⟨d,0,none⟩) p.ready.length p.ready.length) by rw[ah (B3.below h).r (k:=7) rfl,L.out]);have f:=hid (fun X (h:Below a.heap.size a X)=>(h.cell (aj _ _ cu)).trans cu);have BD:=hid (aC a 1);have ap:=hid (fun X v (U:List Int) (hz:U=zs++[(t:Int)]) (h:Below a.heap.size a X) (l:X.ownsRow a.heap.size 3 1 v U.length (ec U))=>show cb (X.setCell ⟨d,n,none⟩ v) wb (gy tag a.heap.size (13+3*n)) V {(p.task t 9 1).task t 14 (-1) with ready:=(p.ready).set n ((p.ready).getD n []++[(t:Int)])}∧Kt tag (gy tag a.heap.size (13+3*n)) W (X.setCell ⟨d,n,none⟩ v) from by
  obtain⟨bN,aZ⟩:=P.put (tag':=gy tag a.heap.size (13+3*n)) (w1:=X) (u:=v) (c:=(U.length,ec U)) (j:=n) av (fun j=>oA) (.Ed h) (fun k hk=>cV hk) ⟨l.mono (bF _),fun k e=>by
   unfold gy;rw[ae (by have:=(l.lt k e).1;omega)]⟩
  refine⟨B3.ready aZ (fun k hk=>cV hk) ?_,K3.trans (Kt.of (tag':=gy tag a.heap.size (13+3*n)) aZ (fun k e=>by rcases e with e|⟨j,e⟩<;>omega) (fun k hk=>cV hk))⟩;rw[au,L.out,jq _ _ av,an, <-hz];exact bN)
 refine d7 (S:=fun X=>X.cell? ⟨wb,7,none⟩=some (.slice (some ⟨d,0,none⟩) p.ready.length p.ready.length)) (R:=fun X=>X.cell? ⟨d,n,none⟩=some u) [18] oK (g.out _ BD) (f.out _ BD) (fun bM bL=>?_);have q:=hid bM;have m:=hid bL;refine tF 0 (.pointer (some ⟨wb,0,none⟩)) rfl q (fun _=>m.out) ?_;simp only[jj];refine tF 1 (.pointer (some ⟨wb,0,none⟩)) rfl q (fun _=>m.out) ?_;simp only[jj];refine tF 2 (.pointer (some ⟨wb,7,none⟩)) rfl q (fun _=>m.out) ?_;simp only[jj];refine tG 3 (.slice (some ⟨d,0,none⟩) p.ready.length p.ready.length) rfl q (fun _=>m.out) ?_;simp only[jj];refine tF 4 (.int .i64 n) rfl q (fun _=>m.out) ?_;simp only[jj];refine tF 6 (.pointer (some ⟨wb,0,none⟩)) rfl q (fun _=>m.out) ?_;simp only[jj];refine tF 7 (.pointer (some ⟨wb,0,none⟩)) rfl q (fun _=>m.out) ?_;simp only[jj];refine tF 8 (.pointer (some ⟨wb,7,none⟩)) rfl q (fun _=>m.out) ?_;simp only[jj];refine tG 9 (.slice (some ⟨d,0,none⟩) p.ready.length p.ready.length) rfl q (fun _=>m.out) ?_;simp only[jj];refine tF 10 (.int .i64 n) rfl q (fun _=>m.out) ?_;simp only[jj];refine tF 11 (.pointer (some ⟨d,n,none⟩)) rfl q (fun _=>m.out) ?_;simp only[jj];refine eu (i:=12) (v:=u) rfl oK oK oK oK oK oK (fun _ _ _ h=>h) (Or.inl ⟨oR,fun W h=>by have h3:=h.2;clear h;go_simp⟩) q (fun _=>m.out) ?_;simp only[jj];refine tF 14 (.int .i64 t) rfl q (fun _=>m.out) ?_;simp only[jj];refine dw (rs:=[5,15]) oK oS (di.cons rfl (fun K b=>?_) (di.cons rfl (fun K b=>?_) di.nil))
 ·have Ea:=hid (show (a.alloc (.cells #[] 3)).drew.ownsRow a.heap.size 3 1 (.slice (some ⟨a.heap.size,0,none⟩) 0 0) 0 [] from (dF a #[] 0 (ar _) (bF _) oS));have D:=hid ((bal (ai _ a) (.cells #[] 3)).drew);go_simp
  refine b _ _ (g.out _ D) (fun _=>f.out _ D) (fun _ _=>?_)
  try simp only[Act.put,jD,jE,jF]
  generalize World.drew (World.alloc _ _)=G at*;refine dw (rs:=[13,15]) oK oS (di.cons rfl (fun K b=>?_) (di.cons rfl (fun K b=>?_) di.nil))
  ·obtain⟨aE,az,ay,w,l,s,hg⟩:=gC Ea D.size (show ey G u zs from HU.below D) E;have a5:=hid w;have bh:=hid l;have ao:=hid (D.trans s);refine ff _ _ 22 rfl (.slice (some ⟨a.heap.size,0,none⟩) 0 0) u (.slice aE zs.length az) rfl rfl a5 ?_;refine b _ _ (g.out _ ao) (fun _=>f.out _ ao) (fun _ _=>?_);simp only[jj];refine dw (rs:=[15]) oK oS (di.cons rfl (fun K b=>?_) di.nil);have bB:=hid (cD ay #[.int .i64 t] 3 0);have ab:=hid (bal ao (.cells #[.int .i64 t] 3));have bj:=hid (show (ay.alloc (.cells #[.int .i64 t] 3)).ownsRow a.heap.size 3 1 (.slice aE zs.length az) zs.length (ec zs) from bh.alloc _);go_simp
   refine b _ _ (g.out _ ab) (fun _=>f.out _ ab) (fun _ _=>?_)
   try simp only[Act.put,jD,jE,jF]
   generalize World.alloc _ _=bV at*;generalize ay.heap.size=bP at*;refine dw (rs:=[16]) oK oS (di.cons rfl (fun K b=>?_) di.nil);obtain⟨aF,aA,aM,w,l,s⟩:=jO bj ab.size E bB;have a6:=hid w;have bo:=hid l;have x:=hid (ab.trans s);have bv:=hid (g.out _ x);have br:=hid (f.out _ x);refine ff _ _ 22 rfl (.slice aE zs.length az) (.slice (some ⟨bP,0,none⟩) 1 1) (.slice aF (zs.length+1) aA) rfl rfl a6 ?_;refine b _ _ (g.out _ x) (fun _=>f.out _ x) (fun _ _=>?_);simp only[jj];refine tF 17 (.pointer (some ⟨d,n,none⟩)) rfl bv (fun _=>br.out) ?_;simp only[jj];have aS:=g.out _ x;have aR:=f.out _ x;have aT:=aq.out _ x;obtain⟨A,Q⟩:=ap.out aM (.slice aF (zs.length+1) aA) (zs++[(t:Int)]) rfl x bo;have H:=hid A;have M:=hid Q;have N:=hid (show (aM.setCell ⟨d,n,none⟩ (.slice aF (zs.length+1) aA)).cell? ⟨wb,7,none⟩=some (.slice (some ⟨d,0,none⟩) p.ready.length p.ready.length) by rw[ah A.r (k:=7) rfl,L.out]);refine r1 18 rfl (fun K b=>?_);go_simp
   refine b _ _ N (eF oK) (fun _ _=>?_)
   try simp only[Act.put]
   refine d5 oK ?_ _;generalize World.setCell _ _ _=W6 at*;go_wp2_with fail
   exact aX (aK rfl _ _ _) rfl ⟨rfl,_,by unfold wnP;exact H,M.out⟩
  ·have bC:=hid (cD G #[.int .i64 t] 3 0);have I:=hid (bal D (.cells #[.int .i64 t] 3));have a3:=hid (show (G.alloc (.cells #[.int .i64 t] 3)).ownsRow a.heap.size 3 1 (.slice (some ⟨a.heap.size,0,none⟩) 0 0) 0 [] from Ea.alloc _);have bc:=hid (show a.heap.size≠G.heap.size from fun e=>by have h1:a.heap.size<G.heap.size:=(Ea.lt _ rfl).2;omega);go_simp
   refine b _ _ (g.out _ I) (fun _=>f.out _ I) (fun _ _=>?_)
   try simp only[Act.put,jD,jE,jF]
   generalize World.alloc _ _=bH at*;generalize G.heap.size=bQ at*;refine dw (rs:=[13]) oK oS (di.cons rfl (fun K b=>?_) di.nil);obtain⟨a0,aP,bW,w,l,s,hg⟩:=gC a3 I.size (show ey bH u zs from HU.below I) E;have a7:=hid w;have bk:=hid l;have ad:=hid (I.trans s);have bD:=hid (hg.cell bC (fun e=>bc.out (aH e).symm));refine ff _ _ 22 rfl (.slice (some ⟨a.heap.size,0,none⟩) 0 0) u (.slice a0 zs.length aP) rfl rfl a7 ?_;refine b _ _ (g.out _ ad) (fun _=>f.out _ ad) (fun _ _=>?_);simp only[jj];refine dw (rs:=[16]) oK oS (di.cons rfl (fun K b=>?_) di.nil);obtain⟨aG,aB,aN,w,l,s⟩:=jO bk ad.size E bD;have a8:=hid w;have bp:=hid l;have y:=hid (ad.trans s);have bz:=hid (g.out _ y);have bs:=hid (f.out _ y);refine ff _ _ 22 rfl (.slice a0 zs.length aP) (.slice (some ⟨bQ,0,none⟩) 1 1) (.slice aG (zs.length+1) aB) rfl rfl a8 ?_;refine b _ _ (g.out _ y) (fun _=>f.out _ y) (fun _ _=>?_);simp only[jj];refine tF 17 (.pointer (some ⟨d,n,none⟩)) rfl bz (fun _=>bs.out) ?_;simp only[jj];have aS:=g.out _ y;have aR:=f.out _ y;have aT:=aq.out _ y;obtain⟨A,Q⟩:=ap.out aN (.slice aG (zs.length+1) aB) (zs++[(t:Int)]) rfl y bp;have H:=hid A;have M:=hid Q;have N:=hid (show (aN.setCell ⟨d,n,none⟩ (.slice aG (zs.length+1) aB)).cell? ⟨wb,7,none⟩=some (.slice (some ⟨d,0,none⟩) p.ready.length p.ready.length) by rw[ah A.r (k:=7) rfl,L.out]);refine r1 18 rfl (fun K b=>?_);go_simp
   refine b _ _ N (eF oK) (fun _ _=>?_);clear b K
   try simp only[Act.put]
   refine d5 oK ?_ _;generalize World.setCell _ _ _=W6 at*;go_wp2_with fail
   exact aX (aK rfl _ _ _) rfl ⟨rfl,_,by unfold wnP;exact H,M.out⟩
 ·have ax:=hid (show (a.alloc (.cells #[.int .i64 t] 3)).drew.cell? ⟨a.heap.size,0,none⟩=some (.int .i64 t) from cD a #[.int .i64 t] 3 0);have af:=hid (show Below a.heap.size a (a.alloc (.cells #[.int .i64 t] 3)).drew from (bal (ai _ a) (.cells #[.int .i64 t] 3)).drew);go_simp
  refine b _ _ (g.out _ af) (fun _=>f.out _ af) (fun _ _=>?_);clear b K
  try simp only[Act.put,jD,jE,jF]
  generalize World.drew (World.alloc _ _)=B at*;refine dw (rs:=[5]) oK oS (di.cons rfl (fun K b=>?_) di.nil);have a4:=hid (show (B.alloc (.cells #[] 3)).ownsRow a.heap.size 3 1 (.slice (some ⟨B.heap.size,0,none⟩) 0 0) 0 [] from (dF B #[] 0 af.size (bF _) oS));have J:=hid (show Below a.heap.size a (B.alloc (.cells #[] 3)) from bal af (.cells #[] 3));have bE:=hid (show (B.alloc (.cells #[] 3)).cell? ⟨a.heap.size,0,none⟩=some (.int .i64 t) from (bJ _ _ _ (aj _ _ ax)).trans ax);have bf:=hid (show (B.heap.size)≠a.heap.size from fun e=>by have:=aj _ _ ax;simp only at this;omega);go_simp
  refine b _ _ (g.out _ J) (fun _=>f.out _ J) (fun _ _=>?_)
  try simp only[Act.put,jD,jE,jF]
  generalize World.alloc _ _=bI at*;generalize B.heap.size=bK at*;refine dw (rs:=[13]) oK oS (di.cons rfl (fun K b=>?_) di.nil);obtain⟨a2,aQ,bX,w,l,s,hg⟩:=gC a4 J.size (show ey bI u zs from HU.below J) E;have a9:=hid w;have bn:=hid l;have ag:=hid (J.trans s);have bG:=hid (hg.cell bE (fun e=>bf.out (aH e).symm));refine ff _ _ 22 rfl (.slice (some ⟨bK,0,none⟩) 0 0) u (.slice a2 zs.length aQ) rfl rfl a9 ?_;refine b _ _ (g.out _ ag) (fun _=>f.out _ ag) (fun _ _=>?_);simp only[jj];refine dw (rs:=[16]) oK oS (di.cons rfl (fun K b=>?_) di.nil);obtain⟨aI,aD,aO,w,l,s⟩:=jO bn ag.size E bG;have ba:=hid w;have bq:=hid l;have z:=hid (ag.trans s);have bA:=hid (g.out _ z);have bu:=hid (f.out _ z);refine ff _ _ 22 rfl (.slice a2 zs.length aQ) (.slice (some ⟨a.heap.size,0,none⟩) 1 1) (.slice aI (zs.length+1) aD) rfl rfl ba ?_;refine b _ _ (g.out _ z) (fun _=>f.out _ z) (fun _ _=>?_);simp only[jj];refine tF 17 (.pointer (some ⟨d,n,none⟩)) rfl bA (fun _=>bu.out) ?_;simp only[jj];have aS:=g.out _ z;have aR:=f.out _ z;have aT:=aq.out _ z;obtain⟨A,Q⟩:=ap.out aO (.slice aI (zs.length+1) aD) (zs++[(t:Int)]) rfl z bq;have H:=hid A;have M:=hid Q;have N:=hid (show (aO.setCell ⟨d,n,none⟩ (.slice aI (zs.length+1) aD)).cell? ⟨wb,7,none⟩=some (.slice (some ⟨d,0,none⟩) p.ready.length p.ready.length) by rw[ah A.r (k:=7) rfl,L.out]);refine r1 18 rfl (fun K b=>?_);go_simp
  refine b _ _ N (eF oK) (fun _ _=>?_)
  try simp only[Act.put]
  refine d5 oK ?_ _;generalize World.setCell _ _ _=W6 at*;go_wp2_with fail
  exact aX (aK rfl _ _ _) rfl ⟨rfl,_,by unfold wnP;exact H,M.out⟩
theorem LF.of {p q:PW} (h:LF p) (e1:q.kinds.length=p.kinds.length:=by first|rfl|simp) (e2:q.D6.length=p.D6.length:=by first|rfl|simp) (a:q.Ee.length=p.Ee.length:=by first|rfl|simp) (e4:q.Eb.length=p.Eb.length:=by first|rfl|simp) (e5:q.DZ.length=p.DZ.length:=by first|rfl|simp) (e6:q.DY.length=p.DY.length:=by first|rfl|simp[PW.task]) (e7:q.lines.length=p.lines.length:=by first|rfl|simp[lvs]) (e8:q.bits.length=p.bits.length:=by first|rfl|simp) (e9:q.ready.length=p.ready.length:=by first|rfl|simp[lvs]) (e10:q.D9.length=p.D9.length:=by first|rfl|simp):LF q:=
 ⟨by rw[e1];exact h.k1,by rw[e1];exact h.k2,by rw[e2];exact h.c1,by rw[e2];exact h.c2,by rw[a];exact h.d1,by rw[a];exact h.d2,by rw[e4,e1];exact h.Eb,by rw[e5,e1];exact h.DZ,by rw[e6,e1];exact h.DY,by rw[e7,e1];exact h.lines,by rw[e8,e1];exact h.bits,by rw[e9,e2];exact h.ready,by rw[e10,e2];exact h.D9⟩
theorem oh {p q:PW} (d:q.kinds=p.kinds) (c:q.D6.length=p.D6.length) (k:Nat) (v:Int):fOk q k v=fOk p k v:=by
 have e:∀a b,fB q a b=fB p a b:=fun a b=>by unfold fB isB eX;rw[d]
 unfold fOk;rw[c,e,e,e]
structure Tk (h:Nat->Prop) (p:PW):Prop where
 lf:LF p
 a:TkA p
 o:TkO p
 q:TkQ h p
theorem fA {p:PW} {t:Nat} (a:t<p.DY.length) (k:Nat) (x:Int) (n j:Nat):(p.task t k x).t n j=if n=t∧j=k then x else p.t n j:=by
 show ((p.DY.set t (upd (p.DY.getD t bl) k x)).getD n bl) j=_
 rw[dx a];by_cases e:n=t
 ·rw[af e];show (if j=k then x else p.t t j)=_
  by_cases e2:j=k
  ·rw[af e2,af ⟨e,e2⟩]
  ·rw[ae e2,ae (fun y=>e2 y.2),e]
 ·rw[ae e,ae (fun y=>e y.1)]
theorem TkA.to {p q:PW} (x:TkA p) (b:q.kinds=p.kinds) (et:q.DY=p.DY) (c:q.D6.length=p.D6.length):TkA q:=by
 have k:∀n,q.k n=p.k n:=fun n=>by show q.kinds.getD n 0=_;rw[b]
 have t:∀n,q.t n=p.t n:=fun n=>by show q.DY.getD n bl=_;rw[et]
 exact⟨fun n a=>by rw[t];exact x.no n (k n▸a),fun n a j d=>by rw[t,oh b c];exact x.ok n (k n▸a) j d⟩
theorem TkA.Fe {p:PW} (x:TkA p) {t:Nat} (c:t<p.DY.length) (d:p.k t=6) {k:Nat} {v:Int} (f:fOk p k v=true):TkA (p.task t k v):=by
 refine⟨fun n a j b=>?_,fun n a j b=>?_⟩
 ·rw[fA c,ae (fun (y:n=t∧j=k)=>a (y.1▸d))];exact x.no n a j b
 ·rw[fA c,oh (q:=p.task t k v) (p:=p) rfl rfl];split
  ·rename_i e;rw[e.2];exact f
  ·exact x.ok n a j b
theorem TkO.to {p q:PW} (x:TkO p) (d:∀n,q.t n 17=p.t n 17) (e9:∀n,q.t n 9=p.t n 9):TkO q:=
 ⟨fun n=>by rw[d,e9];exact (x.ow n).elim .inl fun ⟨u,a,b,c⟩=>.inr ⟨u,a,by rw[e9];exact b,c⟩,fun u e=>by rw[e9] at e;obtain⟨n,h⟩:=x.ak u e;exact⟨n,by rw[d];exact h⟩,fun n m u f g=>x.ij n m u (d n▸f) (d m▸g)⟩
theorem TkO.st {p q:PW} (x:TkO p) (t:Nat) (a:∀n,q.t n 17=p.t n 17) (e9:∀n,n≠t->q.t n 9=p.t n 9) (k:p.t t 9≠5) (l:q.t t 9≠5) (j:q.t t 9=4->p.t t 17= -1):TkO q:=by
 refine⟨fun n=>?_,fun u b=>?_,fun n m u h i=>x.ij n m u (a n▸h) (a m▸i)⟩
 ·rw[a];rcases x.ow n with g|⟨u,c,d,f⟩
  ·exact .inl g
  ·refine .inr ⟨u,c,?_,?_⟩
   ·rw[e9 u (fun e=>k (e▸d))];exact d
   ·by_cases e:n=t
    ·subst e;exact fun y=>by rw[j y] at c;omega
    ·rw[e9 n e];exact f
 ·have e:u≠t:=fun e=>l (e▸b);rw[e9 u e] at b;obtain⟨n,o⟩:=x.ak u b;exact⟨n,by rw[a];exact o⟩
theorem Tk.tl {h:Nat->Prop} {p:PW} (x:Tk h p) {t:Nat} (a:p.k t=6):t<p.DY.length:=by
 have:=hZ (p:=p) (f:=t) oA;rw[x.lf.DY];exact this
theorem Tk.Fe {h:Nat->Prop} {p:PW} (x:Tk h p) {t:Nat} (i:p.k t=6) {k:Nat} {v:Int} (u:fOk p k v=true) (m:k≠17) (r:h t∨k≠9∧k≠10∧k≠14∧k≠18) (s:k=9->p.t t 9≠5∧v≠5∧(v=4->p.t t 17= -1)):Tk h (p.task t k v):=by
 have d:=x.tl i;refine⟨x.lf.of,x.a.Fe d i u,?_,x.q.to rfl (fun n f j w=>?_) rfl rfl rfl rfl⟩
 ·have g:∀n,(p.task t k v).t n 17=p.t n 17:=fun n=>by rw[fA d,ae (fun y=>m y.2.symm)]
  by_cases e:k=9
  ·obtain⟨a,b,c⟩:=s e;have l:(p.task t k v).t t 9=v:=by rw[fA d,af ⟨rfl,e.symm⟩]
   exact x.o.st t g (fun n f=>by rw[fA d,ae (fun y=>f y.1)]) a (by rw[l];exact b) (by rw[l];exact c)
  ·exact x.o.to g (fun n=>by rw[fA d,ae (fun y=>e y.2.symm)])
 ·rw[fA d,ae];rintro⟨rfl,rfl⟩;rcases r with e|e
  ·exact f e
  ·omega
theorem Tk.hh {p:PW} {t:Nat} (x:Tk (Hnd t) p):p.k t=6:=x.q.hk t rfl
theorem Tk.EX {h:Nat->Prop} {p:PW} (x:Tk h p) {t:Nat} (a:p.k t=6) {k:Nat} {v:Int} (hk:k<=8∨k=15∨k=16) (b:0<=v∧v<=65535):Tk h (p.task t k v):=
 x.Fe a (by unfold fOk;rw[af hk];exact aD b) oA (.inr oA) oA
theorem Tk.at' {p:PW} {t:Nat} (x:Tk (Hnd t) p) (v:Int):Tk (Hnd t) (p.task t 14 v):=x.Fe x.hh rfl oD (.inl rfl) oA
theorem Tk.FJ {p:PW} {t:Nat} (x:Tk (Hnd t) p) {v:Int} (d:0<=v∧v<=6) (b:p.t t 9≠5) (c:v≠5) (a:v=4->p.t t 17= -1):Tk (Hnd t) (p.task t 9 v):=
 x.Fe x.hh (by unfold fOk;rw[ae oA,af rfl];exact aD d) oD (.inl rfl) (fun _=>⟨b,c,a⟩)
theorem Tk.num {h:Nat->Prop} {p:PW} (x:Tk h p) {t:Nat} (c:p.k t=6):(0<=p.t t 10∧p.t t 10<=3)∧(0<=p.t t 18∧p.t t 18<=(p.D6.length:Int) - 1)∧rdN p t<p.ready.length:=by
 have a:=x.a.ok t c 10 oD;have b:=x.a.ok t c 18 oD;have a:=ay a;have b:=ay b;refine⟨a,b,?_⟩;have:=x.lf.ready;show (p.t t 18*4+p.t t 10).toNat<_
 omega
theorem Tk.Fj {h b:Nat->Prop} {p:PW} (x:Tk h p) {L R:List (List Int)} {B C:List Int} (y:TkQ b {p with lines:=L,bits:=B,ready:=R,D6:=C}) (e7:L.length=p.lines.length:=by first|rfl|simp[lvs]) (e8:B.length=p.bits.length:=by first|rfl|simp) (e9:R.length=p.ready.length:=by first|rfl|simp[lvs]) (e2:C.length=p.D6.length:=by first|rfl|simp):Tk b {p with lines:=L,bits:=B,ready:=R,D6:=C}:=
 ⟨x.lf.of (e2:=e2) (e7:=e7) (e8:=e8) (e9:=e9),x.a.to rfl rfl e2,x.o.to (fun _=>rfl) (fun _=>rfl),y⟩
theorem Tk.Fp {p:PW} {t:Nat} (x:Tk (Hnd t) p) (b:p.t t 9=1) (a:p.t t 14= -1):Tk Nbd {p with ready:=p.ready.set (rdN p t) (p.re (rdN p t)++[(t:Int)])}:=
 x.Fj (B:=p.bits) (L:=p.lines) (C:=p.D6) (x.q.ready b a (x.num x.hh).2.2)
theorem yf {p:PW} {t:Nat} (a:t<p.DY.length) (n j i:Nat):(wnP p t i).t n j=if n=t∧j=14 then -1 else if n=t∧j=9 then 1 else p.t n j:=by
 show ((p.task t 9 1).task t 14 (-1)).t n j=_
 rw[fA (by rw[am];exact a),fA a]
theorem TkQ.Ex {p:PW} {t:Nat} (x:TkQ (Hnd t) p) (a:t<p.DY.length) (hi:rdN p t<p.ready.length):TkQ Nbd (wnP p t (rdN p t)):=by
 have b:t<(p.task t 9 1).DY.length:=by rw[am];exact a
 have e:rdN ((p.task t 9 1).task t 14 (-1)) t=rdN p t:=lE (by rw[fA b,ae oA,fA a,ae oA]) (by rw[fA b,ae oA,fA a,ae oA]);have y:=(x.to (q:=(p.task t 9 1).task t 14 (-1)) rfl (fun n c j _=>by rw[fA b,ae (fun y=>c y.1),fA a,ae (fun y=>c y.1)]) rfl rfl rfl rfl).ready (by rw[fA b,ae oA,fA a,af ⟨rfl,rfl⟩]) (by rw[fA b,af ⟨rfl,rfl⟩]) (by rw[e];exact hi);rw[e] at y;exact y
theorem TkA.Ex {p:PW} {t i:Nat} (x:TkA p) (a:p.k t=6) (b:t<p.DY.length):TkA (wnP p t i):=
 ((x.Fe b a (k:=9) (v:=1) rfl).Fe (by rw[am];exact b) a (k:=14) (v:= -1) rfl).to rfl rfl rfl
theorem LF.Ex {p:PW} (h:LF p) (t i:Nat):LF (wnP p t i):=h.of (e6:=by show ((p.task t 9 1).task t 14 (-1)).DY.length=_;rw[am,am]) (e9:=by show (p.ready.set _ _).length=_;simp)
theorem Tk.Ex {p:PW} {t:Nat} (x:Tk (Hnd t) p) (d:p.t t 9≠5):Tk Nbd (wnP p t (rdN p t)):=by
 have b:=x.tl x.hh;have c:(wnP p t (rdN p t)).t t 9=1:=by rw[yf b,ae oA,af ⟨rfl,rfl⟩]
 exact⟨x.lf.Ex _ _,x.a.Ex x.hh b,x.o.st t (fun n=>by rw[yf b,ae oA,ae oA]) (fun n f=>by rw[yf b,ae oA,ae (fun y=>f y.1)]) d (by rw[c];decide) (by rw[c];intro e;cases e),x.q.Ex b (x.num x.hh).2.2⟩
theorem TkQ.FT {p:PW} (x:TkQ Nbd p) {t:Nat} (d:p.k t=6) (f:p.t t 9=0∨p.t t 9=5):TkQ (Hnd t) p:=by
 have w:=x.wp d id;have g:pl (p.t t 9)=0:=by rcases f with e|e<;>rw[e]<;>rfl
 have b:p.t t 9≠1:=oA;exact x.pick (L:=p.lines) (R:=p.ready) (C:=p.D6) d (fun a z=>gf (fun e=>(w.ln a e).1 g) z) x.lu (fun i z=>gf (fun e=>b (w.rd i e).1) z) x.ru (pE fun c e=>b (w.cr c e).1)
theorem Tk.FT {p:PW} (x:Tk Nbd p) {t:Nat} (b:p.k t=6) (c:p.t t 9=0∨p.t t 9=5):Tk (Hnd t) p:=⟨x.lf,x.a,x.o,x.q.FT b c⟩
theorem Tk.start {p:PW} (x:Tk Nbd p) {t:Nat} (a:p.k t=6) (b:p.t t 9=0):Tk Nbd (wnP p t (rdN p t)):=(x.FT a (.inl b)).Ex oA
section
variable {α : Type} {p : α -> Bool} {l m : List α} {i j : Nat}
end
section
variable {α : Type} (f : α -> α) (k : Nat) (l : List α)
end
def wkP (p:PW) (t n:Nat):PW:={(lvP p t).task t 9 1 with ready:=(lvs t p.ready).set n ((lvs t p.ready).getD n []++[(t:Int)])}
