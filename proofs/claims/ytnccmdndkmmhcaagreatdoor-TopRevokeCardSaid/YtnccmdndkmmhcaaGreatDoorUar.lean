/- Uar -/
import Derived.Test.YtnccmdndkmmhcaaGreatDoorUaq
set_option maxRecDepth 100000
set_option maxHeartbeats 16000000
namespace Go.Proofs.YtnccmdndkmmhcaaGreatDoor
namespace Wd
open Go.RowKit Mem Bw Nums Mmu
theorem im {w:World} {base:Nat} {v:Value} (f:w.ownsRow base 3 1 v 0 []) (e:base<=w.heap.size) {u:Value} {zs:List Int} (p:ed w u zs) (hl:zs.length<=1000):
  ∃q c w',(Builtin.append_ #[22,22] 22 #[v,u]).run Tryz.prog w=.ok (.slice q zs.length c) w'∧w'.ownsRow base 3 1 (.slice q zs.length c) zs.length (dU zs)∧Below base w w'∧w.grownBy w' v.ownBlock:=by
 obtain⟨i,hi,s,o,r⟩:=fj kD;obtain⟨q,b,off,cap,rfl,m,t⟩:=p;obtain⟨j,l⟩:=pn m t (af w.heap.size w);obtain⟨A,w',n,a,d⟩:=yn (P:=Tryz.prog) 22 22 3 i (.int .i64 0) 1 8 Tryz.underlying22 hi s o r rfl oD base v f q zs.length cap (dU zs) j (by unfold dU;simp) l (fun x g=>by
  unfold dU at g;obtain⟨y,_,rfl⟩:=List.mem_map.1 g;rfl) (by unfold maxLen;omega) oA e
 obtain⟨z,h,rfl⟩:=eJ a;exact⟨z,h,w',n,a,(af base w).grown d e (fun k hk=>(f.lt k hk).1),d⟩
theorem kS {w:World} {base:Nat} {v:Value} {zs:List Int} (g:w.ownsRow base 3 1 v zs.length (dU zs)) (f:base<=w.heap.size) (hl:zs.length<=1000) {b:Nat} {x:Int} (l:w.cell? ⟨b,0,none⟩=some (.int .i64 x)):
  ∃q c w',(Builtin.append_ #[22,22] 22 #[v,.slice (some ⟨b,0,none⟩) 1 1]).run Tryz.prog w=.ok (.slice q (zs.length+1) c) w'∧w'.ownsRow base 3 1 (.slice q (zs.length+1) c) (zs++[x]).length (dU (zs++[x]))∧Below base w w':=by
 obtain⟨i,hi,p,n,o⟩:=fj kD;obtain⟨r,w',m,d,h,_⟩:=run_append_own (P:=Tryz.prog) w base 22 22 3 i (.int .i64 0) 1 8 Tryz.underlying22 hi p n o rfl oD v zs.length (dU zs) g ⟨b,0,none⟩ 1 1 [.int .i64 x] rfl (fun j v a=>by
  match j,a with
  |0,a=>cases a;exact l
  |j+1,a=>simp at a) (Fb x) (by unfold maxLen;omega) oA f
 obtain⟨q,cap,rfl⟩:=eJ d;have e:dU zs++[Value.int .i64 x]=dU (zs++[x]):=by unfold dU;simp
 exact⟨q,cap,w',m,by rw[<-e,ax];exact d,(af base w).grown h f (fun k hk=>(g.lt k hk).1)⟩
def wnP (p:PW) (t n:Nat):PW:={(p.task t 9 1).task t 14 (-1) with ready:=p.ready.set n (p.ready.getD n []++[(t:Int)])}
theorem gN (wb:Nat) (tag:Nat->Nat) (V:Nat->Value) (p:PW) (t n:Nat) (W:World) (bt:cb W wb tag V p) (hp:p.Fits) (C:t<p.II.length) (hn:n<p.ready.length) (aX:0<=p.II.getD t bl 18∧p.II.getD t bl 18<=1000) (aW:0<=p.II.getD t bl 10∧p.II.getD t bl 10<=1000) (aY:p.II.getD t bl 18*4+p.II.getD t bl 10=(n:Int)):
  Calls Tryz.prog 124 #[.pointer (some ⟨wb,0,none⟩),.int .i64 t] W fun r W'=>r=.returned (.tuple #[])∧∃tag',cb W' wb tag' V (wnP p t n)∧Kt tag tag' W W':=by
 have bb:=hid (show (p.ready.getD n []).length<=1000 by rw[aa,ac hn];exact hp.next _ (av hn));have aw:=hid hn;have ck:(p.ready.length:Int)<=1000:=by have:=hp.ready;omega
 have cj:(p.II.length:Int)<=1000:=by have:=hp.II;omega
 have cp:(t:Int)<(p.II.length:Int):=oA;have cm:(n:Int)<(p.ready.length:Int):=oA;have al:=hid C;have F:=hid (ap p t 9 1);have L2:=hid ((ap (p.task t 9 1) t 14 (-1)).trans F);have aN:=hid (show (((p.task t 9 1).task t 14 (-1)).II.getD t bl) 18=p.II.getD t bl 18 by rw[gM _ t 14 18 (-1) (by rw[F.out];exact C)];exact gM p t 9 18 1 C);have aM:=hid (show (((p.task t 9 1).task t 14 (-1)).II.getD t bl) 10=p.II.getD t bl 10 by rw[gM _ t 14 10 (-1) (by rw[F.out];exact C)];exact gM p t 9 10 1 C);generalize p.II.getD t bl 18=cc at aN aX aY;generalize p.II.getD t bl 10=pp at aM aW aY;obtain⟨bY,bZ⟩:=aX;obtain⟨cd,cg⟩:=aW;obtain⟨g3,cap3,O⟩:=bt.o.II.form oA;have E3:=hid O;have c3:=bD bt O;have x9:=bt.IS O C (show 9<20 by omega);have f9:=bt.IT O (t*20+9);obtain⟨b1,k1⟩:=bt.task O C (show 9<20 by omega) 1;have Y:=hid b1;have K1:=hid k1;go_enter Tryz.func124,Tryz.ntmps124
 go_upto_region 1 with fail
 generalize World.setCell _ _ _=W1 at*;have e4:V 3=.slice (some ⟨g3,0,none⟩) (p.task t 9 1).II.length cap3:=by rw[F.out];exact E3
 have c3:=bD Y E3;have cs:=Y.IS e4 (i:=t) (by rw[F.out];exact al) (show 14<20 by omega);have bX:=Y.IT e4 (t*20+14);obtain⟨b2,k2⟩:=Y.task e4 (i:=t) (by rw[F.out];exact al) (show 14<20 by omega) (-1);have Z:=hid b2;have K2:=hid (K1.trans k2);go_upto_region 2 with fail
 generalize World.setCell _ _ _=W2 at*;have e5:V 3=.slice (some ⟨g3,0,none⟩) ((p.task t 9 1).task t 14 (-1)).II.length cap3:=by rw[L2.out];exact E3
 have c3:=bD Z E3;have bR:=Z.IS e5 (i:=t) (by rw[L2.out];exact al) (show 18<20 by omega);have bQ:=Z.IS e5 (i:=t) (by rw[L2.out];exact al) (show 10<20 by omega);rw[aN.out] at bR;rw[aM.out] at bQ
 go_quiet (fail)
 have BS:=hid (aG (af W2.heap.size W2) nq);generalize World.drewN _ _=a at BS ⊢;have B3:=hid (Z.below BS);have K3:=hid (K2.trans (.below BS));go_wp2_with fail
 obtain⟨d,eL⟩:=B3.o.ready.form;have P:=B3.o.ready;rw[eL] at P;obtain⟨u,cu,hu⟩:=P.at (j:=n) aw;obtain⟨zs,am⟩:∃zs,(p.ready).getD n []=zs:=⟨_,rfl⟩
 have bM:InT a tag (13+3*n) 3 1 u (zs.length,dU zs):=by
  have h1:InT a tag (13+3*n) 3 1 u (ci (p.ready) n):=hu;unfold ci at h1;rw[am] at h1;exact h1
 have E:=hid (show zs.length<=1000 from by rw[<-am];exact bb);have bT:=hid am;have HU:=hid (dN bM.1);have bS:=hid P;have L:=hid (show V 7=.slice (some ⟨d,0,none⟩) p.ready.length p.ready.length from eL);have ar:=hid (fun X (h:Below a.heap.size a X)=>show X.frozen? ⟨d,n,none⟩=false from (P.kp (T:=fun _=>False) (.IM h) (fun _ _=>rfl) (fun _ _ e=>e)).fr n);have g:=hid (fun X (h:Below a.heap.size a X)=>show X.cell? ⟨wb,7,none⟩=some (.slice (some ⟨d,0,none⟩) p.ready.length p.ready.length) by rw[ai (B3.below h).r (k:=7) rfl,L.out]);have f:=hid (fun X (h:Below a.heap.size a X)=>(h.cell (aj _ _ cu)).trans cu);have BD:=hid (aD a 1);have ao:=hid (fun X v (U:List Int) (hz:U=zs++[(t:Int)]) (h:Below a.heap.size a X) (l:X.ownsRow a.heap.size 3 1 v U.length (dU U))=>show cb (X.setCell ⟨d,n,none⟩ v) wb (gR tag a.heap.size (13+3*n)) V {(p.task t 9 1).task t 14 (-1) with ready:=(p.ready).set n ((p.ready).getD n []++[(t:Int)])}∧Kt tag (gR tag a.heap.size (13+3*n)) W (X.setCell ⟨d,n,none⟩ v) from by
  obtain⟨bL,aZ⟩:=P.put (tag':=gR tag a.heap.size (13+3*n)) (w1:=X) (u:=v) (c:=(U.length,dU U)) (j:=n) aw (fun j=>oA) (.IM h) (fun k hk=>dO hk) ⟨l.mono (bP _),fun k e=>by
   unfold gR;rw[ae (by have:=(l.lt k e).1;omega)]⟩
  refine⟨B3.ready aZ (fun k hk=>dO hk) ?_,K3.trans (Kt.of (tag':=gR tag a.heap.size (13+3*n)) aZ (fun k e=>by rcases e with e|⟨j,e⟩<;>omega) (fun k hk=>dO hk))⟩;rw[au,L.out,kz _ _ aw,am, <-hz];exact bL)
 refine ei (S:=fun X=>X.cell? ⟨wb,7,none⟩=some (.slice (some ⟨d,0,none⟩) p.ready.length p.ready.length)) (R:=fun X=>X.cell? ⟨d,n,none⟩=some u) [18] oK (g.out _ BD) (f.out _ BD) (fun bK bJ=>?_);have q:=hid bK;have m:=hid bJ;refine tF 0 (.pointer (some ⟨wb,0,none⟩)) rfl q (fun _=>m.out) ?_;simp only[jj];refine tF 1 (.pointer (some ⟨wb,0,none⟩)) rfl q (fun _=>m.out) ?_;simp only[jj];refine tF 2 (.pointer (some ⟨wb,7,none⟩)) rfl q (fun _=>m.out) ?_;simp only[jj];refine tG 3 (.slice (some ⟨d,0,none⟩) p.ready.length p.ready.length) rfl q (fun _=>m.out) ?_;simp only[jj];refine tF 4 (.int .i64 n) rfl q (fun _=>m.out) ?_;simp only[jj];refine tF 6 (.pointer (some ⟨wb,0,none⟩)) rfl q (fun _=>m.out) ?_;simp only[jj];refine tF 7 (.pointer (some ⟨wb,0,none⟩)) rfl q (fun _=>m.out) ?_;simp only[jj];refine tF 8 (.pointer (some ⟨wb,7,none⟩)) rfl q (fun _=>m.out) ?_;simp only[jj];refine tG 9 (.slice (some ⟨d,0,none⟩) p.ready.length p.ready.length) rfl q (fun _=>m.out) ?_;simp only[jj];refine tF 10 (.int .i64 n) rfl q (fun _=>m.out) ?_;simp only[jj];refine tF 11 (.pointer (some ⟨d,n,none⟩)) rfl q (fun _=>m.out) ?_;simp only[jj];refine eZ (i:=12) (v:=u) rfl oK oK oK oK oK oK (fun _ _ _ h=>h) (Or.inl ⟨oR,fun W h=>by have h3:=h.2;clear h;go_simp⟩) q (fun _=>m.out) ?_;simp only[jj];refine tF 14 (.int .i64 t) rfl q (fun _=>m.out) ?_;simp only[jj];refine dp (rs:=[5,15]) oK oS (di.cons rfl (fun K b=>?_) (di.cons rfl (fun K b=>?_) di.nil))
 ·have Ea:=hid (show (a.alloc (.cells #[] 3)).drew.ownsRow a.heap.size 3 1 (.slice (some ⟨a.heap.size,0,none⟩) 0 0) 0 [] from (dy a #[] 0 (aq _) (bP _) oS));have D:=hid ((bal (af _ a) (.cells #[] 3)).drew);go_simp
  refine b _ _ (g.out _ D) (fun _=>f.out _ D) (fun _ _=>?_)
  try simp only[Act.put,jD,jE,jF]
  generalize World.drew (World.alloc _ _)=G at*;refine dp (rs:=[13,15]) oK oS (di.cons rfl (fun K b=>?_) (di.cons rfl (fun K b=>?_) di.nil))
  ·obtain⟨aE,az,ay,w,l,s,hg⟩:=im Ea D.size (show ed G u zs from HU.below D) E;have a5:=hid w;have bg:=hid l;have an:=hid (D.trans s);refine fU _ _ 22 rfl (.slice (some ⟨a.heap.size,0,none⟩) 0 0) u (.slice aE zs.length az) rfl rfl a5 ?_;refine b _ _ (g.out _ an) (fun _=>f.out _ an) (fun _ _=>?_);simp only[jj];refine dp (rs:=[15]) oK oS (di.cons rfl (fun K b=>?_) di.nil);have bA:=hid (cq ay #[.int .i64 t] 3 0);have ab:=hid (bal an (.cells #[.int .i64 t] 3));have bh:=hid (show (ay.alloc (.cells #[.int .i64 t] 3)).ownsRow a.heap.size 3 1 (.slice aE zs.length az) zs.length (dU zs) from bg.alloc _);go_simp
   refine b _ _ (g.out _ ab) (fun _=>f.out _ ab) (fun _ _=>?_)
   try simp only[Act.put,jD,jE,jF]
   generalize World.alloc _ _=bU at*;generalize ay.heap.size=bN at*;refine dp (rs:=[16]) oK oS (di.cons rfl (fun K b=>?_) di.nil);obtain⟨aI,aA,aO,w,l,s⟩:=kS bh ab.size E bA;have a6:=hid w;have bn:=hid l;have x:=hid (ab.trans s);have bu:=hid (g.out _ x);have bq:=hid (f.out _ x);refine fU _ _ 22 rfl (.slice aE zs.length az) (.slice (some ⟨bN,0,none⟩) 1 1) (.slice aI (zs.length+1) aA) rfl rfl a6 ?_;refine b _ _ (g.out _ x) (fun _=>f.out _ x) (fun _ _=>?_);simp only[jj];refine tF 17 (.pointer (some ⟨d,n,none⟩)) rfl bu (fun _=>bq.out) ?_;simp only[jj];have aU:=g.out _ x;have aT:=f.out _ x;have aV:=ar.out _ x;obtain⟨A,Q⟩:=ao.out aO (.slice aI (zs.length+1) aA) (zs++[(t:Int)]) rfl x bn;have H:=hid A;have M:=hid Q;have N:=hid (show (aO.setCell ⟨d,n,none⟩ (.slice aI (zs.length+1) aA)).cell? ⟨wb,7,none⟩=some (.slice (some ⟨d,0,none⟩) p.ready.length p.ready.length) by rw[ai A.r (k:=7) rfl,L.out]);refine r1 18 rfl (fun K b=>?_);go_simp
   refine b _ _ N (fv oK) (fun _ _=>?_)
   try simp only[Act.put]
   refine ec oK ?_ _;generalize World.setCell _ _ _=W6 at*;go_wp2_with fail
   exact aH (aF rfl _ _ _) rfl ⟨rfl,_,by unfold wnP;exact H,M.out⟩
  ·have bB:=hid (cq G #[.int .i64 t] 3 0);have I:=hid (bal D (.cells #[.int .i64 t] 3));have a3:=hid (show (G.alloc (.cells #[.int .i64 t] 3)).ownsRow a.heap.size 3 1 (.slice (some ⟨a.heap.size,0,none⟩) 0 0) 0 [] from Ea.alloc _);have bc:=hid (show a.heap.size≠G.heap.size from fun e=>by have h1:a.heap.size<G.heap.size:=(Ea.lt _ rfl).2;omega);go_simp
   refine b _ _ (g.out _ I) (fun _=>f.out _ I) (fun _ _=>?_)
   try simp only[Act.put,jD,jE,jF]
   generalize World.alloc _ _=bG at*;generalize G.heap.size=bO at*;refine dp (rs:=[13]) oK oS (di.cons rfl (fun K b=>?_) di.nil);obtain⟨a0,aR,bV,w,l,s,hg⟩:=im a3 I.size (show ed bG u zs from HU.below I) E;have a7:=hid w;have bj:=hid l;have ad:=hid (I.trans s);have bC:=hid (hg.cell bB (fun e=>bc.out (aK e).symm));refine fU _ _ 22 rfl (.slice (some ⟨a.heap.size,0,none⟩) 0 0) u (.slice a0 zs.length aR) rfl rfl a7 ?_;refine b _ _ (g.out _ ad) (fun _=>f.out _ ad) (fun _ _=>?_);simp only[jj];refine dp (rs:=[16]) oK oS (di.cons rfl (fun K b=>?_) di.nil);obtain⟨aJ,aB,aP,w,l,s⟩:=kS bj ad.size E bC;have a8:=hid w;have bo:=hid l;have y:=hid (ad.trans s);have bv:=hid (g.out _ y);have br:=hid (f.out _ y);refine fU _ _ 22 rfl (.slice a0 zs.length aR) (.slice (some ⟨bO,0,none⟩) 1 1) (.slice aJ (zs.length+1) aB) rfl rfl a8 ?_;refine b _ _ (g.out _ y) (fun _=>f.out _ y) (fun _ _=>?_);simp only[jj];refine tF 17 (.pointer (some ⟨d,n,none⟩)) rfl bv (fun _=>br.out) ?_;simp only[jj];have aU:=g.out _ y;have aT:=f.out _ y;have aV:=ar.out _ y;obtain⟨A,Q⟩:=ao.out aP (.slice aJ (zs.length+1) aB) (zs++[(t:Int)]) rfl y bo;have H:=hid A;have M:=hid Q;have N:=hid (show (aP.setCell ⟨d,n,none⟩ (.slice aJ (zs.length+1) aB)).cell? ⟨wb,7,none⟩=some (.slice (some ⟨d,0,none⟩) p.ready.length p.ready.length) by rw[ai A.r (k:=7) rfl,L.out]);refine r1 18 rfl (fun K b=>?_);go_simp
   refine b _ _ N (fv oK) (fun _ _=>?_);clear b K
   try simp only[Act.put]
   refine ec oK ?_ _;generalize World.setCell _ _ _=W6 at*;go_wp2_with fail
   exact aH (aF rfl _ _ _) rfl ⟨rfl,_,by unfold wnP;exact H,M.out⟩
 ·have ax:=hid (show (a.alloc (.cells #[.int .i64 t] 3)).drew.cell? ⟨a.heap.size,0,none⟩=some (.int .i64 t) from cq a #[.int .i64 t] 3 0);have ag:=hid (show Below a.heap.size a (a.alloc (.cells #[.int .i64 t] 3)).drew from (bal (af _ a) (.cells #[.int .i64 t] 3)).drew);go_simp
  refine b _ _ (g.out _ ag) (fun _=>f.out _ ag) (fun _ _=>?_);clear b K
  try simp only[Act.put,jD,jE,jF]
  generalize World.drew (World.alloc _ _)=B at*;refine dp (rs:=[5]) oK oS (di.cons rfl (fun K b=>?_) di.nil);have a4:=hid (show (B.alloc (.cells #[] 3)).ownsRow a.heap.size 3 1 (.slice (some ⟨B.heap.size,0,none⟩) 0 0) 0 [] from (dy B #[] 0 ag.size (bP _) oS));have J:=hid (show Below a.heap.size a (B.alloc (.cells #[] 3)) from bal ag (.cells #[] 3));have bE:=hid (show (B.alloc (.cells #[] 3)).cell? ⟨a.heap.size,0,none⟩=some (.int .i64 t) from (World.cell?_alloc_lt _ _ _ (aj _ _ ax)).trans ax);have bf:=hid (show (B.heap.size)≠a.heap.size from fun e=>by have:=aj _ _ ax;simp only at this;omega);go_simp
  refine b _ _ (g.out _ J) (fun _=>f.out _ J) (fun _ _=>?_)
  try simp only[Act.put,jD,jE,jF]
  generalize World.alloc _ _=bH at*;generalize B.heap.size=bI at*;refine dp (rs:=[13]) oK oS (di.cons rfl (fun K b=>?_) di.nil);obtain⟨a2,aS,bW,w,l,s,hg⟩:=im a4 J.size (show ed bH u zs from HU.below J) E;have a9:=hid w;have bk:=hid l;have ah:=hid (J.trans s);have bF:=hid (hg.cell bE (fun e=>bf.out (aK e).symm));refine fU _ _ 22 rfl (.slice (some ⟨bI,0,none⟩) 0 0) u (.slice a2 zs.length aS) rfl rfl a9 ?_;refine b _ _ (g.out _ ah) (fun _=>f.out _ ah) (fun _ _=>?_);simp only[jj];refine dp (rs:=[16]) oK oS (di.cons rfl (fun K b=>?_) di.nil);obtain⟨aL,aC,aQ,w,l,s⟩:=kS bk ah.size E bF;have ba:=hid w;have bp:=hid l;have z:=hid (ah.trans s);have bz:=hid (g.out _ z);have bs:=hid (f.out _ z);refine fU _ _ 22 rfl (.slice a2 zs.length aS) (.slice (some ⟨a.heap.size,0,none⟩) 1 1) (.slice aL (zs.length+1) aC) rfl rfl ba ?_;refine b _ _ (g.out _ z) (fun _=>f.out _ z) (fun _ _=>?_);simp only[jj];refine tF 17 (.pointer (some ⟨d,n,none⟩)) rfl bz (fun _=>bs.out) ?_;simp only[jj];have aU:=g.out _ z;have aT:=f.out _ z;have aV:=ar.out _ z;obtain⟨A,Q⟩:=ao.out aQ (.slice aL (zs.length+1) aC) (zs++[(t:Int)]) rfl z bp;have H:=hid A;have M:=hid Q;have N:=hid (show (aQ.setCell ⟨d,n,none⟩ (.slice aL (zs.length+1) aC)).cell? ⟨wb,7,none⟩=some (.slice (some ⟨d,0,none⟩) p.ready.length p.ready.length) by rw[ai A.r (k:=7) rfl,L.out]);refine r1 18 rfl (fun K b=>?_);go_simp
  refine b _ _ N (fv oK) (fun _ _=>?_)
  try simp only[Act.put]
  refine ec oK ?_ _;generalize World.setCell _ _ _=W6 at*;go_wp2_with fail
  exact aH (aF rfl _ _ _) rfl ⟨rfl,_,by unfold wnP;exact H,M.out⟩
theorem LF.of {p q:PW} (h:LF p) (e1:q.kinds.length=p.kinds.length:=by first|rfl|simp) (e2:q.IJ.length=p.IJ.length:=by first|rfl|simp) (a:q.IQ.length=p.IQ.length:=by first|rfl|simp) (e4:q.IL.length=p.IL.length:=by first|rfl|simp) (e5:q.IH.length=p.IH.length:=by first|rfl|simp) (e6:q.II.length=p.II.length:=by first|rfl|simp[PW.task]) (e7:q.lines.length=p.lines.length:=by first|rfl|simp[lvs]) (e8:q.bits.length=p.bits.length:=by first|rfl|simp) (e9:q.ready.length=p.ready.length:=by first|rfl|simp[lvs]) (e10:q.IK.length=p.IK.length:=by first|rfl|simp):LF q:=
 ⟨by rw[e1];exact h.k1,by rw[e1];exact h.k2,by rw[e2];exact h.c1,by rw[e2];exact h.c2,by rw[a];exact h.d1,by rw[a];exact h.d2,by rw[e4,e1];exact h.IL,by rw[e5,e1];exact h.IH,by rw[e6,e1];exact h.II,by rw[e7,e1];exact h.lines,by rw[e8,e1];exact h.bits,by rw[e9,e2];exact h.ready,by rw[e10,e2];exact h.IK⟩
theorem qC {p q:PW} (d:q.kinds=p.kinds) (c:q.IJ.length=p.IJ.length) (k:Nat) (v:Int):fOk q k v=fOk p k v:=by
 have e:∀a b,fB q a b=fB p a b:=fun a b=>by unfold fB isB fH;rw[d]
 unfold fOk;rw[c,e,e,e]
structure Tk (h:Nat->Prop) (p:PW):Prop where
 lf:LF p
 a:TkA p
 o:TkO p
 q:TkQ h p
theorem fV {p:PW} {t:Nat} (a:t<p.II.length) (k:Nat) (x:Int) (n j:Nat):(p.task t k x).t n j=if n=t∧j=k then x else p.t n j:=by
 show ((p.II.set t (upd (p.II.getD t bl) k x)).getD n bl) j=_
 rw[dx a];by_cases e:n=t
 ·rw[ag e];show (if j=k then x else p.t t j)=_
  by_cases e2:j=k
  ·rw[ag e2,ag ⟨e,e2⟩]
  ·rw[ae e2,ae (fun y=>e2 y.2),e]
 ·rw[ae e,ae (fun y=>e y.1)]
theorem TkA.to {p q:PW} (x:TkA p) (b:q.kinds=p.kinds) (et:q.II=p.II) (c:q.IJ.length=p.IJ.length):TkA q:=by
 have k:∀n,q.k n=p.k n:=fun n=>by show q.kinds.getD n 0=_;rw[b]
 have t:∀n,q.t n=p.t n:=fun n=>by show q.II.getD n bl=_;rw[et]
 exact⟨fun n a=>by rw[t];exact x.no n (k n▸a),fun n a j d=>by rw[t,qC b c];exact x.ok n (k n▸a) j d⟩
theorem TkA.JB {p:PW} (x:TkA p) {t:Nat} (c:t<p.II.length) (d:p.k t=6) {k:Nat} {v:Int} (hv:fOk p k v=true):TkA (p.task t k v):=by
 refine⟨fun n a j b=>?_,fun n a j b=>?_⟩
 ·rw[fV c,ae (fun (y:n=t∧j=k)=>a (y.1▸d))];exact x.no n a j b
 ·rw[fV c,qC (q:=p.task t k v) (p:=p) rfl rfl];split
  ·rename_i e;rw[e.2];exact hv
  ·exact x.ok n a j b
theorem TkO.to {p q:PW} (x:TkO p) (d:∀n,q.t n 17=p.t n 17) (e9:∀n,q.t n 9=p.t n 9):TkO q:=
 ⟨fun n=>by rw[d,e9];exact (x.ow n).elim .inl fun ⟨u,a,b,c⟩=>.inr ⟨u,a,by rw[e9];exact b,c⟩,fun u e=>by rw[e9] at e;obtain⟨n,h⟩:=x.ak u e;exact⟨n,by rw[d];exact h⟩,fun n m u f g=>x.ij n m u (d n▸f) (d m▸g)⟩
theorem TkO.st {p q:PW} (x:TkO p) (t:Nat) (a:∀n,q.t n 17=p.t n 17) (e9:∀n,n≠t->q.t n 9=p.t n 9) (k:p.t t 9≠5) (l:q.t t 9≠5) (j:q.t t 9=4->p.t t 17= -1):TkO q:=by
 refine⟨fun n=>?_,fun u b=>?_,fun n m u h i=>x.ij n m u (a n▸h) (a m▸i)⟩
 ·rw[a];rcases x.ow n with g|⟨u,c,d,f⟩
  ·exact .inl g
  ·refine .inr ⟨u,c,?_,?_⟩
   ·rw[e9 u (fun e=>k (e▸d))];exact d
   ·by_cases e:n=t
    ·subst e;exact fun y=>by rw[j y] at c;omega
    ·rw[e9 n e];exact f
 ·have e:u≠t:=fun e=>l (e▸b);rw[e9 u e] at b;obtain⟨n,o⟩:=x.ak u b;exact⟨n,by rw[a];exact o⟩
theorem Tk.tl {h:Nat->Prop} {p:PW} (x:Tk h p) {t:Nat} (a:p.k t=6):t<p.II.length:=by
 have:=iN (p:=p) (f:=t) oA;rw[x.lf.II];exact this
theorem Tk.JB {h:Nat->Prop} {p:PW} (x:Tk h p) {t:Nat} (i:p.k t=6) {k:Nat} {v:Int} (hv:fOk p k v=true) (m:k≠17) (r:h t∨k≠9∧k≠10∧k≠14∧k≠18) (s:k=9->p.t t 9≠5∧v≠5∧(v=4->p.t t 17= -1)):Tk h (p.task t k v):=by
 have d:=x.tl i;refine⟨x.lf.of,x.a.JB d i hv,?_,x.q.to rfl (fun n f j u=>?_) rfl rfl rfl rfl⟩
 ·have g:∀n,(p.task t k v).t n 17=p.t n 17:=fun n=>by rw[fV d,ae (fun y=>m y.2.symm)]
  by_cases e:k=9
  ·obtain⟨a,b,c⟩:=s e;have l:(p.task t k v).t t 9=v:=by rw[fV d,ag ⟨rfl,e.symm⟩]
   exact x.o.st t g (fun n f=>by rw[fV d,ae (fun y=>f y.1)]) a (by rw[l];exact b) (by rw[l];exact c)
  ·exact x.o.to g (fun n=>by rw[fV d,ae (fun y=>e y.2.symm)])
 ·rw[fV d,ae];rintro⟨rfl,rfl⟩;rcases r with e|e
  ·exact f e
  ·omega
theorem Tk.hh {p:PW} {t:Nat} (x:Tk (Hnd t) p):p.k t=6:=x.q.hk t rfl
theorem Tk.Jx {h:Nat->Prop} {p:PW} (x:Tk h p) {t:Nat} (a:p.k t=6) {k:Nat} {v:Int} (hk:k<=8∨k=15∨k=16) (hv:0<=v∧v<=65535):Tk h (p.task t k v):=
 x.JB a (by unfold fOk;rw[ag hk];exact az hv) oA (.inr oA) oA
theorem Tk.at' {p:PW} {t:Nat} (x:Tk (Hnd t) p) (v:Int):Tk (Hnd t) (p.task t 14 v):=x.JB x.hh rfl oD (.inl rfl) oA
theorem Tk.J1 {p:PW} {t:Nat} (x:Tk (Hnd t) p) {v:Int} (hv:0<=v∧v<=6) (b:p.t t 9≠5) (c:v≠5) (a:v=4->p.t t 17= -1):Tk (Hnd t) (p.task t 9 v):=
 x.JB x.hh (by unfold fOk;rw[ae oA,ag rfl];exact az hv) oD (.inl rfl) (fun _=>⟨b,c,a⟩)
theorem Tk.num {h:Nat->Prop} {p:PW} (x:Tk h p) {t:Nat} (c:p.k t=6):(0<=p.t t 10∧p.t t 10<=3)∧(0<=p.t t 18∧p.t t 18<=(p.IJ.length:Int) - 1)∧rdN p t<p.ready.length:=by
 have a:=x.a.ok t c 10 oD;have b:=x.a.ok t c 18 oD;have a:=aA a;have b:=aA b;refine⟨a,b,?_⟩;have:=x.lf.ready;show (p.t t 18*4+p.t t 10).toNat<_
 omega
theorem Tk.JG {h b:Nat->Prop} {p:PW} (x:Tk h p) {L R:List (List Int)} {B C:List Int} (y:TkQ b {p with lines:=L,bits:=B,ready:=R,IJ:=C}) (e7:L.length=p.lines.length:=by first|rfl|simp[lvs]) (e8:B.length=p.bits.length:=by first|rfl|simp) (e9:R.length=p.ready.length:=by first|rfl|simp[lvs]) (e2:C.length=p.IJ.length:=by first|rfl|simp):Tk b {p with lines:=L,bits:=B,ready:=R,IJ:=C}:=
 ⟨x.lf.of (e2:=e2) (e7:=e7) (e8:=e8) (e9:=e9),x.a.to rfl rfl e2,x.o.to (fun _=>rfl) (fun _=>rfl),y⟩
theorem Tk.JK {p:PW} {t:Nat} (x:Tk (Hnd t) p) (b:p.t t 9=1) (a:p.t t 14= -1):Tk Nbd {p with ready:=p.ready.set (rdN p t) (p.re (rdN p t)++[(t:Int)])}:=
 x.JG (B:=p.bits) (L:=p.lines) (C:=p.IJ) (x.q.ready b a (x.num x.hh).2.2)
theorem Bo {p:PW} {t:Nat} (a:t<p.II.length) (n j i:Nat):(wnP p t i).t n j=if n=t∧j=14 then -1 else if n=t∧j=9 then 1 else p.t n j:=by
 show ((p.task t 9 1).task t 14 (-1)).t n j=_
 rw[fV (by rw[ap];exact a),fV a]
theorem TkQ.Jd {p:PW} {t:Nat} (x:TkQ (Hnd t) p) (a:t<p.II.length) (hi:rdN p t<p.ready.length):TkQ Nbd (wnP p t (rdN p t)):=by
 have b:t<(p.task t 9 1).II.length:=by rw[ap];exact a
 have e:rdN ((p.task t 9 1).task t 14 (-1)) t=rdN p t:=na (by rw[fV b,ae oA,fV a,ae oA]) (by rw[fV b,ae oA,fV a,ae oA]);have y:=(x.to (q:=(p.task t 9 1).task t 14 (-1)) rfl (fun n c j _=>by rw[fV b,ae (fun y=>c y.1),fV a,ae (fun y=>c y.1)]) rfl rfl rfl rfl).ready (by rw[fV b,ae oA,fV a,ag ⟨rfl,rfl⟩]) (by rw[fV b,ag ⟨rfl,rfl⟩]) (by rw[e];exact hi);rw[e] at y;exact y
theorem TkA.Jd {p:PW} {t i:Nat} (x:TkA p) (a:p.k t=6) (b:t<p.II.length):TkA (wnP p t i):=
 ((x.JB b a (k:=9) (v:=1) rfl).JB (by rw[ap];exact b) a (k:=14) (v:= -1) rfl).to rfl rfl rfl
theorem LF.Jd {p:PW} (h:LF p) (t i:Nat):LF (wnP p t i):=h.of (e6:=by show ((p.task t 9 1).task t 14 (-1)).II.length=_;rw[ap,ap]) (e9:=by show (p.ready.set _ _).length=_;simp)
theorem Tk.Jd {p:PW} {t:Nat} (x:Tk (Hnd t) p) (d:p.t t 9≠5):Tk Nbd (wnP p t (rdN p t)):=by
 have b:=x.tl x.hh;have c:(wnP p t (rdN p t)).t t 9=1:=by rw[Bo b,ae oA,ag ⟨rfl,rfl⟩]
 exact⟨x.lf.Jd _ _,x.a.Jd x.hh b,x.o.st t (fun n=>by rw[Bo b,ae oA,ae oA]) (fun n f=>by rw[Bo b,ae oA,ae (fun y=>f y.1)]) d (by rw[c];decide) (by rw[c];intro e;cases e),x.q.Jd b (x.num x.hh).2.2⟩
theorem TkQ.J9 {p:PW} (x:TkQ Nbd p) {t:Nat} (d:p.k t=6) (f:p.t t 9=0∨p.t t 9=5):TkQ (Hnd t) p:=by
 have w:=x.wp d id;have g:pl (p.t t 9)=0:=by rcases f with e|e<;>rw[e]<;>rfl
 have b:p.t t 9≠1:=oA;exact x.pick (L:=p.lines) (R:=p.ready) (C:=p.IJ) d (fun a z=>gH (fun e=>(w.ln a e).1 g) z) x.lu (fun i z=>gH (fun e=>b (w.rd i e).1) z) x.ru (so fun c e=>b (w.cr c e).1)
theorem Tk.J9 {p:PW} (x:Tk Nbd p) {t:Nat} (b:p.k t=6) (c:p.t t 9=0∨p.t t 9=5):Tk (Hnd t) p:=⟨x.lf,x.a,x.o,x.q.J9 b c⟩
theorem Tk.start {p:PW} (x:Tk Nbd p) {t:Nat} (a:p.k t=6) (b:p.t t 9=0):Tk Nbd (wnP p t (rdN p t)):=(x.J9 a (.inl b)).Jd oA
section
variable {α : Type} {p : α -> Bool} {l m : List α} {i j : Nat}
end
section
variable {α : Type} (f : α -> α) (k : Nat) (l : List α)
end
def wkP (p:PW) (t n:Nat):PW:={(lvP p t).task t 9 1 with ready:=(lvs t p.ready).set n ((lvs t p.ready).getD n []++[(t:Int)])}
