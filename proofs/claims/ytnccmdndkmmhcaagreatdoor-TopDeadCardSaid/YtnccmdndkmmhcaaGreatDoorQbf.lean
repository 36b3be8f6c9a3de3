/- Qbf -/
import Derived.BigGuard
import Derived.BigCall
import Derived.Deep.RegionHeld3
import Derived.BigQuiet
import Derived.Test.YtnccmdndkmmhcaaGreatDoorQbe
set_option maxRecDepth 100000
set_option maxHeartbeats 16000000
namespace Go.Proofs.YtnccmdndkmmhcaaGreatDoor
namespace Wd
open Go.RowKit Mem Bw Nums Mmu
theorem iH (N:Nat) (first:Array Value) (bad:Nat->Int->Bool) (e:Int) (v:Value) (zs:List Int) (w:World) (hv:ei w v zs) (hl:zs.length<=1000) (s:∀f (W:World),(callFunc N f).run Tryz.prog W=.ok (.enter N f) W)
  (hF:∀(k:Nat) (hk:k<zs.length),bad k zs[k]=false)
  (hC:∀(k:Nat) (hk:k<zs.length) (W:World),Below w.heap.size w W->Calls Tryz.prog N (first++#[.int .i64 k,.int .i64 zs[k]]) W fun r w'=>r=.returned (.bool (bad k zs[k]))∧Below W.heap.size W w'):
  Calls Tryz.prog 46 #[.nilIface,v,.func (.func N) first #[],.int .i64 e] w fun r w'=>r=.returned .nilIface∧Below w.heap.size w w':=by
 obtain⟨q,b,off,cap,rfl,n,p⟩:=hv;have j:=hid n;have l:=hid p;have h:=hid hC;have u:(zs.length:Int)<=1000:=oA;go_enter Tryz.func46,Tryz.ntmps46
 go_wp2_with fail
 go_loopw [16] (fun i wr=>∃k:Nat,k<=zs.length∧i=.int .i64 k∧Hid (Below w.heap.size w wr)) (fun i _=>zs.length - (intOf i).toNat)
 case atStart=>exact⟨0,oA,rfl,hid (af _ _)⟩
 case round=>
  obtain⟨k,hk,rfl,a⟩:=hrel;by_cases d:k<zs.length
  ·have x:(k:Int)<(zs.length:Int):=oA;have o:=j.out oA;subst o;have c0:=(l.below a) k d;have c:=hid (h.out k d wr a);rw[hF k d] at c;generalize zs[k]=z at c0 c;go_wp2_with fail
   refine c.mono ?_;rintro r w1 ⟨rfl,m⟩;have g:=hid (btr a m);go_wp2_with fail
   exact⟨⟨k+1,oA,by go_num,g⟩,by simp[intOf];omega⟩
  ·obtain rfl:k=zs.length:=oA;have t:¬((zs.length:Int)<(zs.length:Int)):=oA;go_wp2_with fail
   go_ret
   exact⟨rfl,a.out⟩
theorem sw (N:Nat) (first:Array Value) (bad:Nat->(Nat->Int)->Bool) (e:Int) (v:Value) (zs:List (Nat->Int)) (w:World) (hv:RowsIn 7 w v zs) (hl:zs.length<=1000) (F:∀m (W:World),(callFunc N m).run Tryz.prog W=.ok (.enter N m) W)
  (hF:∀(k:Nat) (hk:k<zs.length),bad k zs[k]=false)
  (hC:∀(k:Nat) (hk:k<zs.length) (W:World),Below w.heap.size w W->Calls Tryz.prog N (first++#[.int .i64 k,.agg (cf 7 zs[k]).toArray]) W fun r w'=>r=.returned (.bool (bad k zs[k]))∧Below W.heap.size W w'):
  Calls Tryz.prog 50 #[.nilIface,v,.func (.func N) first #[],.int .i64 e] w fun r w'=>r=.returned .nilIface∧Below w.heap.size w w':=by
 obtain⟨q,b,off,cap,rfl,C,E⟩:=hv;have s:=hid C;have u:=hid E;have p:=hid hC;have H:(zs.length:Int)<=1000:=oA;go_enter Tryz.func50,Tryz.ntmps50
 go_wp2_with fail
 go_loopw [16] (fun i wr=>∃k:Nat,k<=zs.length∧i=.int .i64 k∧Hid (Below w.heap.size w wr)) (fun i _=>zs.length - (intOf i).toNat)
 case atStart=>exact⟨0,oA,rfl,hid (af _ _)⟩
 case round=>
  obtain⟨k,hk,rfl,a⟩:=hrel;by_cases f:k<zs.length
  ·have I:(k:Int)<(zs.length:Int):=oA;have D:=s.out oA;subst D;have l:=hid (cW (u.out k f) a);have d:=hid (p.out k f);rw[hF k f] at d;generalize zs[k]=z at l d;have j:=hid (aP wr zV 34 wr.heap.size 7 rfl oD);have h:=hid (World.rangeAt_setCells_same _ wr.heap.size 0 (cf 7 z) (by rw[ay];exact j));have c:=hid (bR (bal (af wr.heap.size wr) (.cells zV 34)) (aq _) (cf 7 z) 0);have n:(Tryz.prog.info? 34).map (·.size)=some (cf 7 z).length:=by rw[ay];exact GO
   have g:=hid n;have t:=hid (show (Tryz.prog.info? 34).map (·.size)=some (cf 7 z).toArray.size by rw[eB];exact n);have A:(cf 7 z).toArray.size=7:=by simp[gW]
   have x:=hid (show (wr.alloc (.cells zV 34)).there wr.heap.size 0 (cf 7 z).toArray.size by rw[A];exact j);go_wp2_with (first
    |((with_reducible refine gst 34 ?_);refine wpList_store_mid rfl 34 _ _ rfl wr.heap.size 0 (cf 7 z).toArray rfl rfl x t (all_oneCell_toArray (bQ 7 z)) ?_;generalize World.setCells _ _ _ _=y at h c ⊢)
    |((with_reducible refine gld 34 ?_);refine wpList_load_mid rfl 34 _ rfl b (off+k*7) rfl (cf 7 z) _ l Tryz.underlying34 rfl g ?_)
    |((with_reducible refine gld 34 ?_);refine wpList_load_mid rfl 34 _ rfl wr.heap.size 0 rfl (cf 7 z) _ h Tryz.underlying34 rfl g ?_))
   refine (d.out y (btr a c)).mono ?_;rintro r w1 ⟨rfl,B⟩;have o:=hid (btr (btr a c) B);go_wp2_with fail
   exact⟨⟨k+1,oA,by go_num,o⟩,by simp[intOf];omega⟩
  ·obtain rfl:k=zs.length:=oA;have G:¬((zs.length:Int)<(zs.length:Int)):=oA;go_wp2_with fail
   go_ret
   exact⟨rfl,a.out⟩
theorem sx (N:Nat) (first:Array Value) (bad:Nat->(Nat->Int)->Bool) (e:Int) (v:Value) (zs:List (Nat->Int)) (w:World) (hv:RowsIn 20 w v zs) (hl:zs.length<=1000) (F:∀m (W:World),(callFunc N m).run Tryz.prog W=.ok (.enter N m) W)
  (hF:∀(k:Nat) (hk:k<zs.length),bad k zs[k]=false)
  (hC:∀(k:Nat) (hk:k<zs.length) (W:World),Below w.heap.size w W->Calls Tryz.prog N (first++#[.int .i64 k,.agg (cf 20 zs[k]).toArray]) W fun r w'=>r=.returned (.bool (bad k zs[k]))∧Below W.heap.size W w'):
  Calls Tryz.prog 53 #[.nilIface,v,.func (.func N) first #[],.int .i64 e] w fun r w'=>r=.returned .nilIface∧Below w.heap.size w w':=by
 obtain⟨q,b,off,cap,rfl,C,E⟩:=hv;have s:=hid C;have u:=hid E;have p:=hid hC;have H:(zs.length:Int)<=1000:=oA;go_enter Tryz.func53,Tryz.ntmps53
 go_wp2_with fail
 go_loopw [16] (fun i wr=>∃k:Nat,k<=zs.length∧i=.int .i64 k∧Hid (Below w.heap.size w wr)) (fun i _=>zs.length - (intOf i).toNat)
 case atStart=>exact⟨0,oA,rfl,hid (af _ _)⟩
 case round=>
  obtain⟨k,hk,rfl,a⟩:=hrel;by_cases f:k<zs.length
  ·have I:(k:Int)<(zs.length:Int):=oA;have D:=s.out oA;subst D;have l:=hid (cW (u.out k f) a);have d:=hid (p.out k f);rw[hF k f] at d;generalize zs[k]=z at l d;have j:=hid (aP wr zT 37 wr.heap.size 20 rfl oD);have h:=hid (World.rangeAt_setCells_same _ wr.heap.size 0 (cf 20 z) (by rw[ay];exact j));have c:=hid (bR (bal (af wr.heap.size wr) (.cells zT 37)) (aq _) (cf 20 z) 0);have n:(Tryz.prog.info? 37).map (·.size)=some (cf 20 z).length:=by rw[ay];exact gA
   have g:=hid n;have t:=hid (show (Tryz.prog.info? 37).map (·.size)=some (cf 20 z).toArray.size by rw[eB];exact n);have A:(cf 20 z).toArray.size=20:=by simp[gW]
   have x:=hid (show (wr.alloc (.cells zT 37)).there wr.heap.size 0 (cf 20 z).toArray.size by rw[A];exact j);go_wp2_with (first
    |((with_reducible refine gst 37 ?_);refine wpList_store_mid rfl 37 _ _ rfl wr.heap.size 0 (cf 20 z).toArray rfl rfl x t (all_oneCell_toArray (bQ 20 z)) ?_;generalize World.setCells _ _ _ _=y at h c ⊢)
    |((with_reducible refine gld 37 ?_);refine wpList_load_mid rfl 37 _ rfl b (off+k*20) rfl (cf 20 z) _ l Tryz.underlying37 rfl g ?_)
    |((with_reducible refine gld 37 ?_);refine wpList_load_mid rfl 37 _ rfl wr.heap.size 0 rfl (cf 20 z) _ h Tryz.underlying37 rfl g ?_))
   refine (d.out y (btr a c)).mono ?_;rintro r w1 ⟨rfl,B⟩;have o:=hid (btr (btr a c) B);go_wp2_with fail
   exact⟨⟨k+1,oA,by go_num,o⟩,by simp[intOf];omega⟩
  ·obtain rfl:k=zs.length:=oA;have G:¬((zs.length:Int)<(zs.length:Int)):=oA;go_wp2_with fail
   go_ret
   exact⟨rfl,a.out⟩
theorem mL (N:Nat) (first:Array Value) (bad:Nat->List Int->Bool) (e:Int) (v:Value) (zs:List (List Int)) (w:World) (hv:gj w v zs) (hl:zs.length<=1000) (u:∀f (W:World),(callFunc N f).run Tryz.prog W=.ok (.enter N f) W)
  (hF:∀(k:Nat) (hk:k<zs.length),bad k zs[k]=false)
  (hC:∀(k:Nat) (hk:k<zs.length) (W:World) (x:Value),Below w.heap.size w W->ei W x zs[k]->Calls Tryz.prog N (first++#[.int .i64 k,x]) W fun r w'=>r=.returned (.bool (bad k zs[k]))∧Below W.heap.size W w'):
  Calls Tryz.prog 55 #[.nilIface,v,.func (.func N) first #[],.int .i64 e] w fun r w'=>r=.returned .nilIface∧Below w.heap.size w w':=by
 obtain⟨q,b,off,cap,rfl,o,t⟩:=hv;have l:=hid o;have m:=hid t;have j:=hid hC;have B:(zs.length:Int)<=1000:=oA;go_enter Tryz.func55,Tryz.ntmps55
 go_wp2_with fail
 go_loopw [16] (fun i wr=>∃k:Nat,k<=zs.length∧i=.int .i64 k∧Hid (Below w.heap.size w wr)) (fun i _=>zs.length - (intOf i).toNat)
 case atStart=>exact⟨0,oA,rfl,hid (af _ _)⟩
 case round=>
  obtain⟨k,hk,rfl,a⟩:=hrel;by_cases d:k<zs.length
  ·have C:(k:Int)<(zs.length:Int):=oA;have p:=l.out oA;subst p;obtain⟨y,g,s⟩:=m.out k d;have c0:=(a.cell (aj _ _ g)).trans g;have c:=hid (j.out k d wr y a (s.below a));rw[hF k d] at c;generalize zs[k]=z at c;go_wp2_with fail
   refine c.mono ?_;rintro r w1 ⟨rfl,n⟩;have h:=hid (btr a n);go_wp2_with fail
   exact⟨⟨k+1,oA,by go_num,h⟩,by simp[intOf];omega⟩
  ·obtain rfl:k=zs.length:=oA;have A:¬((zs.length:Int)<(zs.length:Int)):=oA;go_wp2_with fail
   go_ret
   exact⟨rfl,a.out⟩
theorem vm (N:Nat) (first:Array Value) (bad:Nat->List Ent->Bool) (e:Int) (v:Value) (zs:List (List Ent)) (w:World) (hv:iD w v zs) (hl:zs.length<=1000) (u:∀f (W:World),(callFunc N f).run Tryz.prog W=.ok (.enter N f) W)
  (hF:∀(k:Nat) (hk:k<zs.length),bad k zs[k]=false)
  (hC:∀(k:Nat) (hk:k<zs.length) (W:World) (x:Value),Below w.heap.size w W->i9 W x zs[k]->vM x->Calls Tryz.prog N (first++#[.int .i64 k,x]) W fun r w'=>r=.returned (.bool (bad k zs[k]))∧Below W.heap.size W w'):
  Calls Tryz.prog 60 #[.nilIface,v,.func (.func N) first #[],.int .i64 e] w fun r w'=>r=.returned .nilIface∧Below w.heap.size w w':=by
 obtain⟨q,b,off,cap,rfl,p,t⟩:=hv;have m:=hid p;have n:=hid t;have l:=hid hC;have B:(zs.length:Int)<=1000:=oA;go_enter Tryz.func60,Tryz.ntmps60
 go_wp2_with fail
 go_loopw [16] (fun i wr=>∃k:Nat,k<=zs.length∧i=.int .i64 k∧Hid (Below w.heap.size w wr)) (fun i _=>zs.length - (intOf i).toNat)
 case atStart=>exact⟨0,oA,rfl,hid (af _ _)⟩
 case round=>
  obtain⟨k,hk,rfl,a⟩:=hrel;by_cases d:k<zs.length
  ·have C:(k:Int)<(zs.length:Int):=oA;have s:=m.out oA;subst s;obtain⟨y,g,h⟩:=n.out k d;have c0:=(a.cell (aj _ _ g)).trans g;have c:=hid (l.out k d wr y a (h.1.below a) h.2);rw[hF k d] at c;generalize zs[k]=z at c;go_wp2_with fail
   refine c.mono ?_;rintro r w1 ⟨rfl,o⟩;have j:=hid (btr a o);go_wp2_with fail
   exact⟨⟨k+1,oA,by go_num,j⟩,by simp[intOf];omega⟩
  ·obtain rfl:k=zs.length:=oA;have A:¬((zs.length:Int)<(zs.length:Int)):=oA;go_wp2_with fail
   go_ret
   exact⟨rfl,a.out⟩
theorem tv (V:Nat->Value) (p:PW) (w:World) (hv:fp w V p) (T:p.Fits) (C:Snd p):
  Calls Tryz.prog 12 #[.agg (de V)] w fun r w'=>r=.returned .nilIface∧Below w.heap.size w w':=by
 have P:=hid (oH w V 28);have M:=hid (bal (af w.heap.size w) (.cells (de V) 28));have d:=hid T;have c:=hid C;have N:=hid (su V p (w.alloc (.cells (de V) 28)) (hv.below M) T C.lf);have ap:=hid hv;have U:=hv.time;go_enter Tryz.func12,Tryz.ntmps12
 go_wp2_with (first|((with_reducible refine gld 28 ?_);refine iA oR _ rfl _ rfl V P ?_))
 generalize World.alloc _ _=W0 at*;refine N.mono ?_;rintro r w1 ⟨rfl,a⟩;have X:=hid a;have Q:=hid (bK P a);have G:=r11 10 Q;rw[U] at G;clear a N U;have e:=hid C.lf;go_wp2_with fail
 refine (nf p.time 0 1000000 _).mono ?_;rintro r w2 ⟨rfl,rfl⟩;have hw:=C.tm;have D:=hid (btr (btr M X) (bal (af w1.heap.size w1) (.cells (de V) 77)));have R:=hid (show (w1.alloc (.cells (de V) 77)).rangeAt w1.heap.size 0 (de V).toList from oH w1 V 77);clear G;go_upto_region 4 with (first|((with_reducible refine gld 28 ?_);refine iA oR _ rfl _ rfl V Q ?_))
 generalize w1.heap.size=vb at*;generalize World.alloc _ _=v0 at D R ⊢;have b:=hid (show ∀W,Below v0.heap.size v0 W->ec W vb V p from fun W a=>⟨bK R a,ap.below (btr D a),d.out⟩);have n:=hid (af v0.heap.size v0);have g0:v0.cell? ⟨vb,0,none⟩=some (V 0):=ai (b.out v0 n).r rfl;have Z:=hid (iH 47 #[] (fun _ x=>nwB x) 1 (V 0) p.IE v0 ((b.out v0 n).v.IE) d.IE Ic c.b0 (fun k hk W a=>(vr k _ W).mono fun _ _ h=>⟨h.1,h.2▸af _ _⟩));go_wp2_with fail
 refine Z.mono ?_;rintro r v1 ⟨rfl,a⟩;have E:=hid (btr n a);have O:=hid (fun (k:Nat) (hk:k<p.IE.length)=>GZ (c.b0 k hk));have ao:=hid (fun W (a:Below v0.heap.size v0 W)=>FK (b.out W (btr n a)).v e O);have g1:=r11 1 (b.out v1 E).r;have aa:=hid (iH 48 #[] (fun _ x=>nkB x) 3 (V 1) p.kinds v1 ((b.out v1 E).v.kinds) d.kinds Ie c.b1 (fun k hk W a=>(vq k _ W).mono fun _ _ h=>⟨h.1,h.2▸af _ _⟩));go_wp2_with fail
 refine aa.mono ?_;rintro r v2 ⟨rfl,a⟩;have F:=hid (btr E a);have g2:=r11 9 (b.out v2 F).r;have ac:=hid (iH 49 #[] (fun _ x=>nd x) 2 (V 9) p.IG v2 ((b.out v2 F).v.IG) d.IG If c.b2 (fun k hk W a=>(xJ k _ W).mono fun _ _ h=>⟨h.1,h.2▸af _ _⟩));go_wp2_with fail
 refine ac.mono ?_;rintro r v3 ⟨rfl,a⟩;have o:=hid (btr F a);have g3:=r11 2 (b.out v3 o).r;have ad:=hid (sw 51 #[.pointer (some ⟨vb,0,none⟩)] (fun k s=>bsB p (p.kinds.getD (k/16) 0) s) 8 (V 2) p.IA v3 ((b.out v3 o).v.IA) d.IA Ig c.b3 (fun k hk W a=>by
   have i:k/16<p.kinds.length:=by have:=e.IA;omega
   have g:=c.b3 k hk;rw[show DK p k p.IA[k]=bsB p p.kinds[k/16] p.IA[k] by rw[<-jU i];rfl] at g;exact (uQ vb V p k (k/16) p.IA[k] W (b.out W (btr o a)) oA i g).mono fun _ _ h=>⟨h.1.trans (by rw[<-c.b3 k hk];rfl),h.2⟩))
 go_wp2_with fail
 refine ad.mono ?_;rintro r v4 ⟨rfl,a⟩;have q:=hid (btr o a);have an:=hid (Fb (fun k hk=>c.b3 k hk));have g4:=r11 1 (b.out v4 q).r;have ae:=hid (iH 52 #[.pointer (some ⟨vb,0,none⟩)] (fun k x=>bfB p k x) 8 (V 1) p.kinds v4 ((b.out v4 q).v.kinds) d.kinds Ih c.b4 (fun k hk W a=>(pR vb V p k _ W (b.out W (btr q a)) an)));go_wp2_with fail
 refine ae.mono ?_;rintro r v5 ⟨rfl,a⟩;have u:=hid (btr q a);have g5:=r11 3 (b.out v5 u).r;have ag:=hid (sx 54 #[.pointer (some ⟨vb,0,none⟩)] (fun k f=>btB p k (p.kinds.getD k 0) f) 8 (V 3) p.IB v5 ((b.out v5 u).v.IB) d.IB Ii c.b5 (fun k hk W a=>by
   have i:k<p.kinds.length:=by have:=e.IB;omega
   have g:=c.b5 k hk;rw[show DL p k p.IB[k]=btB p k p.kinds[k] p.IB[k] by rw[<-jU i];rfl] at g;exact (uR vb V p k p.IB[k] W (b.out W (btr u a)) i e.IB e.lines g).mono fun _ _ h=>⟨h.1.trans (by rw[<-c.b5 k hk];rfl),h.2⟩))
 go_wp2_with fail
 refine ag.mono ?_;rintro r I ⟨rfl,a⟩;have y:=hid (btr u a);have g6:=r11 4 (b.out I y).r;have ah:=hid (mL 56 #[.pointer (some ⟨vb,0,none⟩)] (fun k l=>blB p k (p.kinds.getD k 0) (p.bits.getD k 0) l) 8 (V 4) p.lines I ((b.out I y).v.lines) d.lines Ij c.b6 (fun k hk W x a m=>by
   have i:k<p.kinds.length:=by have:=e.lines;omega
   have S:k<p.bits.length:=by have:=e.lines;have:=e.bits;omega
   have:=rQ vb V p k x p.lines[k] W (b.out W (btr y a)) e.IB i S m (d.line _ (av hk));rw[<-jU i, <-jU S] at this;exact this))
 go_wp2_with fail
 refine ah.mono ?_;rintro r J ⟨rfl,a⟩;have z:=hid (btr y a);have g7:=r11 6 (b.out J z).r;have aj:=hid (iH 57 #[.pointer (some ⟨vb,0,none⟩)] (fun k t=>bcB p k t) 8 (V 6) p.IC J ((b.out J z).v.IC) d.IC Ik c.b7 (fun k hk W a=>(rP vb V p k _ W (b.out W (btr z a)) e.IB).mono fun _ _ h=>⟨h.1,h.2▸af _ _⟩));go_wp2_with fail
 refine aj.mono ?_;rintro r K ⟨rfl,a⟩;have A:=hid (btr z a);have g8:=r11 7 (b.out K A).r;have al:=hid (mL 58 #[.pointer (some ⟨vb,0,none⟩)] (fun k l=>brB p k l) 8 (V 7) p.ready K ((b.out K A).v.ready) d.ready Il c.b8 (fun k hk W x a m=>(pU vb V p k x _ W (b.out W (btr A a)) e.IB m (d.next _ (av hk)) (by have:=d.ready;omega)).mono fun _ _ h=>⟨h.1,h.2▸af _ _⟩));go_wp2_with fail
 refine al.mono ?_;rintro r L ⟨rfl,a⟩;have B:=hid (btr A a);have g9:=r11 0 (b.out L B).r;have am:=hid (iH 59 #[.pointer (some ⟨vb,0,none⟩)] (fun k x=>beB p (p.kinds.getD (k/16) 0) x) 9 (V 0) p.IE L ((b.out L B).v.IE) d.IE Im c.b9 (fun k hk W a=>by
   have i:k/16<p.kinds.length:=by have:=e.IE;omega
   have:=pQ vb V p k (k/16) p.IE[k] W (b.out W (btr B a)) (by have:=d.IE;omega) oA i (O.out k hk);rw[<-jU i] at this;exact this.mono fun _ _ h=>⟨h.1,h.2▸af _ _⟩))
 go_wp2_with fail
 refine am.mono ?_;rintro r H ⟨rfl,a⟩;have j:=hid (btr B a);have G:=r11 8 (b.out H j).r;have ab:=hid (vm 61 #[.pointer (some ⟨vb,0,none⟩)] (fun _ l=>bmB p l) 9 (V 8) p.ID H ((b.out H j).v.ID) d.ID Gp c.Kb (fun k hk W x a m hm=>oG vb V p k x _ W (b.out W (btr j a)) (ao.out W (btr j a)) m hm));go_wp2_with fail
 refine ab.mono ?_;rintro r v11 ⟨rfl,a⟩;have Y:=hid (btr j a);go_wp2_with fail
 go_ret
 exact⟨rfl,btr D Y⟩
theorem GF {p:PW} (s:rK p=true) (N:Nat) (caps:Array Value) (ok:World->Prop) (V:Nat->Value) (_:PW) (p':PW) (e:Int) (w:World) (hv:fp w V p) (K:p.Fits) (hN:∀E (W:World),(callFunc N E).run Tryz.prog W=.ok (.enter N E) W)
  (J:∀W,Below w.heap.size w W->ok W) (I:Snd p->Bu N caps ok eV p p' e):
  Calls Tryz.prog 72 #[.agg (de V),.func (.func N) #[] caps] w fun r w'=>∃X,r=.returned (.tuple #[.agg (de X),eV (dE p e)])∧uO w' w.heap.size X (dP p p' e)∧Below w.heap.size w w':=by
 have D:=oH w V 28;have C:=hid (bK D (bal (af _ (w.alloc (.cells (de V) 28))) (.cells zW 28)));have t:=hid (bal (bal (af w.heap.size w) (.cells (de V) 28)) (.cells zW 28));have T0:=hid (aP (w.alloc (.cells (de V) 28)) zW 28 (w.heap.size+1) 11 oS oD);have m:=hid hv;have A:=hid K;have Q:=hid I;have z:=hid J;have S:=hid (show w.heap.size+1<((w.alloc (.cells (de V) 28)).alloc (.cells zW 28)).heap.size by simp);clear hv K I J D;go_enter Tryz.func72,Tryz.ntmps72
 go_wp2_with (first|((with_reducible refine gld 28 ?_);refine iA oR _ rfl _ rfl V C ?_))
 generalize World.alloc _ _=W0 at*;refine (tv V p W0 (m.below t) A (oq s)).mono ?_;rintro r w1 ⟨rfl,a⟩;have A1:=hid a;have u:=hid (btr t a);have T1:=hid (ct T0 a);have Y:=hid (bK C a);have T:=hid (aE S a.size);have XV:=hid (lj w1);have zo:=hid (gQ (lj w1));have R:=hid (oq s);have g:=hid (show dE p e=e by unfold dE;rw[s];rfl);go_wp2_with (first|((with_reducible refine gld 28 ?_);refine iA oR _ rfl _ rfl V Y ?_))
 refine (AF V p w1 (m.below u) A).mono ?_;rintro r w2 ⟨U,L,rfl,H,aa,G,a⟩;have o:=hid (aP w2 zW 28 w2.heap.size 11 rfl oD);have x:=hid (btr u a);have c:=hid (aD (Nat.succ_le_of_lt T) aa);have T2:=hid (ct T1 a);have one:=hid (gQ (H.v (sT m.ID)));have O:=hid (show DI ((w2.alloc (.cells zW 28)).setCells w2.heap.size 0 (de U).toList) w2.heap.size L U p from
  ⟨World.rangeAt_setCells_same _ w2.heap.size 0 (de U).toList o,gH _ 0 _ o,ng (H.below (bal (af _ w2) (.cells zW 28))) G _ 0,G,by rw[fy];simp⟩)
 have j:=hid (bR (bal x (.cells zW 28)) x.size (de U).toList 0);have T3:=hid (gH (B:=w2.heap.size) (de U).toList 0 _ (ct T2 (bal (af _ w2) (.cells zW 28))));go_wp2_with (first|((with_reducible refine gst 28 ?_);refine wpList_store_mid rfl 28 _ _ rfl w2.heap.size 0 (de U) rfl rfl o fD one ?_))
 generalize World.setCells _ _ _ _=W3 at*;refine (Q.out R W3 w2.heap.size L U O (z.out _ j) (fun _ h=>z.out _ (j.trans (h.mono (by have:=c.out;omega))))).mono ?_;rintro r M ⟨rfl,F,h5⟩;have y:=hid (j.trans (F.mono (by have:=c.out;omega)));have i:=hid (sS T3 F (by have:=c.out;omega));have P:=hid h5;by_cases d:e=0
 rotate_left
 ·have l:=hid (show dP p p' e=noP by unfold dP;rw[g.out,ae d]);have b:=hid (GI d);have n:=hid (World.rangeAt_setCells_same M (w.heap.size+1) 0 (de tc).toList i);have k:=hid (bR y (show w.heap.size<=w.heap.size+1 by omega) (de tc).toList 0);rw[b.out];go_wp2_with (first|((with_reducible refine gst 28 ?_);refine wpList_store_mid rfl 28 _ _ rfl (w.heap.size+1) 0 (de tc) rfl rfl i fD zo ?_))
  exact ar (v:=.tuple #[.agg (de tc),.iface 45 (.int .i64 e)]) (iI rfl rfl (run_loadVar_mid _ (w.heap.size+1) 0 28 (de tc).toList _ n Tryz.underlying28 rfl fD) rfl) rfl ⟨tc,by rw[g.out,b.out],by rw[l.out];exact⟨fun _ _=>lj _,.inl rfl⟩,k.out⟩
 obtain⟨X,q⟩:=P.out d;have b:=hid (show eV e=.nilIface by rw[d];rfl);have l:=hid (show dP p p' e=p' by unfold dP;rw[g.out,ag d]);have ab:=hid (gQ q.f.v0);have Z:=hid q.r;have n:=hid (World.rangeAt_setCells_same M (w.heap.size+1) 0 (de X).toList i);have k:=hid (bR y (show w.heap.size<=w.heap.size+1 by omega) (de X).toList 0);have WX:=hid ((q.f.put (w.heap.size+1) 0 (de X).toList (by have:=c.out;omega)).mono (show w.heap.size<=L 0 by have:=c.out;omega));rw[b.out];go_wp2_with (first|((with_reducible refine gld 28 ?_);refine iA oR _ rfl _ rfl X Z ?_)|((with_reducible refine gst 28 ?_);refine wpList_store_mid rfl 28 _ _ rfl (w.heap.size+1) 0 (de X) rfl rfl i fD ab ?_))
 exact ar (v:=.tuple #[.agg (de X),.nilIface]) (iI rfl rfl (run_loadVar_mid _ (w.heap.size+1) 0 28 (de X).toList _ n Tryz.underlying28 rfl fD) rfl) rfl ⟨X,by rw[g.out,b.out],by rw[l.out];exact WX,k.out⟩
theorem Ds {p:PW} (H:rK p=true) (b:Nat) (V:Nat->Value) (_:PW) (P:PW) (a:Int) (c0:Nat) (w:World) (hv:fp w V p) (s:p.Fits) (f:w.cell? ⟨c0,0,none⟩=some (.int .i64 a)) (o:∀l∈P.ID,l.length<=100) (r:Snd p->∀c1 c2,rM 156 #[ptr c1,ptr c2] (jc [(c1,.int .i64 a),(c2,.func (.func b) #[] #[.pointer (some ⟨c0,0,none⟩)]),(c0,.int .i64 a)]) eV p P (fF p a)):
  Calls Tryz.prog 79 #[.agg (de V),.int .i64 a,.func (.func b) #[] #[.pointer (some ⟨c0,0,none⟩)]] w fun x w'=>∃X,x=.returned (.tuple #[.agg (de X),eV (dE p (fF p a))])∧uO w' w.heap.size X (dP p P (fF p a))∧Below w.heap.size w w':=by
 have g:=oH w V 28;have i:=bK g (bal (af _ (w.alloc (.cells (de V) 28))) (.cells #[.int .i64 a] 3));have j:=bK i (bal (af _ ((w.alloc (.cells (de V) 28)).alloc (.cells #[.int .i64 a] 3))) (.cells #[.func (.func b) #[] #[.pointer (some ⟨c0,0,none⟩)]] 100));have k:=bK j (bal (af _ (((w.alloc (.cells (de V) 28)).alloc (.cells #[.int .i64 a] 3)).alloc (.cells #[.func (.func b) #[] #[.pointer (some ⟨c0,0,none⟩)]] 100))) (.cells zW 28));have C:=hid k;have d:=hid (bal (bal (bal (bal (af w.heap.size w) (.cells (de V) 28)) (.cells #[.int .i64 a] 3)) (.cells #[.func (.func b) #[] #[.pointer (some ⟨c0,0,none⟩)]] 100)) (.cells zW 28));have u:=(fh (fh (iq (w.alloc (.cells (de V) 28)) #[.int .i64 a] 3 (w.heap.size+1) oS) oS (.cells #[.func (.func b) #[] #[.pointer (some ⟨c0,0,none⟩)]] 100)) oS (.cells zW 28)) 0;have y:=(fh (iq ((w.alloc (.cells (de V) 28)).alloc (.cells #[.int .i64 a] 3)) #[.func (.func b) #[] #[.pointer (some ⟨c0,0,none⟩)]] 100 (w.heap.size+2) oS) oS (.cells zW 28)) 0;have z:=(d.cell (aj _ _ f)).trans f;have B:=hid (show AK [((w.heap.size+1),.int .i64 a),((w.heap.size+2),.func (.func b) #[] #[.pointer (some ⟨c0,0,none⟩)]),(c0,.int .i64 a)] ((((w.alloc (.cells (de V) 28)).alloc (.cells #[.int .i64 a] 3)).alloc (.cells #[.func (.func b) #[] #[.pointer (some ⟨c0,0,none⟩)]] 100)).alloc (.cells zW 28)) from fun x t=>by
  simp only[bL,dA,or_false] at t;rcases t with rfl|rfl|rfl
  ·exact u
  ·exact y
  ·exact z)
 have m:=hid (show ((((w.alloc (.cells (de V) 28)).alloc (.cells #[.int .i64 a] 3)).alloc (.cells #[.func (.func b) #[] #[.pointer (some ⟨c0,0,none⟩)]] 100)).alloc (.cells zW 28)).heap.size=w.heap.size+4 by simp);have E:=hid (aP (((w.alloc (.cells (de V) 28)).alloc (.cells #[.int .i64 a] 3)).alloc (.cells #[.func (.func b) #[] #[.pointer (some ⟨c0,0,none⟩)]] 100)) zW 28 (w.heap.size+3) 11 oS oD);clear g i j k;have c:=hid (GF H 156 #[ptr (w.heap.size+1),ptr (w.heap.size+2)] (AK [((w.heap.size+1),.int .i64 a),((w.heap.size+2),.func (.func b) #[] #[.pointer (some ⟨c0,0,none⟩)]),(c0,.int .i64 a)]) V p P (fF p a) ((((w.alloc (.cells (de V) 28)).alloc (.cells #[.int .i64 a] 3)).alloc (.cells #[.func (.func b) #[] #[.pointer (some ⟨c0,0,none⟩)]] 100)).alloc (.cells zW 28)) (hv.below d) s Gs (fun X h=>B.below h) (fun h=>(r h _ _).J4 o));unfold ptr at c;generalize dE p (fF p a)=G at c ⊢;generalize dP p P (fF p a)=J at c ⊢;clear hv s u y z f o r;go_enter Tryz.func79,Tryz.ntmps79
 go_wp2_with (first|((with_reducible refine gld 28 ?_);refine iA oR _ rfl _ rfl V C ?_))
 generalize World.alloc _ _=I at*;refine c.mono ?_;rintro q w1 ⟨X,rfl,hF,e⟩;have n:=hid (ct E e);have one:=hid (gQ hF.v0);have D:=hid (World.rangeAt_setCells_same w1 (w.heap.size+3) 0 (de X).toList n);have A:=hid (bR (btr d e) (show w.heap.size<=w.heap.size+3 by omega) (de X).toList 0);have F:=hid ((hF.put (w.heap.size+3) 0 (de X).toList (by rw[m.out];omega)).mono (show w.heap.size<=_ by rw[m.out];omega));clear hF e c;go_wp2_with (first|((with_reducible refine gst 28 ?_);refine wpList_store_mid rfl 28 _ _ rfl (w.heap.size+3) 0 (de X) rfl rfl n fD one ?_))
 exact ar (v:=.tuple #[.agg (de X),eV G]) (iI rfl rfl (run_loadVar_mid _ (w.heap.size+3) 0 28 (de X).toList _ D Tryz.underlying28 rfl fD) rfl) rfl ⟨X,rfl,F.out,A.out⟩
theorem rF (V:Nat->Value) (p:PW) (a:Int) (w:World) (hv:fp w V p) (c:p.Fits) (z:rK p=true):
  Calls Tryz.prog 17 #[.agg (de V),.int .i64 a] w fun x w'=>∃X,x=.returned (.tuple #[.agg (de X),eV (dE p (fF p a))])∧uO w' w.heap.size X (dP p (rJ p a) (fF p a))∧Below w.heap.size w w':=by
 have i:=oH w V 28;have j:=bK i (bal (af _ (w.alloc (.cells (de V) 28))) (.cells #[.int .i64 a] 3));have k:=bK j (bal (af _ ((w.alloc (.cells (de V) 28)).alloc (.cells #[.int .i64 a] 3))) (.cells zW 28));have r:=hid k;have g:=hid (bal (bal (bal (af w.heap.size w) (.cells (de V) 28)) (.cells #[.int .i64 a] 3)) (.cells zW 28));have f:=(fh (iq (w.alloc (.cells (de V) 28)) #[.int .i64 a] 3 (w.heap.size+1) oS) oS (.cells zW 28)) 0;have A:=hid (show AK [((w.heap.size+1),.int .i64 a)] (((w.alloc (.cells (de V) 28)).alloc (.cells #[.int .i64 a] 3)).alloc (.cells zW 28)) from fun x n=>by
  simp only[bL,dA,or_false] at n;subst n;exact f)
 have l:=hid (show (((w.alloc (.cells (de V) 28)).alloc (.cells #[.int .i64 a] 3)).alloc (.cells zW 28)).heap.size=w.heap.size+3 by simp);have t:=hid (aP ((w.alloc (.cells (de V) 28)).alloc (.cells #[.int .i64 a] 3)) zW 28 (w.heap.size+2) 11 oS oD);clear i j k;have d:=hid (sT hv.ID);have b:=hid (Ds z 82 V p (rJ p a) a (w.heap.size+1) (((w.alloc (.cells (de V) 28)).alloc (.cells #[.int .i64 a] 3)).alloc (.cells zW 28)) (hv.below g) c f (Hh c d a).2 (fun h c1 c2=>sK c1 c2 _ a p c d h));generalize dE p (fF p a)=y at b ⊢;generalize dP p (rJ p a) (fF p a)=C at b ⊢;clear hv c d f;go_enter Tryz.func17,Tryz.ntmps17
 go_wp2_with (first|((with_reducible refine gld 28 ?_);refine iA oR _ rfl _ rfl V r ?_))
 generalize World.alloc _ _=B at*;refine b.mono ?_;rintro q w1 ⟨X,rfl,hF,e⟩;have m:=hid (ct t e);have one:=hid (gQ hF.v0);have s:=hid (World.rangeAt_setCells_same w1 (w.heap.size+2) 0 (de X).toList m);have o:=hid (bR (btr g e) (show w.heap.size<=w.heap.size+2 by omega) (de X).toList 0);have u:=hid ((hF.put (w.heap.size+2) 0 (de X).toList (by rw[l.out];omega)).mono (show w.heap.size<=_ by rw[l.out];omega));clear hF e b;go_wp2_with (first|((with_reducible refine gst 28 ?_);refine wpList_store_mid rfl 28 _ _ rfl (w.heap.size+2) 0 (de X) rfl rfl m fD one ?_))
 exact ar (v:=.tuple #[.agg (de X),eV y]) (iI rfl rfl (run_loadVar_mid _ (w.heap.size+2) 0 28 (de X).toList _ s Tryz.underlying28 rfl fD) rfl) rfl ⟨X,rfl,u.out,o.out⟩
section
variable {p : PW} (h : Lv p) (V : Nat -> Value) (w : World) (hv : fp w V p)
include h hv
theorem yg (a:Int):Calls Tryz.prog 17 #[.agg (de V),.int .i64 a] w (Ans w):=
 (rF V p a w hv h.w.fits h.s0).mono fun _ _ k=>DV h (fun _=>(h.Jn a).w) k
end
end Wd
namespace Mmu
open Go.RowKit Mem Bw Nums
theorem wO (v:Value) (l:List Ent) (s p:Int) (w:World) (hv:i9 w v l):
  Calls Tryz.prog 178 #[v,.int .i64 s,.int .i64 p] w fun r w'=>r=.returned (iE (ja l s p))∧Below w.heap.size w w':=by
 obtain⟨q,b,off,cap,rfl,K,N,hl⟩:=hv;have H:=hid K;have I:=hid N;have T:(l.length:Int)<=100:=oA;have d:=hid (bal (af w.heap.size w) (.cells #[.int .i64 0,.int .i64 0,.int .i64 0,.bool false] 40));have D:=hid (cq w #[.int .i64 0,.int .i64 0,.int .i64 0,.bool false] 40);have a:=hid (hU w);go_enter Tryz.func178,Tryz.ntmps178
 go_wp2_with fail
 generalize World.alloc _ _=W at d D a ⊢
 go_loopw [8] (fun i wr=>∃k:Nat,k<=l.length∧i=.int .i64 k∧Hid (∀j (c:j<l.length),j<k->pg s p l[j]=false)∧W=wr) (fun i _=>l.length - (intOf i).toNat)
 case atStart=>exact⟨0,oA,rfl,fun j _ h=>oA,rfl⟩
 case round=>
  obtain⟨k,hk,rfl,B,rfl⟩:=hrel;have E:=D.out;have U:=a.out 0 oD;have V:=a.out 1 oD;have X:=a.out 2 oD;have Y:=a.out 3 oD;by_cases C:k<l.length
  ·have g:(k:Int)<(l.length:Int):=oA;have S:¬((k:Int)<0):=oA;have L:=H.out oA;subst L;obtain⟨c0,c1,c2,F⟩:=(I.below d) k C;have f:=hid (show pg s p l[k]=true->ja l s p=(l[k],true) from fun M=>
    tH C ((List.findIdx_eq C).2 ⟨M,fun j c=>B.out j oA c⟩))
   have n:=hid (show pg s p l[k]=false->∀j (c:j<l.length),j<k+1->pg s p l[j]=false from fun J j c R=>by
    by_cases e:j=k
    ·subst e;exact J
    ·exact B j c oA)
   generalize l[k]=e at c0 c1 c2 F f n;obtain⟨x,y,z,u⟩:=e;simp only at c0 c1 c2 F;by_cases t:x=s
   ·subst t;have O:(x==x)=true:=oS;by_cases A:y=p
    ·subst A;have P:(y==y)=true:=oS;have G:=hid (f.out (by simp[pg]));go_wp2_with fail
     have o:=ju (v0:=.int .i64 x) (v1:=.int .i64 y) (v2:=.int .i64 z) (v3:=.bool u) E;refine ar (v:=iE ((x,y,z,u),true)) (by simp[iE,results,Tryz.results178,go_sem,o]) rfl ⟨by rw[G.out],?_⟩;exact im (im (im (im d (aq _) _) (aq _) _) (aq _) _) (aq _) _
    ·have P:(y==p)=false:=by simpa using A
     have m:=hid (n.out (by simp[pg,A]));go_wp2_with fail
     exact⟨⟨k+1,oA,by go_num,m,by trivial⟩,by simp[intOf];omega⟩
   ·have O:(x==s)=false:=by simpa using t
    have m:=hid (n.out (by simp[pg,t]));go_wp2_with fail
    exact⟨⟨k+1,oA,by go_num,m,by trivial⟩,by simp[intOf];omega⟩
  ·obtain rfl:k=l.length:=oA;have Q:¬((l.length:Int)<(l.length:Int)):=oA;have f:=hid (wK (l:=l) (s:=s) (p:=p) (by
    intro g;have:=eC (w:=g);rw[B.out _ g g] at this
    cases this))
   go_wp2_with fail
   have o:=ju (v0:=.int .i64 0) (v1:=.int .i64 0) (v2:=.int .i64 0) (v3:=.bool false) E;refine ar (v:=iE ((0,0,0,false),false)) (by simp[iE,results,Tryz.results178,go_sem,o]) rfl ⟨by rw[f.out],?_⟩;exact im (im (im (im d (aq _) _) (aq _) _) (aq _) _) (aq _) _
def lQ (s p:Int) (e:Ent):Bool:=e.1 !=s||(decide (0<=p)&&e.2.1 !=p)
def ik (l:List Ent) (s p:Int):List Ent:=l.filter (lQ s p)
theorem oP (l:List Ent) (s p:Int):(ik l s p).length<=l.length:=dz _ _
theorem wm {l:List Ent} {s p:Int} {k:Nat} (h:k<l.length):ik (l.take (k+1)) s p=ik (l.take k) s p++(if lQ s p l[k]=true then [l[k]] else []):=by
 unfold ik;rw[bH h,eU];by_cases a:lQ s p l[k]=true
 ·rw[ag a,List.filter_cons_of_pos a];rfl
 ·rw[ae a,List.filter_cons_of_neg a];rfl
theorem iO (v:Value) (l:List Ent) (s p:Int) (w:World) (hv:i9 w v l):
  Calls Tryz.prog 228 #[v,.int .i64 s,.int .i64 p] w fun r w'=>∃u,r=.returned u∧w'.ownsRow w.heap.size 40 4 u (ik l s p).length (fq (ik l s p))∧Below w.heap.size w w':=by
 obtain⟨i0,hi,I,J,K⟩:=fm mE;obtain⟨q,b,off,cap,rfl,O,Q,hl⟩:=hv;have M:=hid O;have N:=hid Q;have Z:(l.length:Int)<=100:=oA;go_enter Tryz.func228,Tryz.ntmps228
 go_wp2_with fail
 go_loopw [7,8] (fun u i wr=>∃(k:Nat) (m:List Ent),k<=l.length∧i=.int .i64 k∧Hid (m=ik (l.take k) s p)∧Hid (wr.ownsRow w.heap.size 40 4 u m.length (fq m))∧Hid (Below w.heap.size w wr)) (fun _ i _=>l.length - (intOf i).toNat)
 case atStart=>exact⟨0,[],oA,rfl,hid rfl,hid (cH _ _ _ _),hid (af _ _)⟩
 case round=>
  obtain⟨k,m,hk,rfl,g,c,a⟩:=hrel;have hm:m.length<=100:=by
   rw[g.out];exact aD (oP _ _ _) (by rw[bD];omega)
  by_cases H:k<l.length
  ·have aa:(k:Int)<(l.length:Int):=oA;have Y:¬((k:Int)<0):=oA;have P:=M.out oA;subst P;obtain⟨c0,c1,c2,G⟩:=(N.below a) k H;have t:=hid (wm (s:=s) (p:=p) H);generalize l[k]=e at c0 c1 c2 G t;obtain⟨x,y,z,u⟩:=e;simp only at c0 c1 c2 G;have F:=hid (show lQ s p (x,y,z,u)=true->m++[(x,y,z,u)]=ik (l.take (k+1)) s p from fun h=>by rw[t.out,ag h,g.out]);have E:=hid (show lQ s p (x,y,z,u)=false->m=ik (l.take (k+1)) s p from fun h=>by rw[t.out,ae (by rw[h];decide),g.out,dT]);have W:=hid (show lQ s p (x,y,z,u)=true->True from fun _=>trivial);by_cases C:x=s
   ·subst C;have R:(x !=x)=false:=oS;by_cases j:0<=p
    ·have T:=j;by_cases D:y=p
     ·subst D;have S:(y !=y)=false:=oS;have o:=hid (E.out (by simp[lQ]));go_wp2_with fail
      exact⟨⟨k+1,m,oA,by go_num,o,c,a⟩,by simp[intOf];omega⟩
     ·have S:(y !=p)=true:=by simpa using D
      have A:=hid (F.out (by simp[lQ,D,j]));go_wp2_with (at_builtin;refine aY _ rfl _ _ 38 rfl w.heap.size 40 i0 (.agg #[.int .i64 0,.int .i64 0,.int .i64 0,.bool false]) 4 32 Tryz.underlying38 hi I J K rfl oD _ _ _ rfl (c.alloc _) ⟨_,0,none⟩ 1 1 [.int .i64 x,.int .i64 y,.int .i64 z,.bool u] rfl rfl (hV _ _ _ _ _ _) (fR _ _ _ _) (by unfold maxLen;omega) oA (by have:=a.size;simp;omega) ?_;intro U V f d _;have n:=hid ((bal a _).grown d (by have:=a.size;simp;omega) (fun k hk=>(c.lt k hk).1));have B:=hid f;clear f d)
      refine⟨⟨k+1,m++[(x,y,z,u)],oA,by go_num,A,hid ?_,n⟩,by simp[intOf];omega⟩;rw[gC,ax];exact B
    ·have T:=j;have o:=hid (E.out (by simp[lQ,j]));go_wp2_with fail
     exact⟨⟨k+1,m,oA,by go_num,o,c,a⟩,by simp[intOf];omega⟩
   ·have R:(x !=s)=true:=by simpa using C
    have A:=hid (F.out (by simp[lQ,C]));go_wp2_with (at_builtin;refine aY _ rfl _ _ 38 rfl w.heap.size 40 i0 (.agg #[.int .i64 0,.int .i64 0,.int .i64 0,.bool false]) 4 32 Tryz.underlying38 hi I J K rfl oD _ _ _ rfl (c.alloc _) ⟨_,0,none⟩ 1 1 [.int .i64 x,.int .i64 y,.int .i64 z,.bool u] rfl rfl (hV _ _ _ _ _ _) (fR _ _ _ _) (by unfold maxLen;omega) oA (by have:=a.size;simp;omega) ?_;intro U V f d _;have n:=hid ((bal a _).grown d (by have:=a.size;simp;omega) (fun k hk=>(c.lt k hk).1));have B:=hid f;clear f d)
    refine⟨⟨k+1,m++[(x,y,z,u)],oA,by go_num,A,hid ?_,n⟩,by simp[intOf];omega⟩;rw[gC,ax];exact B
  ·obtain rfl:k=l.length:=oA;have X:¬((l.length:Int)<(l.length:Int)):=oA;have L:=hid (show m=ik l s p by rw[g.out,cM]);go_wp2_with fail
   go_ret
   refine⟨_,rfl,?_,a.out⟩;rw[<-L.out];exact c
