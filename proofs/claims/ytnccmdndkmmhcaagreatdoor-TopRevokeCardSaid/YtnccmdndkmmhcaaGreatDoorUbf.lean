/- Ubf -/
import Derived.BigGuard
import Derived.BigCall
import Derived.Deep.RegionHeld3
import Derived.BigQuiet
import Derived.Test.YtnccmdndkmmhcaaGreatDoorUbe
set_option maxRecDepth 100000
set_option maxHeartbeats 16000000
namespace Go.Proofs.YtnccmdndkmmhcaaGreatDoor
namespace Wd
open Go.RowKit Mem Bw Nums Mmu
theorem iI (N:Nat) (first:Array Value) (bad:Nat->Int->Bool) (e:Int) (v:Value) (zs:List Int) (w:World) (hv:ed w v zs) (hl:zs.length<=1000) (s:∀f (W:World),(callFunc N f).run Tryz.prog W=.ok (.enter N f) W)
  (hF:∀(k:Nat) (hk:k<zs.length),bad k zs[k]=false)
  (hC:∀(k:Nat) (hk:k<zs.length) (W:World),Below w.heap.size w W->Calls Tryz.prog N (first++#[.int .i64 k,.int .i64 zs[k]]) W fun r w'=>r=.returned (.bool (bad k zs[k]))∧Below W.heap.size W w'):
  Calls Tryz.prog 46 #[.nilIface,v,.func (.func N) first #[],.int .i64 e] w fun r w'=>r=.returned .nilIface∧Below w.heap.size w w':=by
 obtain⟨q,b,off,cap,rfl,n,p⟩:=hv;have j:=hid n;have l:=hid p;have h:=hid hC;have u:(zs.length:Int)<=1000:=oA;go_enter Tryz.func46,Tryz.ntmps46
 go_wp2_with fail
 go_loopw [16] (fun i wr=>∃k:Nat,k<=zs.length∧i=.int .i64 k∧Hid (Below w.heap.size w wr)) (fun i _=>zs.length - (intOf i).toNat)
 case atStart=>exact⟨0,oA,rfl,hid (af _ _)⟩
 case round=>
  obtain⟨k,hk,rfl,a⟩:=hrel;by_cases d:k<zs.length
  ·have x:(k:Int)<(zs.length:Int):=oA;have o:=j.out oA;subst o;have c0:=(l.below a) k d;have c:=hid (h.out k d wr a);rw[hF k d] at c;generalize zs[k]=z at c0 c;go_wp2_with fail
   refine c.mono ?_;rintro r w1 ⟨rfl,m⟩;have g:=hid (btr a m);go_wp2_with fail
   exact⟨⟨k+1,oA,by go_num,g⟩,by simp[intOf];omega⟩
  ·obtain rfl:k=zs.length:=oA;have t:¬((zs.length:Int)<(zs.length:Int)):=oA;go_wp2_with fail
   go_ret
   exact⟨rfl,a.out⟩
theorem sJ (N:Nat) (first:Array Value) (bad:Nat->(Nat->Int)->Bool) (e:Int) (v:Value) (zs:List (Nat->Int)) (w:World) (hv:RowsIn 7 w v zs) (hl:zs.length<=1000) (F:∀m (W:World),(callFunc N m).run Tryz.prog W=.ok (.enter N m) W)
  (hF:∀(k:Nat) (hk:k<zs.length),bad k zs[k]=false)
  (hC:∀(k:Nat) (hk:k<zs.length) (W:World),Below w.heap.size w W->Calls Tryz.prog N (first++#[.int .i64 k,.agg (cf 7 zs[k]).toArray]) W fun r w'=>r=.returned (.bool (bad k zs[k]))∧Below W.heap.size W w'):
  Calls Tryz.prog 50 #[.nilIface,v,.func (.func N) first #[],.int .i64 e] w fun r w'=>r=.returned .nilIface∧Below w.heap.size w w':=by
 obtain⟨q,b,off,cap,rfl,C,E⟩:=hv;have s:=hid C;have u:=hid E;have p:=hid hC;have H:(zs.length:Int)<=1000:=oA;go_enter Tryz.func50,Tryz.ntmps50
 go_wp2_with fail
 go_loopw [16] (fun i wr=>∃k:Nat,k<=zs.length∧i=.int .i64 k∧Hid (Below w.heap.size w wr)) (fun i _=>zs.length - (intOf i).toNat)
 case atStart=>exact⟨0,oA,rfl,hid (af _ _)⟩
 case round=>
  obtain⟨k,hk,rfl,a⟩:=hrel;by_cases f:k<zs.length
  ·have I:(k:Int)<(zs.length:Int):=oA;have D:=s.out oA;subst D;have l:=hid (cS (u.out k f) a);have d:=hid (p.out k f);rw[hF k f] at d;generalize zs[k]=z at l d;have j:=hid (aP wr zV 34 wr.heap.size 7 rfl oD);have h:=hid (World.rangeAt_setCells_same _ wr.heap.size 0 (cf 7 z) (by rw[ay];exact j));have c:=hid (bT (bal (af wr.heap.size wr) (.cells zV 34)) (aq _) (cf 7 z) 0);have n:(Tryz.prog.info? 34).map (·.size)=some (cf 7 z).length:=by rw[ay];exact GV
   have g:=hid n;have t:=hid (show (Tryz.prog.info? 34).map (·.size)=some (cf 7 z).toArray.size by rw[eE];exact n);have A:(cf 7 z).toArray.size=7:=by simp[gT]
   have x:=hid (show (wr.alloc (.cells zV 34)).there wr.heap.size 0 (cf 7 z).toArray.size by rw[A];exact j);go_wp2_with (first
    |((with_reducible refine gst 34 ?_);refine wpList_store_mid rfl 34 _ _ rfl wr.heap.size 0 (cf 7 z).toArray rfl rfl x t (all_oneCell_toArray (bQ 7 z)) ?_;generalize World.setCells _ _ _ _=y at h c ⊢)
    |((with_reducible refine gld 34 ?_);refine wpList_load_mid rfl 34 _ rfl b (off+k*7) rfl (cf 7 z) _ l Tryz.underlying34 rfl g ?_)
    |((with_reducible refine gld 34 ?_);refine wpList_load_mid rfl 34 _ rfl wr.heap.size 0 rfl (cf 7 z) _ h Tryz.underlying34 rfl g ?_))
   refine (d.out y (btr a c)).mono ?_;rintro r w1 ⟨rfl,B⟩;have o:=hid (btr (btr a c) B);go_wp2_with fail
   exact⟨⟨k+1,oA,by go_num,o⟩,by simp[intOf];omega⟩
  ·obtain rfl:k=zs.length:=oA;have G:¬((zs.length:Int)<(zs.length:Int)):=oA;go_wp2_with fail
   go_ret
   exact⟨rfl,a.out⟩
theorem sK (N:Nat) (first:Array Value) (bad:Nat->(Nat->Int)->Bool) (e:Int) (v:Value) (zs:List (Nat->Int)) (w:World) (hv:RowsIn 20 w v zs) (hl:zs.length<=1000) (F:∀m (W:World),(callFunc N m).run Tryz.prog W=.ok (.enter N m) W)
  (hF:∀(k:Nat) (hk:k<zs.length),bad k zs[k]=false)
  (hC:∀(k:Nat) (hk:k<zs.length) (W:World),Below w.heap.size w W->Calls Tryz.prog N (first++#[.int .i64 k,.agg (cf 20 zs[k]).toArray]) W fun r w'=>r=.returned (.bool (bad k zs[k]))∧Below W.heap.size W w'):
  Calls Tryz.prog 53 #[.nilIface,v,.func (.func N) first #[],.int .i64 e] w fun r w'=>r=.returned .nilIface∧Below w.heap.size w w':=by
 obtain⟨q,b,off,cap,rfl,C,E⟩:=hv;have s:=hid C;have u:=hid E;have p:=hid hC;have H:(zs.length:Int)<=1000:=oA;go_enter Tryz.func53,Tryz.ntmps53
 go_wp2_with fail
 go_loopw [16] (fun i wr=>∃k:Nat,k<=zs.length∧i=.int .i64 k∧Hid (Below w.heap.size w wr)) (fun i _=>zs.length - (intOf i).toNat)
 case atStart=>exact⟨0,oA,rfl,hid (af _ _)⟩
 case round=>
  obtain⟨k,hk,rfl,a⟩:=hrel;by_cases f:k<zs.length
  ·have I:(k:Int)<(zs.length:Int):=oA;have D:=s.out oA;subst D;have l:=hid (cS (u.out k f) a);have d:=hid (p.out k f);rw[hF k f] at d;generalize zs[k]=z at l d;have j:=hid (aP wr zT 37 wr.heap.size 20 rfl oD);have h:=hid (World.rangeAt_setCells_same _ wr.heap.size 0 (cf 20 z) (by rw[ay];exact j));have c:=hid (bT (bal (af wr.heap.size wr) (.cells zT 37)) (aq _) (cf 20 z) 0);have n:(Tryz.prog.info? 37).map (·.size)=some (cf 20 z).length:=by rw[ay];exact gV
   have g:=hid n;have t:=hid (show (Tryz.prog.info? 37).map (·.size)=some (cf 20 z).toArray.size by rw[eE];exact n);have A:(cf 20 z).toArray.size=20:=by simp[gT]
   have x:=hid (show (wr.alloc (.cells zT 37)).there wr.heap.size 0 (cf 20 z).toArray.size by rw[A];exact j);go_wp2_with (first
    |((with_reducible refine gst 37 ?_);refine wpList_store_mid rfl 37 _ _ rfl wr.heap.size 0 (cf 20 z).toArray rfl rfl x t (all_oneCell_toArray (bQ 20 z)) ?_;generalize World.setCells _ _ _ _=y at h c ⊢)
    |((with_reducible refine gld 37 ?_);refine wpList_load_mid rfl 37 _ rfl b (off+k*20) rfl (cf 20 z) _ l Tryz.underlying37 rfl g ?_)
    |((with_reducible refine gld 37 ?_);refine wpList_load_mid rfl 37 _ rfl wr.heap.size 0 rfl (cf 20 z) _ h Tryz.underlying37 rfl g ?_))
   refine (d.out y (btr a c)).mono ?_;rintro r w1 ⟨rfl,B⟩;have o:=hid (btr (btr a c) B);go_wp2_with fail
   exact⟨⟨k+1,oA,by go_num,o⟩,by simp[intOf];omega⟩
  ·obtain rfl:k=zs.length:=oA;have G:¬((zs.length:Int)<(zs.length:Int)):=oA;go_wp2_with fail
   go_ret
   exact⟨rfl,a.out⟩
theorem mW (N:Nat) (first:Array Value) (bad:Nat->List Int->Bool) (e:Int) (v:Value) (zs:List (List Int)) (w:World) (hv:gi w v zs) (hl:zs.length<=1000) (u:∀f (W:World),(callFunc N f).run Tryz.prog W=.ok (.enter N f) W)
  (hF:∀(k:Nat) (hk:k<zs.length),bad k zs[k]=false)
  (hC:∀(k:Nat) (hk:k<zs.length) (W:World) (x:Value),Below w.heap.size w W->ed W x zs[k]->Calls Tryz.prog N (first++#[.int .i64 k,x]) W fun r w'=>r=.returned (.bool (bad k zs[k]))∧Below W.heap.size W w'):
  Calls Tryz.prog 55 #[.nilIface,v,.func (.func N) first #[],.int .i64 e] w fun r w'=>r=.returned .nilIface∧Below w.heap.size w w':=by
 obtain⟨q,b,off,cap,rfl,o,t⟩:=hv;have l:=hid o;have m:=hid t;have j:=hid hC;have B:(zs.length:Int)<=1000:=oA;go_enter Tryz.func55,Tryz.ntmps55
 go_wp2_with fail
 go_loopw [16] (fun i wr=>∃k:Nat,k<=zs.length∧i=.int .i64 k∧Hid (Below w.heap.size w wr)) (fun i _=>zs.length - (intOf i).toNat)
 case atStart=>exact⟨0,oA,rfl,hid (af _ _)⟩
 case round=>
  obtain⟨k,hk,rfl,a⟩:=hrel;by_cases d:k<zs.length
  ·have C:(k:Int)<(zs.length:Int):=oA;have p:=l.out oA;subst p;obtain⟨y,g,s⟩:=m.out k d;have c0:=(a.cell (aj _ _ g)).trans g;have c:=hid (j.out k d wr y a (s.below a));rw[hF k d] at c;generalize zs[k]=z at c;go_wp2_with fail
   refine c.mono ?_;rintro r w1 ⟨rfl,n⟩;have h:=hid (btr a n);go_wp2_with fail
   exact⟨⟨k+1,oA,by go_num,h⟩,by simp[intOf];omega⟩
  ·obtain rfl:k=zs.length:=oA;have A:¬((zs.length:Int)<(zs.length:Int)):=oA;go_wp2_with fail
   go_ret
   exact⟨rfl,a.out⟩
theorem vo (N:Nat) (first:Array Value) (bad:Nat->List Ent->Bool) (e:Int) (v:Value) (zs:List (List Ent)) (w:World) (hv:iE w v zs) (hl:zs.length<=1000) (u:∀f (W:World),(callFunc N f).run Tryz.prog W=.ok (.enter N f) W)
  (hF:∀(k:Nat) (hk:k<zs.length),bad k zs[k]=false)
  (hC:∀(k:Nat) (hk:k<zs.length) (W:World) (x:Value),Below w.heap.size w W->jb W x zs[k]->vP x->Calls Tryz.prog N (first++#[.int .i64 k,x]) W fun r w'=>r=.returned (.bool (bad k zs[k]))∧Below W.heap.size W w'):
  Calls Tryz.prog 60 #[.nilIface,v,.func (.func N) first #[],.int .i64 e] w fun r w'=>r=.returned .nilIface∧Below w.heap.size w w':=by
 obtain⟨q,b,off,cap,rfl,p,t⟩:=hv;have m:=hid p;have n:=hid t;have l:=hid hC;have B:(zs.length:Int)<=1000:=oA;go_enter Tryz.func60,Tryz.ntmps60
 go_wp2_with fail
 go_loopw [16] (fun i wr=>∃k:Nat,k<=zs.length∧i=.int .i64 k∧Hid (Below w.heap.size w wr)) (fun i _=>zs.length - (intOf i).toNat)
 case atStart=>exact⟨0,oA,rfl,hid (af _ _)⟩
 case round=>
  obtain⟨k,hk,rfl,a⟩:=hrel;by_cases d:k<zs.length
  ·have C:(k:Int)<(zs.length:Int):=oA;have s:=m.out oA;subst s;obtain⟨y,g,h⟩:=n.out k d;have c0:=(a.cell (aj _ _ g)).trans g;have c:=hid (l.out k d wr y a (h.1.below a) h.2);rw[hF k d] at c;generalize zs[k]=z at c;go_wp2_with fail
   refine c.mono ?_;rintro r w1 ⟨rfl,o⟩;have j:=hid (btr a o);go_wp2_with fail
   exact⟨⟨k+1,oA,by go_num,j⟩,by simp[intOf];omega⟩
  ·obtain rfl:k=zs.length:=oA;have A:¬((zs.length:Int)<(zs.length:Int)):=oA;go_wp2_with fail
   go_ret
   exact⟨rfl,a.out⟩
theorem oU (V:Nat->Value) (p:PW) (w:World) (hv:eu w V p) (T:p.Fits) (C:Snd p):
  Calls Tryz.prog 12 #[.agg (de V)] w fun r w'=>r=.returned .nilIface∧Below w.heap.size w w':=by
 have P:=hid (lQ w V 28);have M:=hid (bal (af w.heap.size w) (.cells (de V) 28));have d:=hid T;have c:=hid C;have N:=hid (sI V p (w.alloc (.cells (de V) 28)) (hv.below M) T C.lf);have ap:=hid hv;have U:=hv.time;go_enter Tryz.func12,Tryz.ntmps12
 go_wp2_with (first|((with_reducible refine gld 28 ?_);refine gg oR _ rfl _ rfl V P ?_))
 generalize World.alloc _ _=W0 at*;refine N.mono ?_;rintro r w1 ⟨rfl,a⟩;have X:=hid a;have Q:=hid (bf P a);have G:=r11 10 Q;rw[U] at G;clear a N U;have e:=hid C.lf;go_wp2_with fail
 refine (nz p.time 0 1000000 _).mono ?_;rintro r w2 ⟨rfl,rfl⟩;have hw:=C.tm;have D:=hid (btr (btr M X) (bal (af w1.heap.size w1) (.cells (de V) 77)));have R:=hid (show (w1.alloc (.cells (de V) 77)).rangeAt w1.heap.size 0 (de V).toList from lQ w1 V 77);clear G;go_upto_region 4 with (first|((with_reducible refine gld 28 ?_);refine gg oR _ rfl _ rfl V Q ?_))
 generalize w1.heap.size=vb at*;generalize World.alloc _ _=v0 at D R ⊢;have b:=hid (show ∀W,Below v0.heap.size v0 W->d6 W vb V p from fun W a=>⟨bf R a,ap.below (btr D a),d.out⟩);have n:=hid (af v0.heap.size v0);have g0:v0.cell? ⟨vb,0,none⟩=some (V 0):=ai (b.out v0 n).r rfl;have Z:=hid (iI 47 #[] (fun _ x=>nwB x) 1 (V 0) p.IL v0 ((b.out v0 n).v.IL) d.IL Ik c.b0 (fun k hk W a=>(vt k _ W).mono fun _ _ h=>⟨h.1,h.2▸af _ _⟩));go_wp2_with fail
 refine Z.mono ?_;rintro r v1 ⟨rfl,a⟩;have E:=hid (btr n a);have O:=hid (fun (k:Nat) (hk:k<p.IL.length)=>G5 (c.b0 k hk));have ao:=hid (fun W (a:Below v0.heap.size v0 W)=>FL (b.out W (btr n a)).v e O);have g1:=r11 1 (b.out v1 E).r;have aa:=hid (iI 48 #[] (fun _ x=>nkB x) 3 (V 1) p.kinds v1 ((b.out v1 E).v.kinds) d.kinds Il c.b1 (fun k hk W a=>(vs k _ W).mono fun _ _ h=>⟨h.1,h.2▸af _ _⟩));go_wp2_with fail
 refine aa.mono ?_;rintro r v2 ⟨rfl,a⟩;have F:=hid (btr E a);have g2:=r11 9 (b.out v2 F).r;have ac:=hid (iI 49 #[] (fun _ x=>nd x) 2 (V 9) p.IQ v2 ((b.out v2 F).v.IQ) d.IQ Im c.b2 (fun k hk W a=>(xO k _ W).mono fun _ _ h=>⟨h.1,h.2▸af _ _⟩));go_wp2_with fail
 refine ac.mono ?_;rintro r v3 ⟨rfl,a⟩;have o:=hid (btr F a);have g3:=r11 2 (b.out v3 o).r;have ad:=hid (sJ 51 #[.pointer (some ⟨vb,0,none⟩)] (fun k s=>bsB p (p.kinds.getD (k/16) 0) s) 8 (V 2) p.IH v3 ((b.out v3 o).v.IH) d.IH Io c.b3 (fun k hk W a=>by
   have i:k/16<p.kinds.length:=by have:=e.IH;omega
   have g:=c.b3 k hk;rw[show DN p k p.IH[k]=bsB p p.kinds[k/16] p.IH[k] by rw[<-jZ i];rfl] at g;exact (uR vb V p k (k/16) p.IH[k] W (b.out W (btr o a)) oA i g).mono fun _ _ h=>⟨h.1.trans (by rw[<-c.b3 k hk];rfl),h.2⟩))
 go_wp2_with fail
 refine ad.mono ?_;rintro r v4 ⟨rfl,a⟩;have q:=hid (btr o a);have an:=hid (Ff (fun k hk=>c.b3 k hk));have g4:=r11 1 (b.out v4 q).r;have ae:=hid (iI 52 #[.pointer (some ⟨vb,0,none⟩)] (fun k x=>bfB p k x) 8 (V 1) p.kinds v4 ((b.out v4 q).v.kinds) d.kinds Ip c.b4 (fun k hk W a=>(qc vb V p k _ W (b.out W (btr q a)) an)));go_wp2_with fail
 refine ae.mono ?_;rintro r v5 ⟨rfl,a⟩;have u:=hid (btr q a);have g5:=r11 3 (b.out v5 u).r;have ag:=hid (sK 54 #[.pointer (some ⟨vb,0,none⟩)] (fun k f=>btB p k (p.kinds.getD k 0) f) 8 (V 3) p.II v5 ((b.out v5 u).v.II) d.II Iq c.b5 (fun k hk W a=>by
   have i:k<p.kinds.length:=by have:=e.II;omega
   have g:=c.b5 k hk;rw[show DO p k p.II[k]=btB p k p.kinds[k] p.II[k] by rw[<-jZ i];rfl] at g;exact (uS vb V p k p.II[k] W (b.out W (btr u a)) i e.II e.lines g).mono fun _ _ h=>⟨h.1.trans (by rw[<-c.b5 k hk];rfl),h.2⟩))
 go_wp2_with fail
 refine ag.mono ?_;rintro r I ⟨rfl,a⟩;have y:=hid (btr u a);have g6:=r11 4 (b.out I y).r;have ah:=hid (mW 56 #[.pointer (some ⟨vb,0,none⟩)] (fun k l=>blB p k (p.kinds.getD k 0) (p.bits.getD k 0) l) 8 (V 4) p.lines I ((b.out I y).v.lines) d.lines Ir c.b6 (fun k hk W x a m=>by
   have i:k<p.kinds.length:=by have:=e.lines;omega
   have S:k<p.bits.length:=by have:=e.lines;have:=e.bits;omega
   have:=sd vb V p k x p.lines[k] W (b.out W (btr y a)) e.II i S m (d.line _ (av hk));rw[<-jZ i, <-jZ S] at this;exact this))
 go_wp2_with fail
 refine ah.mono ?_;rintro r J ⟨rfl,a⟩;have z:=hid (btr y a);have g7:=r11 6 (b.out J z).r;have aj:=hid (iI 57 #[.pointer (some ⟨vb,0,none⟩)] (fun k t=>bcB p k t) 8 (V 6) p.IJ J ((b.out J z).v.IJ) d.IJ Is c.b7 (fun k hk W a=>(sc vb V p k _ W (b.out W (btr z a)) e.II).mono fun _ _ h=>⟨h.1,h.2▸af _ _⟩));go_wp2_with fail
 refine aj.mono ?_;rintro r K ⟨rfl,a⟩;have A:=hid (btr z a);have g8:=r11 7 (b.out K A).r;have al:=hid (mW 58 #[.pointer (some ⟨vb,0,none⟩)] (fun k l=>brB p k l) 8 (V 7) p.ready K ((b.out K A).v.ready) d.ready It c.b8 (fun k hk W x a m=>(qf vb V p k x _ W (b.out W (btr A a)) e.II m (d.next _ (av hk)) (by have:=d.ready;omega)).mono fun _ _ h=>⟨h.1,h.2▸af _ _⟩));go_wp2_with fail
 refine al.mono ?_;rintro r L ⟨rfl,a⟩;have B:=hid (btr A a);have g9:=r11 0 (b.out L B).r;have am:=hid (iI 59 #[.pointer (some ⟨vb,0,none⟩)] (fun k x=>beB p (p.kinds.getD (k/16) 0) x) 9 (V 0) p.IL L ((b.out L B).v.IL) d.IL Iu c.b9 (fun k hk W a=>by
   have i:k/16<p.kinds.length:=by have:=e.IL;omega
   have:=qb vb V p k (k/16) p.IL[k] W (b.out W (btr B a)) (by have:=d.IL;omega) oA i (O.out k hk);rw[<-jZ i] at this;exact this.mono fun _ _ h=>⟨h.1,h.2▸af _ _⟩))
 go_wp2_with fail
 refine am.mono ?_;rintro r H ⟨rfl,a⟩;have j:=hid (btr B a);have G:=r11 8 (b.out H j).r;have ab:=hid (vo 61 #[.pointer (some ⟨vb,0,none⟩)] (fun _ l=>bmB p l) 9 (V 8) p.IK H ((b.out H j).v.IK) d.IK Gv c.Ki (fun k hk W x a m hm=>oT vb V p k x _ W (b.out W (btr j a)) (ao.out W (btr j a)) m hm));go_wp2_with fail
 refine ab.mono ?_;rintro r v11 ⟨rfl,a⟩;have Y:=hid (btr j a);go_wp2_with fail
 go_ret
 exact⟨rfl,btr D Y⟩
theorem GK {p:PW} (s:p4 p=true) (N:Nat) (caps:Array Value) (ok:World->Prop) (V:Nat->Value) (_:PW) (p':PW) (e:Int) (w:World) (hv:eu w V p) (K:p.Fits) (hN:∀E (W:World),(callFunc N E).run Tryz.prog W=.ok (.enter N E) W)
  (J:∀W,Below w.heap.size w W->ok W) (I:Snd p->Bv N caps ok eV p p' e):
  Calls Tryz.prog 72 #[.agg (de V),.func (.func N) #[] caps] w fun r w'=>∃X,r=.returned (.tuple #[.agg (de X),eV (dE p e)])∧vJ w' w.heap.size X (dP p p' e)∧Below w.heap.size w w':=by
 have D:=lQ w V 28;have C:=hid (bf D (bal (af _ (w.alloc (.cells (de V) 28))) (.cells zW 28)));have t:=hid (bal (bal (af w.heap.size w) (.cells (de V) 28)) (.cells zW 28));have T0:=hid (aP (w.alloc (.cells (de V) 28)) zW 28 (w.heap.size+1) 11 oS oD);have m:=hid hv;have A:=hid K;have Q:=hid I;have z:=hid J;have S:=hid (show w.heap.size+1<((w.alloc (.cells (de V) 28)).alloc (.cells zW 28)).heap.size by simp);clear hv K I J D;go_enter Tryz.func72,Tryz.ntmps72
 go_wp2_with (first|((with_reducible refine gld 28 ?_);refine gg oR _ rfl _ rfl V C ?_))
 generalize World.alloc _ _=W0 at*;refine (oU V p W0 (m.below t) A (kM s)).mono ?_;rintro r w1 ⟨rfl,a⟩;have A1:=hid a;have u:=hid (btr t a);have T1:=hid (cw T0 a);have Y:=hid (bf C a);have T:=hid (aE S a.size);have XV:=hid (ly w1);have zo:=hid (gO (ly w1));have R:=hid (kM s);have g:=hid (show dE p e=e by unfold dE;rw[s];rfl);go_wp2_with (first|((with_reducible refine gld 28 ?_);refine gg oR _ rfl _ rfl V Y ?_))
 refine (AD V p w1 (m.below u) A).mono ?_;rintro r w2 ⟨U,L,rfl,H,aa,G,a⟩;have o:=hid (aP w2 zW 28 w2.heap.size 11 rfl oD);have x:=hid (btr u a);have c:=hid (aB (Nat.succ_le_of_lt T) aa);have T2:=hid (cw T1 a);have one:=hid (gO (H.v (tw m.IK)));have O:=hid (show DL ((w2.alloc (.cells zW 28)).setCells w2.heap.size 0 (de U).toList) w2.heap.size L U p from
  ⟨World.rangeAt_setCells_same _ w2.heap.size 0 (de U).toList o,gF _ 0 _ o,nA (H.below (bal (af _ w2) (.cells zW 28))) G _ 0,G,by rw[fu];simp⟩)
 have j:=hid (bT (bal x (.cells zW 28)) x.size (de U).toList 0);have T3:=hid (gF (B:=w2.heap.size) (de U).toList 0 _ (cw T2 (bal (af _ w2) (.cells zW 28))));go_wp2_with (first|((with_reducible refine gst 28 ?_);refine wpList_store_mid rfl 28 _ _ rfl w2.heap.size 0 (de U) rfl rfl o fA one ?_))
 generalize World.setCells _ _ _ _=W3 at*;refine (Q.out R W3 w2.heap.size L U O (z.out _ j) (fun _ h=>z.out _ (j.trans (h.mono (by have:=c.out;omega))))).mono ?_;rintro r M ⟨rfl,F,h5⟩;have y:=hid (j.trans (F.mono (by have:=c.out;omega)));have i:=hid (tv T3 F (by have:=c.out;omega));have P:=hid h5;by_cases d:e=0
 rotate_left
 ·have l:=hid (show dP p p' e=noP by unfold dP;rw[g.out,ae d]);have b:=hid (Gf d);have n:=hid (World.rangeAt_setCells_same M (w.heap.size+1) 0 (de tD).toList i);have k:=hid (bT y (show w.heap.size<=w.heap.size+1 by omega) (de tD).toList 0);rw[b.out];go_wp2_with (first|((with_reducible refine gst 28 ?_);refine wpList_store_mid rfl 28 _ _ rfl (w.heap.size+1) 0 (de tD) rfl rfl i fA zo ?_))
  exact ar (v:=.tuple #[.agg (de tD),.iface 45 (.int .i64 e)]) (iJ rfl rfl (run_loadVar_mid _ (w.heap.size+1) 0 28 (de tD).toList _ n Tryz.underlying28 rfl fA) rfl) rfl ⟨tD,by rw[g.out,b.out],by rw[l.out];exact⟨fun _ _=>ly _,.inl rfl⟩,k.out⟩
 obtain⟨X,q⟩:=P.out d;have b:=hid (show eV e=.nilIface by rw[d];rfl);have l:=hid (show dP p p' e=p' by unfold dP;rw[g.out,ag d]);have ab:=hid (gO q.f.v0);have Z:=hid q.r;have n:=hid (World.rangeAt_setCells_same M (w.heap.size+1) 0 (de X).toList i);have k:=hid (bT y (show w.heap.size<=w.heap.size+1 by omega) (de X).toList 0);have WX:=hid ((q.f.put (w.heap.size+1) 0 (de X).toList (by have:=c.out;omega)).mono (show w.heap.size<=L 0 by have:=c.out;omega));rw[b.out];go_wp2_with (first|((with_reducible refine gld 28 ?_);refine gg oR _ rfl _ rfl X Z ?_)|((with_reducible refine gst 28 ?_);refine wpList_store_mid rfl 28 _ _ rfl (w.heap.size+1) 0 (de X) rfl rfl i fA ab ?_))
 exact ar (v:=.tuple #[.agg (de X),.nilIface]) (iJ rfl rfl (run_loadVar_mid _ (w.heap.size+1) 0 28 (de X).toList _ n Tryz.underlying28 rfl fA) rfl) rfl ⟨X,by rw[g.out,b.out],by rw[l.out];exact WX,k.out⟩
theorem Du {p:PW} (H:p4 p=true) (b:Nat) (V:Nat->Value) (_:PW) (P:PW) (a:Int) (c0:Nat) (w:World) (hv:eu w V p) (s:p.Fits) (f:w.cell? ⟨c0,0,none⟩=some (.int .i64 a)) (o:∀l∈P.IK,l.length<=100) (r:Snd p->∀c1 c2,r5 156 #[ptr c1,ptr c2] (je [(c1,.int .i64 a),(c2,.func (.func b) #[] #[.pointer (some ⟨c0,0,none⟩)]),(c0,.int .i64 a)]) eV p P (fh p a)):
  Calls Tryz.prog 79 #[.agg (de V),.int .i64 a,.func (.func b) #[] #[.pointer (some ⟨c0,0,none⟩)]] w fun x w'=>∃X,x=.returned (.tuple #[.agg (de X),eV (dE p (fh p a))])∧vJ w' w.heap.size X (dP p P (fh p a))∧Below w.heap.size w w':=by
 have g:=lQ w V 28;have i:=bf g (bal (af _ (w.alloc (.cells (de V) 28))) (.cells #[.int .i64 a] 3));have j:=bf i (bal (af _ ((w.alloc (.cells (de V) 28)).alloc (.cells #[.int .i64 a] 3))) (.cells #[.func (.func b) #[] #[.pointer (some ⟨c0,0,none⟩)]] 100));have k:=bf j (bal (af _ (((w.alloc (.cells (de V) 28)).alloc (.cells #[.int .i64 a] 3)).alloc (.cells #[.func (.func b) #[] #[.pointer (some ⟨c0,0,none⟩)]] 100))) (.cells zW 28));have C:=hid k;have d:=hid (bal (bal (bal (bal (af w.heap.size w) (.cells (de V) 28)) (.cells #[.int .i64 a] 3)) (.cells #[.func (.func b) #[] #[.pointer (some ⟨c0,0,none⟩)]] 100)) (.cells zW 28));have u:=(fe (fe (ir (w.alloc (.cells (de V) 28)) #[.int .i64 a] 3 (w.heap.size+1) oS) oS (.cells #[.func (.func b) #[] #[.pointer (some ⟨c0,0,none⟩)]] 100)) oS (.cells zW 28)) 0;have y:=(fe (ir ((w.alloc (.cells (de V) 28)).alloc (.cells #[.int .i64 a] 3)) #[.func (.func b) #[] #[.pointer (some ⟨c0,0,none⟩)]] 100 (w.heap.size+2) oS) oS (.cells zW 28)) 0;have z:=(d.cell (aj _ _ f)).trans f;have B:=hid (show AI [((w.heap.size+1),.int .i64 a),((w.heap.size+2),.func (.func b) #[] #[.pointer (some ⟨c0,0,none⟩)]),(c0,.int .i64 a)] ((((w.alloc (.cells (de V) 28)).alloc (.cells #[.int .i64 a] 3)).alloc (.cells #[.func (.func b) #[] #[.pointer (some ⟨c0,0,none⟩)]] 100)).alloc (.cells zW 28)) from fun x t=>by
  simp only[bK,dA,or_false] at t;rcases t with rfl|rfl|rfl
  ·exact u
  ·exact y
  ·exact z)
 have m:=hid (show ((((w.alloc (.cells (de V) 28)).alloc (.cells #[.int .i64 a] 3)).alloc (.cells #[.func (.func b) #[] #[.pointer (some ⟨c0,0,none⟩)]] 100)).alloc (.cells zW 28)).heap.size=w.heap.size+4 by simp);have E:=hid (aP (((w.alloc (.cells (de V) 28)).alloc (.cells #[.int .i64 a] 3)).alloc (.cells #[.func (.func b) #[] #[.pointer (some ⟨c0,0,none⟩)]] 100)) zW 28 (w.heap.size+3) 11 oS oD);clear g i j k;have c:=hid (GK H 156 #[ptr (w.heap.size+1),ptr (w.heap.size+2)] (AI [((w.heap.size+1),.int .i64 a),((w.heap.size+2),.func (.func b) #[] #[.pointer (some ⟨c0,0,none⟩)]),(c0,.int .i64 a)]) V p P (fh p a) ((((w.alloc (.cells (de V) 28)).alloc (.cells #[.int .i64 a] 3)).alloc (.cells #[.func (.func b) #[] #[.pointer (some ⟨c0,0,none⟩)]] 100)).alloc (.cells zW 28)) (hv.below d) s Gy (fun X h=>B.below h) (fun h=>(r h _ _).Kb o));unfold ptr at c;generalize dE p (fh p a)=G at c ⊢;generalize dP p P (fh p a)=J at c ⊢;clear hv s u y z f o r;go_enter Tryz.func79,Tryz.ntmps79
 go_wp2_with (first|((with_reducible refine gld 28 ?_);refine gg oR _ rfl _ rfl V C ?_))
 generalize World.alloc _ _=I at*;refine c.mono ?_;rintro q w1 ⟨X,rfl,hF,e⟩;have n:=hid (cw E e);have one:=hid (gO hF.v0);have D:=hid (World.rangeAt_setCells_same w1 (w.heap.size+3) 0 (de X).toList n);have A:=hid (bT (btr d e) (show w.heap.size<=w.heap.size+3 by omega) (de X).toList 0);have F:=hid ((hF.put (w.heap.size+3) 0 (de X).toList (by rw[m.out];omega)).mono (show w.heap.size<=_ by rw[m.out];omega));clear hF e c;go_wp2_with (first|((with_reducible refine gst 28 ?_);refine wpList_store_mid rfl 28 _ _ rfl (w.heap.size+3) 0 (de X) rfl rfl n fA one ?_))
 exact ar (v:=.tuple #[.agg (de X),eV G]) (iJ rfl rfl (run_loadVar_mid _ (w.heap.size+3) 0 28 (de X).toList _ D Tryz.underlying28 rfl fA) rfl) rfl ⟨X,rfl,F.out,A.out⟩
theorem rU (V:Nat->Value) (p:PW) (a:Int) (w:World) (hv:eu w V p) (c:p.Fits) (z:p4 p=true):
  Calls Tryz.prog 17 #[.agg (de V),.int .i64 a] w fun x w'=>∃X,x=.returned (.tuple #[.agg (de X),eV (dE p (fh p a))])∧vJ w' w.heap.size X (dP p (j6 p a) (fh p a))∧Below w.heap.size w w':=by
 have i:=lQ w V 28;have j:=bf i (bal (af _ (w.alloc (.cells (de V) 28))) (.cells #[.int .i64 a] 3));have k:=bf j (bal (af _ ((w.alloc (.cells (de V) 28)).alloc (.cells #[.int .i64 a] 3))) (.cells zW 28));have r:=hid k;have g:=hid (bal (bal (bal (af w.heap.size w) (.cells (de V) 28)) (.cells #[.int .i64 a] 3)) (.cells zW 28));have f:=(fe (ir (w.alloc (.cells (de V) 28)) #[.int .i64 a] 3 (w.heap.size+1) oS) oS (.cells zW 28)) 0;have A:=hid (show AI [((w.heap.size+1),.int .i64 a)] (((w.alloc (.cells (de V) 28)).alloc (.cells #[.int .i64 a] 3)).alloc (.cells zW 28)) from fun x n=>by
  simp only[bK,dA,or_false] at n;subst n;exact f)
 have l:=hid (show (((w.alloc (.cells (de V) 28)).alloc (.cells #[.int .i64 a] 3)).alloc (.cells zW 28)).heap.size=w.heap.size+3 by simp);have t:=hid (aP ((w.alloc (.cells (de V) 28)).alloc (.cells #[.int .i64 a] 3)) zW 28 (w.heap.size+2) 11 oS oD);clear i j k;have d:=hid (tw hv.IK);have b:=hid (Du z 82 V p (j6 p a) a (w.heap.size+1) (((w.alloc (.cells (de V) 28)).alloc (.cells #[.int .i64 a] 3)).alloc (.cells zW 28)) (hv.below g) c f (Hn c d a).2 (fun h c1 c2=>sZ c1 c2 _ a p c d h));generalize dE p (fh p a)=y at b ⊢;generalize dP p (j6 p a) (fh p a)=C at b ⊢;clear hv c d f;go_enter Tryz.func17,Tryz.ntmps17
 go_wp2_with (first|((with_reducible refine gld 28 ?_);refine gg oR _ rfl _ rfl V r ?_))
 generalize World.alloc _ _=B at*;refine b.mono ?_;rintro q w1 ⟨X,rfl,hF,e⟩;have m:=hid (cw t e);have one:=hid (gO hF.v0);have s:=hid (World.rangeAt_setCells_same w1 (w.heap.size+2) 0 (de X).toList m);have o:=hid (bT (btr g e) (show w.heap.size<=w.heap.size+2 by omega) (de X).toList 0);have u:=hid ((hF.put (w.heap.size+2) 0 (de X).toList (by rw[l.out];omega)).mono (show w.heap.size<=_ by rw[l.out];omega));clear hF e b;go_wp2_with (first|((with_reducible refine gst 28 ?_);refine wpList_store_mid rfl 28 _ _ rfl (w.heap.size+2) 0 (de X) rfl rfl m fA one ?_))
 exact ar (v:=.tuple #[.agg (de X),eV y]) (iJ rfl rfl (run_loadVar_mid _ (w.heap.size+2) 0 28 (de X).toList _ s Tryz.underlying28 rfl fA) rfl) rfl ⟨X,rfl,u.out,o.out⟩
theorem tx (V:Nat->Value) (p:PW) (a:Int) (w:World) (hv:eu w V p) (B:p.Fits) (m:p4 p=true):
  Calls Tryz.prog 28 #[.agg (de V),.int .i64 a] w fun x w'=>∃v,x=.returned (.tuple #[v,eV (dE p (fh p a))])∧ed w' v (unL p a)∧Below w.heap.size w w':=by
 have l:=hid (lQ w V 28);have j:=hid (bal (af w.heap.size w) (.cells (de V) 28));have s:=hid (oU V p (w.alloc (.cells (de V) 28)) (hv.below j) B (kM m));have A:=hid (fun W (c:Below (w.alloc (.cells (de V) 28)).heap.size (w.alloc (.cells (de V) 28)) W)=>(⟨bf l c,hv.below (btr j c),B⟩:d6 W w.heap.size V p));have hl:(p.IH.length:Int)<=1000:=by have:=B.IH;omega
 have X:=hid (kM m);have Y:=hid m;have E:=hid (show dE p (fh p a)=fh p a by unfold dE;rw[m];rfl);clear hv B m;by_cases c:fh p a=0
 rotate_left
 ·have F:=hid (show unL p a=[] from ae fun h=>c h.2);have D:=hid (Gf c);have d:=hid (fun W h=>pf w.heap.size V p a W h);rw[D.out] at d;obtain⟨e,H⟩:∃e,fh p a=e:=⟨_,rfl⟩
  have R:=hid (show dE p (fh p a)=e from E.trans H);rw[H] at d D c;clear H E;go_enter Tryz.func28,Tryz.ntmps28
  go_wp2_with (first|((with_reducible refine gld 28 ?_);refine gg oR _ rfl _ rfl V l ?_))
  refine s.mono ?_;rintro r w1 ⟨rfl,G⟩;have C:=hid (btr j G);have g:=hid (A.out w1 G);clear G s l A;clear c;go_wp2_with fail
  refine (d.out w1 g).mono ?_;rintro r w2 ⟨rfl,rfl⟩;go_wp2_with fail
  go_ret2
  exact⟨.slice none 0 0,by rw[R.out,D.out];rfl,by rw[F.out];exact Ct _,C.out⟩
 obtain⟨t,rfl,ht, -⟩:=mJ c;obtain⟨r,O⟩:=rL X;have F:=hid (show unL p t=mdL p.IH t p.IH.length by unfold unL;rw[ag ⟨Y.out,c⟩,ah]);have d:=hid (fun W h=>pf w.heap.size V p t W h);rw[c,Ex] at d;have S:=hid c;have Z:=hid O;clear c O ht;go_enter Tryz.func28,Tryz.ntmps28
 go_wp2_with (first|((with_reducible refine gld 28 ?_);refine gg oR _ rfl _ rfl V l ?_))
 refine s.mono ?_;rintro r w1 ⟨rfl,c⟩;have C:=hid (btr j c);have g:=hid (A.out w1 c);clear c s l A j;go_wp2_with fail
 refine (d.out w1 g).mono ?_;rintro r2 w2 ⟨rfl,rfl⟩;clear d;have c2:w1.cell? ⟨w.heap.size,2,none⟩=some (V 2):=ai g.r rfl;obtain⟨q,b,off,cap,e2, -, -⟩:=g.v.IH;go_wp2_with fail
 clear c2 e2
 go_loopw [7,21] (fun u i wr=>∃(k:Nat) (n:Option Addr) (cu:Nat),k<=p.IH.length∧i=.int .i64 k∧u=.slice n (mdL p.IH t k).length cu∧Hid (wr.ownsRow w1.heap.size 3 1 (.slice n (mdL p.IH t k).length cu) (mdL p.IH t k).length (dU (mdL p.IH t k)))∧Hid (Below w1.heap.size w1 wr)) (fun _ i _=>p.IH.length - (intOf i).toNat)
 case atStart=>exact⟨0,none,0,oA,rfl,rfl,hid (ct _ _ _ _),hid (af _ _)⟩
 case round=>
  obtain⟨k,n,cu,hk,rfl,rfl,z,o⟩:=hrel;by_cases aa:k<p.IH.length
  ·have ac:(k:Int)<(p.IH.length:Int):=oA;have J:=hid (show (mdL p.IH t k).length<=1000 from aB (xF _ _ _) oA);have f:=hid (pH p.IH t k);have I:=hid (mR w.heap.size V p k t wr (g.below o) Z aa);generalize mdL p.IH t k=zs at z J f ⊢;go_wp2_with fail
   refine I.mono ?_;rintro x w3 ⟨rfl,rfl⟩;clear I
   cases e:unB p.IH t k with
   |false=>
    rw[e,ae oD,dJ] at f;clear e;go_wp2_with fail
    refine⟨⟨k+1,n,cu,oA,by go_num,by rw[f.out],hid (by rw[f.out];exact z),o⟩,by simp[intOf];omega⟩
   |true=>
    rw[e,ag rfl] at f;obtain⟨P,K,w',N,L,M⟩:=AJ (y:=(k:Int)) o J z;have U:=hid N;have T:=hid L;have Q:=hid M;clear N L M e;go_wp2_with (first|(at_builtin;refine fD rfl _ _ 22 rfl (.slice n zs.length cu) (.slice (some ⟨wr.heap.size,0,none⟩) 1 1) (.slice P (zs.length+1) K) rfl rfl U ?_))
    exact⟨⟨k+1,P,K,oA,by go_num,by rw[f.out,ax];rfl,hid (by rw[f.out];have:=T.out;rw[ax] at this ⊢;exact this),Q⟩,by simp[intOf];omega⟩
  ·obtain rfl:k=p.IH.length:=oA;have ab:¬((p.IH.length:Int)<(p.IH.length:Int)):=oA;go_wp2_with fail
   go_ret2
   exact⟨_,by rw[E.out,S.out];rfl,by rw[F.out];exact dN z,btr C o⟩
section
variable {p : PW} (h : Lv p) (V : Nat -> Value) (w : World) (hv : eu w V p)
include h
end
