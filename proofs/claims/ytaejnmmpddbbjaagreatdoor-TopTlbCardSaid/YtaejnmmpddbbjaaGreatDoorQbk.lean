/- Qbk -/
import Derived.BigQuiet
import Derived.Test.YtaejnmmpddbbjaaGreatDoorQbf
namespace Go.Proofs.YtaejnmmpddbbjaaGreatDoor.Wd
open Go.RowKit Mem Bw Nums Mmu
def Rm (p q:PW):Prop:=Sm p q∧∃X R,q={p with tlbs:=X,ram:=R}
theorem Rm.refl {p:PW} (h:Lv p):Rm p p:=⟨Sm.refl h,_,_,rfl⟩
theorem Rm.trans {p q r:PW} (h:Rm p q) (g:Rm q r):Rm p r:=by
 obtain⟨a,X,R,rfl⟩:=h;obtain⟨b,Y,T,rfl⟩:=g;exact⟨a.trans b,Y,T,rfl⟩
def Tb (p:PW) (wb:Nat) (tag:Nat→Nat) (V:Nat→Value) (W W':World):Prop:=∃tag' q,Kt tag tag' W W'∧BoxT W' wb tag' V q∧Rm p q
theorem BoxT.ramIn {W:World} {wb:Nat} {tag:Nat→Nat} {V:Nat→Value} {p:PW} (bt:BoxT W wb tag V p) (h:Lv p):RamIn W (V 0) p.ram:=
 ⟨dm bt.o.ram.1,fun z a=>by have:=h.w.m.ram.w z a;omega,by have:=h.w.m.tk.lf.ram;have:=h.w.m.tk.lf.k2;omega⟩
theorem Lv.tlbAt {p:PW} (h:Lv p) {c:Nat} (a:c<p.tlbs.length):TlO p (p.tlbs.getD c []):=h.w.tl _ (by rw[aa,ac a];exact aw a)
theorem BoxT.putTlb {W W1:World} {wb:Nat} {tag:Nat→Nat} {V:Nat→Value} {p:PW} (bt:BoxT W wb tag V p) {g c:Nat} (e:V 8=.slice (some ⟨g,0,none⟩) p.tlbs.length p.tlbs.length) (d:c<p.tlbs.length) (a:Below W.heap.size W W1) {v u:Value} {l:List Ent}
  (A:W.cell? ⟨g,c,none⟩=some v) (z:u=v∧l=p.tlbs.getD c []∨TlbNew W.heap.size W1 u l):
  ∃tag',BoxT (W1.setCell ⟨g,c,none⟩ u) wb tag' V {p with tlbs:=p.tlbs.set c l}∧Kt tag tag' W (W1.setCell ⟨g,c,none⟩ u):=by
 have LT:TlbT W tag p.tlbs.length (.slice (some ⟨g,0,none⟩) p.tlbs.length p.tlbs.length) p.tlbs:=by rw[←e];exact bt.o.tlbs
 obtain⟨v',B,w⟩:=LT.at d;obtain rfl:v=v':=aK (A.symm.trans B);have C:Kp (fun b=>tag b=14+3*c) W W1:=.of_below a;have t:InE W1 (tagN tag W.heap.size (14+3*c)) (14+3*c) u l:=by
  rcases z with ⟨rfl,rfl⟩|⟨q,b,off,cap,j,m,n,r,D,s⟩
  ·exact w.kp (T:=fun _=>False) (.of_below a) (fun k hk=>cW hk) (fun _ _=>id)
  ·obtain⟨h,rfl⟩:=m;exact .inr ⟨b,off,cap,j,n,by unfold tagN;rw[ae (by omega)],h,r,s⟩
 obtain⟨y,f⟩:=LT.put d rfl C (fun b a=>cW a) t;refine⟨_,bt.tlbs f (fun b a=>cW a) (by rw[ar,e];exact y),.of f (fun b x=>by rcases x with x|⟨i,x⟩<;>omega) (fun b a=>cW a)⟩
end Go.Proofs.YtaejnmmpddbbjaaGreatDoor.Wd
namespace Go.Proofs.YtaejnmmpddbbjaaGreatDoor.Rf
section
variable {P : Program} {ops : Array Oper} {Q : Exit → Act → World → Prop} {md : Region.Mode} {S R : World → Prop} {fs : List Nat}
theorem wpAnyF_groupK (e:Region.noSelect ops=true) (w:World) (d:S w) (c:R w):∀(is:List Nat) (fuel:Nat) (b:Array Bool) (a:Act),tkS md ops fs is b=true→
  rd P ops Q S (fun f=>wpAnyF P md ops Q S R fs fuel (setL b is) f w) is a→wpAnyF P md ops Q S R fs (fuel+is.length) b a w
 |[],_,_,_,_,h=>h
 |i::r,fuel,b,a,hb,h=>by
  unfold tkS at hb;simp only[am,dw] at hb;obtain⟨⟨g,j,k⟩,l⟩:=hb;unfold rd at h
  cases ho:ops[i]? with
  |none=>rw[ho] at h;exact h.elim
  |some o=>
   rw[ho] at h;obtain⟨v,p,m,n⟩:=h;exact wpAnyF_take ho e g j k m p d (fun _=>c) (wpAnyF_groupK e w d c r fuel (b.setIfInBounds i true) (a.put o.dst v) l n)
theorem _root_.Go.Proofs.YtaejnmmpddbbjaaGreatDoor.bH:type_of% @wpAnyF_groupK:= @wpAnyF_groupK
end
end Go.Proofs.YtaejnmmpddbbjaaGreatDoor.Rf
namespace Go.Proofs.YtaejnmmpddbbjaaGreatDoor.Wd
open Go.RowKit Mem Bw Nums Mmu
def StR (b2 b3 b4 wb g0 n0 k0 g8 n8 gt nt kt c t:Nat) (v:Value) (s:Int) (W:World):Prop:=
 W.cell? ⟨b2,0,none⟩=some (.pointer (some ⟨wb,0,none⟩))∧W.cell? ⟨b3,0,none⟩=some (.int .i64 (c:Int))∧W.cell? ⟨b4,0,none⟩=some (.int .i64 (t:Int))∧W.cell? ⟨wb,0,none⟩=some (.slice (some ⟨g0,0,none⟩) n0 k0)∧W.cell? ⟨wb,8,none⟩=some (.slice (some ⟨g8,0,none⟩) n8 n8)∧W.cell? ⟨wb,3,none⟩=some (.slice (some ⟨gt,0,none⟩) nt kt)∧W.cell? ⟨g8,c,none⟩=some v∧W.cell? ⟨gt,t*20+12,none⟩=some (.int .i64 s)
theorem cu {b W:World} (h:Below b.heap.size b W) {a:Addr} {v:Value} (e:b.cell? a=some v):W.cell? a=some v:=(h.cell (al _ _ e)).trans e
theorem StR.below {b2 b3 b4 wb b n0 f d g e nt kt c t:Nat} {v:Value} {s:Int} {W W':World} (h:StR b2 b3 b4 wb b n0 f d g e nt kt c t v s W) (a:Below W.heap.size W W'):StR b2 b3 b4 wb b n0 f d g e nt kt c t v s W':=by
 obtain⟨i,j,k,l,m,n,o,p⟩:=h;exact⟨cu a i,cu a j,cu a k,cu a l,cu a m,cu a n,cu a o,cu a p⟩
theorem st_r {wb:Nat} {tag:Nat→Nat} {V:Nat→Value} {p:PW} {W:World} (bt:BoxT W wb tag V p) (l:Lv p) {b2 b3 b4 c t:Nat} (j:c<p.tlbs.length) (q:t<p.kinds.length) (cs:CapsT [(b2,ptr wb),(b3,.int .i64 (c:Int)),(b4,.int .i64 (t:Int))] tag W):
  ∃a e b d kt v,V 0=.slice (some ⟨a,0,none⟩) p.ram.length e∧V 8=.slice (some ⟨b,0,none⟩) p.tlbs.length p.tlbs.length∧V 3=.slice (some ⟨d,0,none⟩) p.tasks.length kt∧InE W tag (14+3*c) v (p.tlbs.getD c [])∧StR b2 b3 b4 wb a p.ram.length e b p.tlbs.length d p.tasks.length kt c t v (p.t t 12) W:=by
 have lf:=l.w.m.tk.lf;obtain⟨a,e,i⟩:∃g cap,V 0=.slice (some ⟨g,0,none⟩) p.ram.length cap:=bt.o.ram.form (by have:=lf.ram;show 0<p.ram.length;omega)
 obtain⟨d,kt,f⟩:∃g cap,V 3=.slice (some ⟨g,0,none⟩) p.tasks.length cap:=bt.o.tasks.form (by have:=lf.tasks;show 0<p.tasks.length;omega)
 obtain⟨b,e8⟩:=bt.o.tlbs.form;have h:=bt.o.tlbs;rw[e8] at h;obtain⟨v,n,k⟩:=h.at j;refine⟨a,e,b,d,kt,v,i,e8,f,k,(cs (b2,ptr wb) (by simp)).1,(cs (b3,.int .i64 (c:Int)) (by simp)).1,(cs (b4,.int .i64 (t:Int)) (by simp)).1,?_,?_,?_,n,bt.taskAt f (by have:=lf.tasks;omega) (by decide)⟩
 ·rw[←i];exact af bt.r rfl
 ·rw[←e8];exact af bt.r rfl
 ·rw[←f];exact af bt.r rfl
theorem TlbNew.below {B:Nat} {w w':World} {v:Value} {l:List Ent} (h:TlbNew B w v l) (i:Below w.heap.size w w'):TlbNew B w' v l:=by
 obtain⟨q,b,off,cap,a,c,d,e,f,g⟩:=h;exact⟨q,b,off,cap,a,c,d.below i,e,f,g⟩
set_option maxRecDepth 100000
set_option maxHeartbeats 8000000
theorem load_ok (wb:Nat) (tag:Nat→Nat) (V:Nat→Value) (p:PW) (b2 b3 b4 c t:Nat) (a:Int) (w:World) (bt:BoxT w wb tag V p) (j:Lv p) (O:c<p.tlbs.length) (y:p.k t=6) (cs:CapsT [(b2,ptr wb),(b3,.int .i64 (c:Int)),(b4,.int .i64 (t:Int))] tag w):
  Calls Tryz.prog 45 #[.int .i64 a,ptr b2,ptr b3,ptr b4] w fun r w'=>∃(v:Int) (ok:Bool),r=.returned (.tuple #[.int .i64 v,.bool ok])∧(0≤v∧v≤65535)∧Tb p wb tag V w w':=by
 have ht:=k_in (p:=p) (f:=t) (by rw[y];decide);obtain⟨D,P,E,gt,kt,v,e0,e8,e3,ah,hr⟩:=st_r bt j O ht cs;obtain⟨L,hL⟩:∃L,lookR p.ram (p.tlbs.getD c []) (p.t t 12) a false=L:=⟨_,rfl⟩
 have TL:=j.tlbAt O;have hs:isOrB p (p.t t 12) 4=true:=j.w.m.tk.a.ok t y 12 (by decide);have Y:=hid (look_lv j.w TL (wr:=false) (a:=a) hs);obtain⟨x,l',e⟩:=L;rw[hL] at Y;have lf:=j.w.m.tk.lf;have C:=hid (show Below w.heap.size w w.drew from aA w 1);have RI:=bt.ramIn j;rw[e0] at RI;have ae:=(ah.tlb (by have:=TL.n;omega)).1;obtain⟨I,H,kv,ev⟩:∃q n k,v=.slice q n k:=by obtain⟨q,b,off,cap,h,_⟩:=ae;exact⟨_,_,_,h⟩
 subst ev;have Z:=looked_any (.slice (some ⟨D,0,none⟩) p.ram.length P) (.slice I H kv) p.ram (p.tlbs.getD c []) (p.t t 12) a false w.drew (RI.below C) (ae.below C);rw[hL] at Z;have LK:=hid Z;have X:=hid bt;have CS:=hid cs;have z:=hid j;have E0:=hid e0;have E8:=hid e8;have HC:=hid O;have H1:=hid hr;have i:=hid (hr.below C);have ax:(c:Int)<(p.tlbs.length:Int):=by omega
 have aG:(t:Int)<(p.tasks.length:Int):=by have:=lf.tasks;omega
 have ay:(p.tlbs.length:Int)≤1000:=by have:=lf.tlbs;have:=lf.c2;omega
 have aH:(p.tasks.length:Int)≤1000:=by have:=lf.tasks;have:=lf.k2;omega
 have av:(0:Int)≤(c:Int):=by omega
 have aF:(0:Int)≤(t:Int):=by omega
 generalize p.t t 12=s at*;clear bt cs j e0 e8 e3 ah hr hL Z lf RI ae hs TL ht O y;unfold ptr;go_enter Tryz.func45,Tryz.ntmps45
 go_wp2_with fail
 refine Rf.wp_region_F (S:=StR b2 b3 b4 wb D p.ram.length P E p.tlbs.length gt p.tasks.length kt c t (.slice I H kv) s) (R:=fun _=>True) [] (by kernel_rfl) i trivial (fun _ _=>?_);generalize w.drew=w1 at*;refine bH (by kernel_rfl) _ i trivial [0,4,8,11,15] 23 _ _ (by kernel_rfl) ?_
 repeat (refine aJ rfl (by rfl) (fun _ _ _ _ h=>h) ?_;apply Exists.intro;refine⟨fun W h=>?_,?_⟩;(focus (obtain⟨h1,A,h3,h4,h5,y,h7,B⟩:=h;go_simp;try rfl));simp only[jj])
 refine aE ?_;refine bH (by kernel_rfl) _ i trivial [1,2,5,6,12,13,19] 16 _ _ (by kernel_rfl) ?_
 repeat (refine aJ rfl (by rfl) (fun _ _ _ _ h=>h) ?_;apply Exists.intro;refine⟨fun W _=>?_,?_⟩;(focus (go_simp;try rfl));simp only[jj])
 refine aE ?_;refine bH (by kernel_rfl) _ i trivial [3,7,14] 13 _ _ (by kernel_rfl) ?_
 repeat (refine aJ rfl (by rfl) (fun _ _ _ _ h=>h) ?_;apply Exists.intro;refine⟨fun W h=>?_,?_⟩;(focus (obtain⟨h1,A,h3,h4,h5,y,h7,B⟩:=h;go_simp;try rfl));simp only[jj])
 refine aE ?_;refine bH (by kernel_rfl) _ i trivial [9,16,17] 10 _ _ (by kernel_rfl) ?_
 repeat (refine aJ rfl (by rfl) (fun _ _ _ _ h=>h) ?_;apply Exists.intro;refine⟨fun W _=>?_,?_⟩;(focus (go_simp;try rfl));simp only[jj])
 refine aE ?_;refine bH (by kernel_rfl) _ i trivial [10,18] 8 _ _ (by kernel_rfl) ?_
 repeat (refine aJ rfl (by rfl) (fun _ _ _ _ h=>h) ?_;apply Exists.intro;refine⟨fun W h=>?_,?_⟩;(focus (obtain⟨h1,A,h3,h4,h5,y,h7,B⟩:=h;go_simp;try rfl));simp only[jj])
 refine aE ?_;refine Rf.r1 20 rfl (fun K F=>?_);refine wnt (by rfl) ?_;go_simp
 refine LK.mono ?_;rintro r w2 ⟨u,rfl,hT,hb⟩;have J:=hid (i.below hb);have T:=hid (btr C hb);have T2:=hid (fun (N:e=0)=>(hT N).imp id fun g=>g.low C.size);clear hT hb LK i;go_wp2_with fail
 refine F _ _ J (fun _=>trivial) (fun _ _=>?_);clear F K
 try simp only[jj]
 refine bH (by kernel_rfl) _ J trivial [21,22,23,24,25,26,27] 0 _ _ (by kernel_rfl) ?_
 repeat (refine aJ rfl (by rfl) (fun _ _ _ _ h=>h) ?_;apply Exists.intro;refine⟨fun W _=>?_,?_⟩;(focus (go_simp;try rfl));simp only[jj])
 refine aE ?_;refine aL (by kernel_rfl) ?_ _;by_cases N:e=0
 ·subst N;obtain⟨ai,f,ab,hx,am⟩:=Y.out rfl;have T3:=hid (T2.out rfl);have HX:=hid hx;have hk:=ab;obtain⟨d,G⟩:∃d:Nat,d=f*16+(a%16).toNat:=⟨_,rfl⟩
  have an:x=(d:Int):=by omega
  subst an;have ag:d<p.ram.length:=by
   have:=k_in (p:=p) (f:=f) (by rw[ab];decide);have:=z.w.m.tk.lf.ram;omega
  have HD:=hid ag;have aB:(d:Int)<(p.ram.length:Int):=by omega
  have az:(0:Int)≤(d:Int):=by omega
  have aD:(p.ram.length:Int)≤1000:=by have:=z.w.m.tk.lf.ram;have:=z.w.m.tk.lf.k2;omega
  have ar:=hid (show d/16=f∧p.k f=2 by omega);have HL:=hid ai;obtain⟨qu,nu,ku,hu⟩:∃q n k,u=.slice q n k:=by
   rcases T3.out with g|g
   ·exact⟨_,_,_,g.1⟩
   ·obtain⟨q,b,off,cap,h,_⟩:=g;exact⟨_,_,_,h⟩
  subst hu;clear hx ag ab hk ai G am T2 Y;go_upto_region 4 with fail
  have U:=hid (show Below w2.heap.size w2 w2.drew from aA w2 1);have B3:=hid (btr T U);have R3:=hid (J.below U);have FZ:=hid (show w2.drew.frozen? ⟨E,c,none⟩=false from by
   have A:=(X.below B3).o.tlbs;rw[E8.out] at A;exact A.fr c)
  have PT:=hid (X.putTlb E8 HC B3 (v:=.slice I H kv) (u:=.slice qu nu ku) (l:=l') H1.2.2.2.2.2.2.1 (T3.imp id fun g=>TlbNew.below g U));refine aX (R:=StR b2 b3 b4 wb D p.ram.length P E p.tlbs.length gt p.tasks.length kt c t (.slice I H kv) s) [7] [0,1,2,3,4,5,6] 1 (by kernel_rfl) R3 (by kernel_rfl) (by kernel_rfl) (by kernel_rfl) (fun _=>?_);generalize w2.drew=w3 at*
  repeat (refine aJ rfl (by rfl) (fun _ _ _ _ h=>h) ?_;apply Exists.intro;refine⟨fun W h=>?_,?_⟩;(focus (obtain⟨h1,A,h3,h4,h5,y,h7,B⟩:=h;go_simp;try rfl));simp only[jj])
  refine aE ?_;refine Rf.r1 7 rfl (fun K F=>?_);have y4:w3.cell? ⟨E,c,none⟩=some (.slice I H kv):=R3.2.2.2.2.2.2.1;have fz:=FZ.out;go_simp
  refine F _ _ trivial (bF (by kernel_rfl)) (fun _ _=>?_);clear F K y4 fz
  try simp only[jj]
  refine aL (by kernel_rfl) ?_ _;obtain⟨ap,M,ad⟩:=PT.out;generalize w3.setCell ⟨E,c,none⟩ (Value.slice qu nu ku)=Q at*;have y0:Q.cell? ⟨b2,0,none⟩=some (.pointer (some ⟨wb,0,none⟩)):=((CS.kt ad) (b2,ptr wb) (by simp)).1;have y1:Q.cell? ⟨wb,0,none⟩=some (.slice (some ⟨D,0,none⟩) p.ram.length P):=by rw[←E0.out];exact af M.r rfl
  obtain⟨y2,aj⟩:Q.cell? ⟨D,d,none⟩=some (.int .i64 (p.ram.getD d 0))∧0≤p.ram.getD d 0∧p.ram.getD d 0≤65535:=by
   have G:=HD.out;obtain⟨q,b,o,k,e,hq,ao⟩:=dm M.o.ram.1;rw[E0.out] at e
   cases e
   have h9:=hq (by show 0<p.ram.length;omega)
   cases h9
   have B:=ao d G;rw[aC] at B;rw[aa,ac G];exact⟨B,z.w.m.ram.w _ (aw G)⟩
  have al:=hid (show Tb p wb tag V w Q from⟨ap,_,ad,M,z.tlb HL,_,_,rfl⟩);have HR:=hid aj;clear aj M ad PT R3 FZ H1 T3 J;generalize p.ram.getD d 0=vv at*;go_wp2_with fail
  refine aq (v:=.tuple #[.int .i64 vv,.bool true]) (by simp[results,Tryz.results45,go_sem]) rfl ⟨vv,true,rfl,HR.out,al.out⟩
 ·have au:(e==0)=false:=by simp[N]
  go_wp2_with fail
  refine aq (v:=.tuple #[.int .i64 0,.bool false]) (by simp[results,Tryz.results45,go_sem]) rfl ⟨0,false,rfl,by decide,tag,p,aW T,X.below T,Rm.refl z⟩
theorem store_ok (wb:Nat) (tag:Nat→Nat) (V:Nat→Value) (p:PW) (b2 b3 b4 c t:Nat) (a:Int) (v0:Int) (ai:0≤v0∧v0≤65535) (w:World) (bt:BoxT w wb tag V p) (B:Lv p) (U:c<p.tlbs.length) (D:p.k t=6) (cs:CapsT [(b2,ptr wb),(b3,.int .i64 (c:Int)),(b4,.int .i64 (t:Int))] tag w):
  Calls Tryz.prog 47 #[.int .i64 a,.int .i64 v0,ptr b2,ptr b3,ptr b4] w fun r w'=>∃ok:Bool,r=.returned (.bool ok)∧Tb p wb tag V w w':=by
 have ht:=k_in (p:=p) (f:=t) (by rw[D];decide);obtain⟨C,X,I,gt,kt,v,e0,e8,e3,ag,hr⟩:=st_r bt B U ht cs;obtain⟨L,hL⟩:∃L,lookR p.ram (p.tlbs.getD c []) (p.t t 12) a true=L:=⟨_,rfl⟩
 have TL:=B.tlbAt U;have hs:isOrB p (p.t t 12) 4=true:=B.w.m.tk.a.ok t D 12 (by decide);have ES:=hid (look_lv B.w TL (wr:=true) (a:=a) hs);obtain⟨x,l',e⟩:=L;rw[hL] at ES;have lf:=B.w.m.tk.lf;have G:=hid (show Below w.heap.size w w.drew from aA w 1);have RI:=bt.ramIn B;rw[e0] at RI;have ad:=(ag.tlb (by have:=TL.n;omega)).1;obtain⟨N,M,kv,ev⟩:∃q n k,v=.slice q n k:=by obtain⟨q,b,off,cap,h,_⟩:=ad;exact⟨_,_,_,h⟩
 subst ev;have aa:=looked_any (.slice (some ⟨C,0,none⟩) p.ram.length X) (.slice N M kv) p.ram (p.tlbs.getD c []) (p.t t 12) a true w.drew (RI.below G) (ad.below G);rw[hL] at aa;have LK:=hid aa;have BT:=hid bt;have CS:=hid cs;have H:=hid B;have E0:=hid e0;have E8:=hid e8;have HC:=hid U;have H1:=hid hr;have A:=hid (hr.below G);have ax:(c:Int)<(p.tlbs.length:Int):=by omega
 have aG:(t:Int)<(p.tasks.length:Int):=by have:=lf.tasks;omega
 have ay:(p.tlbs.length:Int)≤1000:=by have:=lf.tlbs;have:=lf.c2;omega
 have aH:(p.tasks.length:Int)≤1000:=by have:=lf.tasks;have:=lf.k2;omega
 have aw:(0:Int)≤(c:Int):=by omega
 have aF:(0:Int)≤(t:Int):=by omega
 generalize p.t t 12=s at*;clear bt cs B e0 e8 e3 ag hr hL aa lf RI ad hs TL ht U D;unfold ptr;go_enter Tryz.func47,Tryz.ntmps47
 go_wp2_with fail
 refine Rf.wp_region_F (S:=StR b2 b3 b4 wb C p.ram.length X I p.tlbs.length gt p.tasks.length kt c t (.slice N M kv) s) (R:=fun _=>True) [] (by kernel_rfl) A trivial (fun _ _=>?_);generalize w.drew=w1 at*;refine bH (by kernel_rfl) _ A trivial [0,4,8,11,15] 23 _ _ (by kernel_rfl) ?_
 repeat (refine aJ rfl (by rfl) (fun _ _ _ _ h=>h) ?_;apply Exists.intro;refine⟨fun W h=>?_,?_⟩;(focus (obtain⟨h1,j,h3,h4,h5,D,h7,F⟩:=h;go_simp;try rfl));simp only[jj])
 refine aE ?_;refine bH (by kernel_rfl) _ A trivial [1,2,5,6,12,13,19] 16 _ _ (by kernel_rfl) ?_
 repeat (refine aJ rfl (by rfl) (fun _ _ _ _ h=>h) ?_;apply Exists.intro;refine⟨fun W _=>?_,?_⟩;(focus (go_simp;try rfl));simp only[jj])
 refine aE ?_;refine bH (by kernel_rfl) _ A trivial [3,7,14] 13 _ _ (by kernel_rfl) ?_
 repeat (refine aJ rfl (by rfl) (fun _ _ _ _ h=>h) ?_;apply Exists.intro;refine⟨fun W h=>?_,?_⟩;(focus (obtain⟨h1,j,h3,h4,h5,D,h7,F⟩:=h;go_simp;try rfl));simp only[jj])
 refine aE ?_;refine bH (by kernel_rfl) _ A trivial [9,16,17] 10 _ _ (by kernel_rfl) ?_
 repeat (refine aJ rfl (by rfl) (fun _ _ _ _ h=>h) ?_;apply Exists.intro;refine⟨fun W _=>?_,?_⟩;(focus (go_simp;try rfl));simp only[jj])
 refine aE ?_;refine bH (by kernel_rfl) _ A trivial [10,18] 8 _ _ (by kernel_rfl) ?_
 repeat (refine aJ rfl (by rfl) (fun _ _ _ _ h=>h) ?_;apply Exists.intro;refine⟨fun W h=>?_,?_⟩;(focus (obtain⟨h1,j,h3,h4,h5,D,h7,F⟩:=h;go_simp;try rfl));simp only[jj])
 refine aE ?_;refine Rf.r1 20 rfl (fun K J=>?_);refine wnt (by rfl) ?_;go_simp
 refine LK.mono ?_;rintro r w2 ⟨u,rfl,hT,hb⟩;have P:=hid (A.below hb);have Y:=hid (btr G hb);have T2:=hid (fun (T:e=0)=>(hT T).imp id fun g=>g.low G.size);clear hT hb LK A;go_wp2_with fail
 refine J _ _ P (fun _=>trivial) (fun _ _=>?_);clear J K
 try simp only[jj]
 refine bH (by kernel_rfl) _ P trivial [21,22,23,24,25,26,27] 0 _ _ (by kernel_rfl) ?_
 repeat (refine aJ rfl (by rfl) (fun _ _ _ _ h=>h) ?_;apply Exists.intro;refine⟨fun W _=>?_,?_⟩;(focus (go_simp;try rfl));simp only[jj])
 refine aE ?_;refine aL (by kernel_rfl) ?_ _;by_cases T:e=0
 ·subst T;obtain⟨ah,f,ab,hx,am⟩:=ES.out rfl;have T3:=hid (T2.out rfl);have HX:=hid hx;have hk:=ab;obtain⟨d,hd⟩:∃d:Nat,d=f*16+(a%16).toNat:=⟨_,rfl⟩
  have an:x=(d:Int):=by omega
  subst an;have ae:d<p.ram.length:=by
   have:=k_in (p:=p) (f:=f) (by rw[ab];decide);have:=H.w.m.tk.lf.ram;omega
  have HD:=hid ae;have aB:(d:Int)<(p.ram.length:Int):=by omega
  have az:(0:Int)≤(d:Int):=by omega
  have aD:(p.ram.length:Int)≤1000:=by have:=H.w.m.tk.lf.ram;have:=H.w.m.tk.lf.k2;omega
  have E:=hid (show d/16=f∧p.k f=2 by omega);have HL:=hid ah;obtain⟨qu,nu,ku,hu⟩:∃q n k,u=.slice q n k:=by
   rcases T3.out with g|g
   ·exact⟨_,_,_,g.1⟩
   ·obtain⟨q,b,off,cap,h,_⟩:=g;exact⟨_,_,_,h⟩
  subst hu;clear hx ae ab hk ah hd am T2 ES;go_upto_region 4 with fail
  have Z:=hid (show Below w2.heap.size w2 w2.drew from aA w2 1);have B3:=hid (btr Y Z);have R3:=hid (P.below Z);have FZ:=hid (show w2.drew.frozen? ⟨I,c,none⟩=false from by
   have j:=(BT.below B3).o.tlbs;rw[E8.out] at j;exact j.fr c)
  have PT:=hid (BT.putTlb E8 HC B3 (v:=.slice N M kv) (u:=.slice qu nu ku) (l:=l') H1.2.2.2.2.2.2.1 (T3.imp id fun g=>TlbNew.below g Z));refine aX (R:=StR b2 b3 b4 wb C p.ram.length X I p.tlbs.length gt p.tasks.length kt c t (.slice N M kv) s) [7] [0,1,2,3,4,5,6] 1 (by kernel_rfl) R3 (by kernel_rfl) (by kernel_rfl) (by kernel_rfl) (fun _=>?_);generalize w2.drew=w3 at*
  repeat (refine aJ rfl (by rfl) (fun _ _ _ _ h=>h) ?_;apply Exists.intro;refine⟨fun W h=>?_,?_⟩;(focus (obtain⟨h1,j,h3,h4,h5,D,h7,F⟩:=h;go_simp;try rfl));simp only[jj])
  refine aE ?_;refine Rf.r1 7 rfl (fun K J=>?_);have y4:w3.cell? ⟨I,c,none⟩=some (.slice N M kv):=R3.2.2.2.2.2.2.1;have fz:=FZ.out;go_simp
  refine J _ _ trivial (bF (by kernel_rfl)) (fun _ _=>?_);clear J K y4 fz
  try simp only[jj]
  refine aL (by kernel_rfl) ?_ _;obtain⟨ar,Q,ac⟩:=PT.out;generalize w3.setCell ⟨I,c,none⟩ (Value.slice qu nu ku)=O at*;have y0:O.cell? ⟨b2,0,none⟩=some (.pointer (some ⟨wb,0,none⟩)):=((CS.kt ac) (b2,ptr wb) (by simp)).1;have y1:O.cell? ⟨wb,0,none⟩=some (.slice (some ⟨C,0,none⟩) p.ram.length X):=by rw[←E0.out];exact af Q.r rfl
  obtain⟨y2,au⟩:(∃z:Int,O.cell? ⟨C,d,none⟩=some (.int .i64 z))∧O.frozen? ⟨C,d,none⟩=false:=by
   have hd:=HD.out;have j:=Q.o.ram;rw[E0.out] at j;obtain⟨q,b,o,k,e,hq,ao⟩:=dm j.1
   cases e
   have h9:=hq (by show 0<p.ram.length;omega)
   cases h9
   have F:=ao d hd;rw[aC] at F;exact⟨⟨_,F⟩,j.frozen d⟩
  obtain⟨z0,y2⟩:=y2;have aj:=hid (show Tb p wb tag V w (O.setCell ⟨C,d,none⟩ (.int .i64 v0)) from by
   obtain⟨al,ap⟩:=Q.ramCell E0 d v0;have s1:=H.tlb (c:=c) HL;have s2:=s1.w.word (i:=d) (v:=v0) HD ai (beB_iff.2 ⟨fun y=>by rw[E.1] at y;have:=E.2;have y:p.k f=4:=y;omega,fun y=>by rw[E.1] at y;have:=E.2;have y:p.k f=3:=y;omega⟩) (fun y=>by rw[E.1] at y;have:=E.2;have y:p.k f=3∨p.k f=4:=y;omega);exact⟨ar,_,ac.trans ap,al,s1.trans s2,_,_,rfl⟩)
  clear Q ac PT R3 FZ H1 T3 P ai;go_wp2_with fail
  refine aq (v:=.bool true) (by simp[results,Tryz.results47,go_sem]) rfl ⟨true,rfl,aj.out⟩
 ·have av:(e==0)=false:=by simp[T]
  go_wp2_with fail
  refine aq (v:=.bool false) (by simp[results,Tryz.results47,go_sem]) rfl ⟨false,rfl,tag,p,aW Y,BT.below Y,Rm.refl H⟩
set_option maxRecDepth 512
set_option maxHeartbeats 200000
theorem sAt_rng (p:PW) (n a:Int):(sAt p n a).2=0∨(sAt p n a).2=2∨(sAt p n a).2=3:=by
 unfold sAt;split
 ·split
  ·split
   ·exact .inl rfl
   ·split
    ·exact .inl rfl
    ·exact .inr (.inr rfl)
  ·exact .inr (.inl rfl)
 ·exact .inr (.inr rfl)
theorem kAt_rng (p:PW) (n a k r:Int):0≤(kAt p n a k r).2∧(kAt p n a k r).2≤13:=by
 unfold kAt;by_cases h:(sAt p n a).2=0
 ·rw[ag h];unfold kOf;split
  ·decide
  ·split
   ·split
    ·exact⟨Int.le_refl 0,show (0:Int)≤13 by decide⟩
    ·decide
   ·decide
 ·rw[ae h];have:=sAt_rng p n a;show 0≤(sAt p n a).2∧(sAt p n a).2≤13
  omega
theorem kAt_to {p:PW} (h:Lw p) {n a k r:Int} (hk:2≤k) (e:(kAt p n a k r).2=0):∃f:Nat,(kAt p n a k r).1 1=f∧p.k f=k:=by
 obtain⟨v,q⟩:=h.m.keys;unfold kAt at e ⊢;by_cases b:(sAt p n a).2=0
 ·rw[ag b] at e ⊢;generalize (sAt p n a).1.toNat=i at e ⊢;have c:∀j,j<6→p.slots.getD i nkey j=p.s i j:=fun j u=>by
   show p.slots.getD i nkey j=p.slots.getD i eS j
   rw[aa,aa]
   cases p.slots[i]? with
   |some x=>rfl
   |none=>show nkey j=eS j;unfold nkey eS;rw[ae (by omega)]
  unfold kOf at e ⊢;have g:=c 0 (by decide);have t:=c 1 (by decide);by_cases c0:p.slots.getD i nkey 0=0
  ·rw[ag c0] at e;cases e
  rw[ae c0] at e ⊢;by_cases c1:p.slots.getD i nkey 0=k
  ·rw[ag c1] at e ⊢;split at e
   ·rename_i c2;rw[ag c2];have d:=(q.key i (by rw[←g];exact c0)).is;rw[←g, ←t,c1] at d;obtain⟨f,l,_,o⟩:=isB_nat (d.resolve_left (by omega));exact⟨f,l,o⟩
   ·cases e
  ·rw[ae c1] at e;cases e
 ·rw[ae b] at e;exact absurd e b
theorem ent_tab {p:PW} (h:Lw p) {f j:Nat} (a:p.k f=4) (i:j<16) (c:p.ram.getD (f*16+j) 0≠0):∃t:Nat,p.ram.getD (f*16+j) 0=32768+t∧p.k t=3:=by
 have lf:=h.m.tk.lf;have g:=k_in (p:=p) (f:=f) (by rw[a];decide);have hl:f*16+j<p.ram.length:=by have:=lf.ram;omega
 have b1:=(beB_iff.1 (h.m.ram.e _ hl)).1 (by rw[show (f*16+j)/16=f by omega];exact a);obtain⟨t,d,_,b⟩:=isB_nat (b1.resolve_left c);exact⟨t,by omega,b⟩
set_option maxRecDepth 100000
set_option maxHeartbeats 16000000
theorem left_ok (wb:Nat) (tag:Nat→Nat) (V:Nat→Value) (p:PW) (d:Int) (g:Nat→Int) (w:World) (bt:BoxT w wb tag V p) (C:Lv p) (hg:∀k,k<8→0≤g k∧g k≤65535):
  Calls Tryz.prog 142 #[.pointer (some ⟨wb,0,none⟩),.int .i64 d,.agg (cf 8 g).toArray] w fun r w'=>Okd p wb tag w r w':=by
 have lf:=C.w.m.tk.lf;have HV:=hid (bt.view C.w.fits C.w.t100);have y:=hid bt;have c:=hid C;obtain⟨H,k0,e0⟩:∃g cap,V 0=.slice (some ⟨g,0,none⟩) p.ram.length cap:=bt.o.ram.form (by have:=lf.ram;have:=lf.k1;show 0<p.ram.length;omega)
 have O:=hid e0;have M:=hid (bal (aj w.heap.size w) (.cells (cf 8 g).toArray 43));have Q:=hid (range_new w (cf 8 g) 43 _ rfl);obtain⟨a,ha⟩:∃a:Nat,g 3=a:=⟨(g 3).toNat,by have:=(hg 3 (by decide)).1;omega⟩
 have a7:a≤65535:=by have:=(hg 3 (by decide)).2;omega
 have t2:=af Q (cf_at 8 g 2 (by decide));have KA:=hid (eD wb V p d (g 2) 4 2 _ (HV.below M) C.s);have ER:=hid (kAt_rng p d (g 2) 4 2);have ET:=hid (fun h=>kAt_to C.w (n:=d) (a:=g 2) (k:=4) (r:=2) (by decide) h);have S0:=hid (show (w.alloc (.cells (cf 8 g).toArray 43)).heap.size=w.heap.size+1 by simp);clear bt C e0 hg lf;go_enter Tryz.func142,Tryz.ntmps142
 go_wp2_with fail
 generalize World.alloc _ _=w1 at M Q t2 KA S0 ⊢;refine KA.mono ?_;rintro r w2 ⟨rfl,X⟩;have B2:=hid (btr M X);have T2:=hid (d9 Q X);have S2:=hid (show w.heap.size<w2.heap.size by have:=X.size;have:=S0.out;omega);clear X KA M Q t2 S0;generalize (kAt p d (g 2) 4 2).2=E at*;generalize (kAt p d (g 2) 4 2).1=K at*;have K3:=hid (fun o=>aG (T:=fun _=>False) (w:=w) (b:=w2.heap.size) (.inr (Nat.le_of_lt S2)) (cf 6 K) 0 _ ((dR B2).alloc o));have T3:=hid (fun o=>World.rangeAt_setCells_apart (World.rangeAt_alloc T2 o) w2.heap.size 0 (cf 6 K) (.inl (Nat.ne_of_lt S2)));have X3:=hid (fun z u (hz:6≤z.size)=>World.rangeAt_setCells_same (w2.alloc (.cells z u)) w2.heap.size 0 (cf 6 K) (by rw[ax];exact aM w2 z u _ 6 rfl hz));go_upto_region 2 with ((with_reducible refine gst 78 ?_);refine wp_stK rfl _ _ rfl w2.heap.size 0 rfl (cf 6 K) rfl (ax _ _) (bK _ _) (aM _ _ _ _ _ (by simp) (by decide)) ?_)
 generalize U:World.setCells _ _ _ _=x;have P:=hid (show Kp (fun _=>False) w x by rw[←U];exact K3 _);have T4:=hid (show x.rangeAt w.heap.size 0 (cf 8 g) by rw[←U];exact T3 _);have X4:=hid (show x.rangeAt w2.heap.size 0 (cf 6 K) by rw[←U];exact X3 _ _ (by simp));clear U K3 T3 X3 T2;by_cases hE:E=0
 case neg=>
  have a6:(E==0)=false:=by simp[hE]
  go_wp2_with fail
  refine aq (v:=.int .i64 (E)) (by simp[results,Tryz.results142,go_sem]) rfl ⟨E,rfl,ER.out,bU c y P.all⟩
 case pos=>
  subst hE;obtain⟨f,ay,az⟩:=ET.out rfl;have an:=hid az;clear ET ER;have F:=af T4 (cf_at 8 g 3 (by decide));rw[ha] at F;by_cases a5:255<a
  ·have aQ:(255:Int)<(a:Int):=by omega
   go_wp2_with fail
   refine aq (v:=.int .i64 (2)) (by simp[results,Tryz.results142,go_sem]) rfl ⟨2,rfl,by decide,bU c y P.all⟩
  ·have aQ:¬(255:Int)<(a:Int):=by omega
   have lf:=c.w.m.tk.lf;have aB:=k_in (p:=p) (f:=f) (by rw[an.out];decide);obtain⟨B,ab⟩:∃e:Nat,p.ram.getD (f*16+a/16) 0=e:=⟨(p.ram.getD (f*16+a/16) 0).toNat,by
    have:=(c.w.m.ram.w _ (aw (show f*16+a/16<p.ram.length by have:=lf.ram;omega))).1;rw[aa,ac (show f*16+a/16<p.ram.length by have:=lf.ram;omega)];simp only[aS];omega⟩
   have ai:=hid (y.below P.all);have ag:∀i,i<p.ram.length→x.cell? ⟨H,i,none⟩=some (.int .i64 (p.ram.getD i 0)):=fun i hi=>by
    obtain⟨q,b,o,k,e,hq,ae⟩:=dm ai.o.ram.1;rw[O.out] at e
    cases e
    have h9:=hq (by omega)
    cases h9
    have h8:=ae i hi;rw[aC] at h8;rw[aa,ac hi];exact h8
   have L:x.cell? ⟨wb,0,none⟩=some (.slice (some ⟨H,0,none⟩) p.ram.length k0):=by rw[←O.out];exact af ai.r rfl
   have y1:x.cell? ⟨w2.heap.size,1,none⟩=some (.int .i64 (f:Int)):=by rw[←ay];exact af X4 (cf_at 6 K 1 (by decide))
   have Y:f*16+a/16<p.ram.length:=by have:=lf.ram;omega
   have G:=ag _ Y;rw[ab] at G;have a9:(f:Int)≤1000:=by have:=lf.k2;omega
   have bf:(p.ram.length:Int)≤1000:=by have:=lf.ram;have:=lf.k2;omega
   have RC:=hid ag;have al:=hid ab;have a3:=hid Y;have a4:=hid aB;clear ag ab ay az aB lf X4 T4;obtain⟨j,hj⟩:∃j:Nat,f*16+a/16=j:=⟨_,rfl⟩
   rw[hj] at G Y;have aR:(j:Int)<(p.ram.length:Int):=by omega
   have aT:(0:Int)≤(j:Int):=by omega
   have aY:(f:Int)*16+(a:Int)/16=(j:Int):=by omega
   have HJ:=hid hj;clear hj Y;have KC:=hid (fun W (h:Below x.heap.size x W)=>(⟨cu h F,cu h L,cu h y1,cu h G⟩:_∧_∧_∧_));go_upto_region 6 with fail
   refine bh (by kernel_rfl) (by kernel_rfl) ?_
   repeat (first|go_big_quiet_skip|(go_big_quiet_want;go_big_quiet_op;first|go_big_quiet_on|go_big_quiet_call (fail)))
   refine cG ?_;intro _ I;obtain⟨nq,J⟩:=I;subst J;have B4:=hid (bc (aj x.heap.size x) nq);clear L y1 G F;obtain⟨F,L,y1,G⟩:=KC.out _ B4;generalize x.drewN nq=S at*;have BB:=hid (btr P.all B4);by_cases av:B=0
   ·subst av;have ae:((((0:Nat):Int))==0)=true:=rfl;go_upto_region 7 with fail
    refine bh (by kernel_rfl) (by kernel_rfl) ?_
    repeat (first|go_big_quiet_skip|(go_big_quiet_want;go_big_quiet_op;first|go_big_quiet_on|go_big_quiet_call (fail)))
    refine cG ?_;intro _ I;obtain⟨nq,J⟩:=I;subst J;have D:=hid (bc BB nq);generalize S.drewN nq=A at*;go_wp2_with fail
    refine aq (v:=.int .i64 (9)) (by simp[results,Tryz.results142,go_sem]) rfl ⟨9,rfl,by decide,bU c y D⟩
   ·have ae:((B:Int)==0)=false:=by simp;omega
    obtain⟨t,aF,aH⟩:=ent_tab c.w (f:=f) (j:=a/16) an (by omega) (by rw[al.out];omega);rw[al.out] at aF;have a0:=k_in (p:=p) (f:=t) (by rw[aH];decide);have lf:=c.w.m.tk.lf;obtain⟨m,hm⟩:∃m:Nat,t*16+a%16=m:=⟨_,rfl⟩
    have ad:m<p.ram.length:=by have:=lf.ram;omega
    have aZ:(B:Int)%1024*16+(a:Int)%16=(m:Int):=by have:=lf.k2;omega
    have ba:(m:Int)<(p.ram.length:Int):=by omega
    have bb:(0:Int)≤(m:Int):=by omega
    have a8:(B:Int)≤65535:=by have:=lf.k2;omega
    obtain⟨pv,aD⟩:∃z,p.ram.getD m 0=z:=⟨_,rfl⟩
    have y3:=cu B4 (RC.out m ad);rw[aD] at y3;have aN:=hid ad;clear aF aH a0 lf hm ad aD av aY aR aT;go_upto_region 7 with fail
    refine bh (by kernel_rfl) (by kernel_rfl) ?_
    repeat (first|go_big_quiet_skip|(go_big_quiet_want;go_big_quiet_op;first|go_big_quiet_on|go_big_quiet_call (fail)))
    refine cG ?_;intro _ I;obtain⟨nq,J⟩:=I;subst J;have D:=hid (bc (aj S.heap.size S) nq);have b0:=cu D L;have b3:=cu D y3;have b4:=cu D F;clear L y1 G y3 F;generalize S.drewN nq=A at*;have ah:=hid (btr BB D);by_cases Z:pv=0
    ·have aV:(pv==0)=true:=by simp[Z]
     clear Z;go_wp2_with fail
     refine aq (v:=.int .i64 (9)) (by simp[results,Tryz.results142,go_sem]) rfl ⟨9,rfl,by decide,bU c y ah⟩
    ·have aV:(pv==0)=false:=by simp[Z]
     clear Z;go_upto_region 9 with fail
     have N:=hid (show Below A.heap.size A A.drew from aA A 1);have hW:IntKind.i64.wrap (IntKind.i64.wrap ((B:Int).tmod 1024*16)+(a:Int).tmod 16)=(m:Int):=by
      rw[cH (by omega),cH (by omega),show IntKind.i64.wrap ((B:Int)%1024*16)=(B:Int)%1024*16 from cw _ (by omega) (by omega),aZ];exact cw _ (by omega) (by omega)
     have B9:=hid (btr ah N);have FZ:=hid (show A.drew.frozen? ⟨H,m,none⟩=false from by
      have h2:=(y.below B9).o.ram;rw[O.out] at h2;exact h2.frozen m)
     have ao:=hid ((y.below B9).ramCell O m 0);have y5:=cu N b3;refine aX (R:=fun W=>W.cell? ⟨wb,0,none⟩=some (.slice (some ⟨H,0,none⟩) p.ram.length k0)∧W.cell? ⟨w.heap.size,3,none⟩=some (.int .i64 (a:Int))) [12] [0,1,2,3,4,5,6,7,8,9,10,11] 1 (by kernel_rfl) ⟨cu N b0,cu N b4⟩ (by kernel_rfl) (by kernel_rfl) (by kernel_rfl) (fun _=>?_);generalize A.drew=W6 at*
     repeat (refine aJ rfl (by rfl) (fun _ _ _ _ h=>h) ?_;apply Exists.intro;refine⟨fun W h=>?_,?_⟩;(focus (obtain⟨h1,h2⟩:=h;go_simp;try rfl));simp only[jj])
     refine aE ?_;refine Rf.r1 12 rfl (fun K hK=>?_);have fz:=FZ.out;go_simp
     refine hK _ _ trivial (bF (by kernel_rfl)) (fun _ _=>?_);clear hK K fz y5 FZ
     try simp only[jj]
     refine aL (by kernel_rfl) ?_ _;obtain⟨au,aK⟩:=ao.out;generalize W6.setCell ⟨H,m,none⟩ (Value.int IntKind.i64 0)=W7 at*;have HU:=hid (c.unmap aN);have FW:=hid (forgetWrong_any wb tag V {p with ram:=p.ram.set m 0} 0 (-1) W7 au (by
      have h:=c.w.fits;exact⟨by show (p.ram.set m 0).length≤_;rw[ar];exact h.ram,h.kinds,h.slots,h.tasks,h.lines,h.line,h.bits,h.cores,h.ready,h.next,h.tlbs,h.doms⟩) c.w.t100 (fun l hl e he=>by
      have:=(c.w.tl l hl).t e he;unfold toldB at this;simp only[am,aU] at this;exact this.1.2) (fun z hz=>by
      rcases bj hz with h|h
      ·have:=c.w.m.ram.w z h;omega
      ·rw[h];decide) (by show (p.ram.set m 0).length≤600;rw[ar];have:=c.w.m.tk.lf.ram;have:=c.w.m.tk.lf.k2;omega))
     have aO:=hid ((aW (tag:=tag) B9).trans aK);clear au aK ao;go_wp2_with fail
     refine FW.mono ?_;rintro r W8 ⟨rfl,a2,ap,aI⟩;have aP:=hid (show Bx p wb tag w W8 from⟨a2,V,_,aO.trans aI,ap,HU.out⟩);clear ap aI FW;go_wp2_with fail
     refine aq (v:=.int .i64 (0)) (by simp[results,Tryz.results142,go_sem]) rfl ⟨0,rfl,by decide,aP.out⟩
end Go.Proofs.YtaejnmmpddbbjaaGreatDoor.Wd
