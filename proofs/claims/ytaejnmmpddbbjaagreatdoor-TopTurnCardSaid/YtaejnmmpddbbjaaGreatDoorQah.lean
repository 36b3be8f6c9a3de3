/- Qah -/
import Derived.BigQuiet
import Derived.Deep.RegionHeld3
import Derived.BigGuard
import Derived.BigCall
import Derived.Test.YtaejnmmpddbbjaaGreatDoorChecked
import Derived.Test.YtaejnmmpddbbjaaGreatDoorQag
set_option maxRecDepth 100000
set_option maxHeartbeats 16000000
namespace Go.Proofs.YtaejnmmpddbbjaaGreatDoor
namespace Wd
open Go.RowKit Mem Bw Nums Mmu
def lk {α:Type} (bad:Nat->α->Bool) (l:List α):Option Nat:=(List.range l.length).find? fun k=>match l[k]? with|some x=>bad k x|none=>false
theorem wU {α:Type} {a:Nat->α->Bool} {l:List α} (h:∀k (hk:k<l.length),a k l[k]=false):lk a l=none:=by
 unfold lk;rw[List.find?_eq_none];intro k hk;have b:=List.mem_range.1 hk;rw[ac b];simp[h k b]
theorem _root_.Go.Proofs.YtaejnmmpddbbjaaGreatDoor.dO:type_of% @wU:= @wU
theorem ir {α:Type} {a:Nat->α->Bool} {l:List α} (k:Nat) (hk:k<l.length) (c:a k l[k]=true) (d:∀j (b:j<l.length),j<k->a j l[j]=false):lk a l=some k:=by
 unfold lk;rw[List.find?_range_eq_some];refine⟨by rw[ac hk];exact c,List.mem_range.2 hk,fun j b=>?_⟩;rw[ac oA];simp[d j oA b]
theorem jY {α:Type} {l:List α} {k:Nat} {d:α} (h:k<l.length):l.getD k d=l[k]:=by
 rw[aa,ac h];rfl
def oY:List (Int×Option Nat)->Int×Int
 |[]=>(0, -1)
 |(e,some k)::_=>(e,k)
 |(_,none)::r=>oY r
def j4 (p:PW):List (Int×Option Nat):=[(1,lk (fun _ x=>nwB x) p.IE),(3,lk (fun _ x=>nkB x) p.kinds),(2,lk (fun _ x=>nd x) p.IF),(8,lk (fun k s=>bsB p (p.kinds.getD (k/16) 0) s) p.IB),(8,lk (fun k x=>bfB p k x) p.kinds),(8,lk (fun k f=>btB p k (p.kinds.getD k 0) f) p.IA),(8,lk (fun k l=>blB p k (p.kinds.getD k 0) (p.bits.getD k 0) l) p.lines),(8,lk (fun k t=>bcB p k t) p.IC),(8,lk (fun k l=>brB p k l) p.ready),(9,lk (fun k x=>beB p (p.kinds.getD (k/16) 0) x) p.IE),(9,lk (fun _ l=>bmB p l) p.ID)]
def wmA (p:PW):Int×Int:=if lfB p&&dH 0 1000000 p.time then oY (j4 p) else (2, -1)
def nL (w:World) (x:Value) (r:Int×Int):Prop:=(x=.nilIface∧r=(0, -1))∨(∃e,e≠0∧x=.iface 36 (.int .i64 e)∧r=(e, -1))∨
 ∃(e k:Int) (b:Nat),e≠0∧w.cell? ⟨b,0,none⟩=some (.int .i64 k)∧w.cell? ⟨b,1,none⟩=some (.iface 36 (.int .i64 e))∧x=.iface 59 (.pointer (some ⟨b,0,none⟩))∧r=(e,k)
theorem nL.J5 {w:World}:nL w .nilIface (0, -1):=.inl ⟨rfl,rfl⟩
theorem nL.all {w:World} (e:Int) (a:e≠0):nL w (.iface 36 (.int .i64 e)) (e, -1):=.inr (.inl ⟨e,a,rfl,rfl⟩)
theorem nL.on {w:World} {e k:Int} (b:Nat) (d:e≠0) (a:w.cell? ⟨b,0,none⟩=some (.int .i64 k)) (c:w.cell? ⟨b,1,none⟩=some (.iface 36 (.int .i64 e))):nL w (.iface 59 (.pointer (some ⟨b,0,none⟩))) (e,k):=.inr (.inr ⟨e,k,b,d,a,c,rfl,rfl⟩)
theorem G0 {x:Int} (h:nwB x=false):0<=x∧x<=65535:=by
 unfold nwB wB at h;simpa using h
theorem FI {w:World} {V:Nat->Value} {p:PW} (a:fy w V p) (hl:LF p) (b:∀k (hk:k<p.IE.length),0<=p.IE[k]∧p.IE[k]<=65535):jW w (V 0) p.IE:=
 ⟨a.IE,fun z c=>by
  obtain⟨k,hk,rfl⟩:=List.mem_iff_getElem.1 c;have:=b k hk;omega,by
  have:=hl.IE;have:=hl.k2;omega⟩
theorem Fb {p:PW} {g:Nat->Int} (h:∀k (hk:k<p.IB.length),bsB p (g k) p.IB[k]=false):∀s∈p.IB,KB s:=fun s c=>by
 obtain⟨k,hk,rfl⟩:=List.mem_iff_getElem.1 c;have a:=h k hk;generalize p.IB[k]=s at a ⊢;have b:kc s=0:=by
  unfold bsB at a;split at a
  ·rename_i hz;have:=ay hz;unfold kc;rw[this.1];exact KP.En this.2
  ·unfold opB at a;simp only[cQ,am,bH] at a;exact a.1.1.2.1.1
 obtain⟨-, -,b0,b1,l0,l1,m0,m1, -, -, -, -⟩:=KP.kz b;refine⟨b0,oA,l0,oA,m0,oA,fun d=>?_⟩;have h:KP.chk (s 0) (s 1) (s 2) (s 3) (s 4) (s 5)=0:=b;rw[mw] at h;split at h
 ·omega
 split at h
 ·omega
 split at h
 ·omega
 ·omega
theorem np {P:Program} {f:Nat} {a:Array Value} {w:World} {Q:Ending->World->Prop} (h:Calls P f a w Q):Calls P f a w Q:=h
theorem Ie (a:Array Value) (W:World):(callFunc 100 a).run Tryz.prog W=.ok (.enter 100 a) W:=by
 go_simp
theorem If (a:Array Value) (W:World):(callFunc 101 a).run Tryz.prog W=.ok (.enter 101 a) W:=by
 go_simp
theorem Ig (a:Array Value) (W:World):(callFunc 102 a).run Tryz.prog W=.ok (.enter 102 a) W:=by
 go_simp
theorem Ih (a:Array Value) (W:World):(callFunc 104 a).run Tryz.prog W=.ok (.enter 104 a) W:=by
 go_simp
theorem Ii (a:Array Value) (W:World):(callFunc 105 a).run Tryz.prog W=.ok (.enter 105 a) W:=by
 go_simp
theorem Ij (a:Array Value) (W:World):(callFunc 107 a).run Tryz.prog W=.ok (.enter 107 a) W:=by
 go_simp
theorem Ik (a:Array Value) (W:World):(callFunc 109 a).run Tryz.prog W=.ok (.enter 109 a) W:=by
 go_simp
theorem Il (a:Array Value) (W:World):(callFunc 110 a).run Tryz.prog W=.ok (.enter 110 a) W:=by
 go_simp
theorem Im (a:Array Value) (W:World):(callFunc 111 a).run Tryz.prog W=.ok (.enter 111 a) W:=by
 go_simp
theorem Io (a:Array Value) (W:World):(callFunc 112 a).run Tryz.prog W=.ok (.enter 112 a) W:=by
 go_simp
theorem Gv (a:Array Value) (W:World):(callFunc 114 a).run Tryz.prog W=.ok (.enter 114 a) W:=by
 go_simp
theorem jn (V:Nat->Value) (p:PW) (w:World) (hv:fy w V p) (hp:p.Fits):
  Calls Tryz.prog 60 #[.agg (cb V)] w fun r w'=>∃x,r=.returned x∧nL w' x (wmA p)∧Below w.heap.size w w':=by
 have RG:=hid (nC w V 28);have B0:=hid (bal (ag w.heap.size w) (.cells (cb V) 28));have o:=hid hp;have ad:=hid (qF V p (w.alloc (.cells (cb V) 28)) (hv.below B0) hp);have aB:=hid hv;have aj:=hv.time;go_enter Tryz.func60,Tryz.ntmps60
 go_wp2_with (first|((with_reducible refine gld 28 ?_);refine hU oR _ rfl _ rfl V RG ?_))
 generalize World.alloc _ _=W0 at*;refine ad.mono ?_;rintro r w1 ⟨rfl,c⟩;have A1:=hid c;have af:=hid (bj RG c);have ab:=r11 10 af;rw[aj] at ab;clear c ad aj
 cases hl:lfB p with
 |false=>
  have d:=hid (show wmA p=(2, -1) by unfold wmA;rw[hl];rfl);go_wp2_with fail
  go_ret
  exact⟨_,rfl,by rw[d.out];exact .all 2 oD,btr B0 A1⟩
 |true=>
 have C:=hid (tD hl);go_wp2_with fail
 refine (kh p.time 0 1000000 _).mono ?_;rintro r w2 ⟨rfl,rfl⟩
 cases hw:dH 0 1000000 p.time with
 |false=>
  have d:=hid (show wmA p=(2, -1) by unfold wmA;rw[hl,hw];rfl);go_wp2_with fail
  go_ret
  exact⟨_,rfl,by rw[d.out];exact .all 2 oD,btr B0 A1⟩
 |true=>
 have B:=hid (show wmA p=oY (j4 p) by unfold wmA;rw[hl,hw];rfl);clear hl hw;have q:=hid (btr (btr B0 A1) (bal (ag w1.heap.size w1) (.cells (cb V) 165)));have RV:=hid (show (w1.alloc (.cells (cb V) 165)).rangeAt w1.heap.size 0 (cb V).toList from nC w1 V 165);clear ab;go_upto_region 4 with (first|((with_reducible refine gld 28 ?_);refine hU oR _ rfl _ rfl V af ?_))
 generalize w1.heap.size=vb at*;generalize World.alloc _ _=v0 at q RV ⊢;have a:=hid (show ∀W,Below v0.heap.size v0 W->ei W vb V p from fun W c=>⟨bj RV c,aB.below (btr q c),o.out⟩);have C0:=hid (ag v0.heap.size v0);have g0:v0.cell? ⟨vb,0,none⟩=some (V 0):=ai (a.out v0 C0).r rfl;have al:=hid (jJ 100 #[] (fun _ x=>nwB x) 1 (V 0) p.IE v0 ((a.out v0 C0).v.IE) o.IE Ie (fun k hk W c=>(va k _ W).mono fun _ _ h=>⟨h.1,h.2▸ag _ _⟩));go_wp2_with fail
 refine (np al).mono ?_;rintro r v1 ⟨x,rfl,j,c⟩;have u:=hid (btr C0 c);rcases j with ⟨e,rfl⟩|⟨k,b,hk,g,i,rfl,m,n⟩
 rotate_left
 ·have d:=hid (show wmA p=(1,(k:Int)) by
   rw[B.out];unfold j4;rw[ir k hk g i];rfl)
  have Y:=hid (show nL v1 (.iface 59 (.pointer (some ⟨b,0,none⟩))) (1,(k:Int)) from .on b oD m n);have O:=r11 0 (a.out v1 u).r;have t1:=r11 1 (a.out v1 u).r;have t2:=r11 2 (a.out v1 u).r;have t3:=r11 3 (a.out v1 u).r;have t4:=r11 4 (a.out v1 u).r;have Z:=r11 6 (a.out v1 u).r;have T:=r11 7 (a.out v1 u).r;have K:=r11 8 (a.out v1 u).r;have t9:=r11 9 (a.out v1 u).r;go_wp2_with fail
  refine (eB _ _ _ _ _).mono ?_;rintro r w1 ⟨rfl,rfl⟩;go_wp2_with fail
  refine (eB _ _ _ _ _).mono ?_;rintro r w1 ⟨rfl,rfl⟩;go_wp2_with fail
  refine (lA _ _ _ _ _).mono ?_;rintro r w1 ⟨rfl,rfl⟩;go_wp2_with fail
  refine (eB _ _ _ _ _).mono ?_;rintro r w1 ⟨rfl,rfl⟩;go_wp2_with fail
  refine (iQ _ _ _ _ _).mono ?_;rintro r w1 ⟨rfl,rfl⟩;go_wp2_with fail
  refine (fm _ _ _ _ _).mono ?_;rintro r w1 ⟨rfl,rfl⟩;go_wp2_with fail
  refine (eB _ _ _ _ _).mono ?_;rintro r w1 ⟨rfl,rfl⟩;go_wp2_with fail
  refine (fm _ _ _ _ _).mono ?_;rintro r w1 ⟨rfl,rfl⟩;go_wp2_with fail
  refine (eB _ _ _ _ _).mono ?_;rintro r w1 ⟨rfl,rfl⟩;go_wp2_with fail
  refine (gl _ _ _ _ _).mono ?_;rintro r w1 ⟨rfl,rfl⟩;go_wp2_with fail
  go_ret
  exact⟨_,rfl,by rw[d.out];exact Y,btr q u⟩
 have E:=hid (dO e);have ae:=hid (fun (k:Nat) (hk:k<p.IE.length)=>G0 (e k hk));have aA:=hid (fun W (c:Below v0.heap.size v0 W)=>FI (a.out W (btr C0 c)).v C ae);have g1:=r11 1 (a.out v1 u).r;have am:=hid (jJ 101 #[] (fun _ x=>nkB x) 3 (V 1) p.kinds v1 ((a.out v1 u).v.kinds) o.kinds If (fun k hk W c=>(uZ k _ W).mono fun _ _ h=>⟨h.1,h.2▸ag _ _⟩));go_wp2_with fail
 refine (np am).mono ?_;rintro r v2 ⟨x,rfl,j,c⟩;have y:=hid (btr u c);rcases j with ⟨e,rfl⟩|⟨k,b,hk,g,i,rfl,m,n⟩
 rotate_left
 ·have d:=hid (show wmA p=(3,(k:Int)) by
   rw[B.out];unfold j4;rw[E.out,ir k hk g i];rfl)
  have Y:=hid (show nL v2 (.iface 59 (.pointer (some ⟨b,0,none⟩))) (3,(k:Int)) from .on b oD m n);have O:=r11 0 (a.out v2 y).r;have t1:=r11 1 (a.out v2 y).r;have t2:=r11 2 (a.out v2 y).r;have t3:=r11 3 (a.out v2 y).r;have t4:=r11 4 (a.out v2 y).r;have Z:=r11 6 (a.out v2 y).r;have T:=r11 7 (a.out v2 y).r;have K:=r11 8 (a.out v2 y).r;have t9:=r11 9 (a.out v2 y).r;go_wp2_with fail
  refine (eB _ _ _ _ _).mono ?_;rintro r w1 ⟨rfl,rfl⟩;go_wp2_with fail
  refine (lA _ _ _ _ _).mono ?_;rintro r w1 ⟨rfl,rfl⟩;go_wp2_with fail
  refine (eB _ _ _ _ _).mono ?_;rintro r w1 ⟨rfl,rfl⟩;go_wp2_with fail
  refine (iQ _ _ _ _ _).mono ?_;rintro r w1 ⟨rfl,rfl⟩;go_wp2_with fail
  refine (fm _ _ _ _ _).mono ?_;rintro r w1 ⟨rfl,rfl⟩;go_wp2_with fail
  refine (eB _ _ _ _ _).mono ?_;rintro r w1 ⟨rfl,rfl⟩;go_wp2_with fail
  refine (fm _ _ _ _ _).mono ?_;rintro r w1 ⟨rfl,rfl⟩;go_wp2_with fail
  refine (eB _ _ _ _ _).mono ?_;rintro r w1 ⟨rfl,rfl⟩;go_wp2_with fail
  refine (gl _ _ _ _ _).mono ?_;rintro r w1 ⟨rfl,rfl⟩;go_wp2_with fail
  go_ret
  exact⟨_,rfl,by rw[d.out];exact Y,btr q y⟩
 have H:=hid (dO e);have g2:=r11 9 (a.out v2 y).r;have ao:=hid (jJ 102 #[] (fun _ x=>nd x) 2 (V 9) p.IF v2 ((a.out v2 y).v.IF) o.IF Ig (fun k hk W c=>(xy k _ W).mono fun _ _ h=>⟨h.1,h.2▸ag _ _⟩));go_wp2_with fail
 refine (np ao).mono ?_;rintro r v3 ⟨x,rfl,j,c⟩;have z:=hid (btr y c);rcases j with ⟨e,rfl⟩|⟨k,b,hk,g,i,rfl,m,n⟩
 rotate_left
 ·have d:=hid (show wmA p=(2,(k:Int)) by
   rw[B.out];unfold j4;rw[E.out,H.out,ir k hk g i];rfl)
  have Y:=hid (show nL v3 (.iface 59 (.pointer (some ⟨b,0,none⟩))) (2,(k:Int)) from .on b oD m n);have O:=r11 0 (a.out v3 z).r;have t1:=r11 1 (a.out v3 z).r;have t2:=r11 2 (a.out v3 z).r;have t3:=r11 3 (a.out v3 z).r;have t4:=r11 4 (a.out v3 z).r;have Z:=r11 6 (a.out v3 z).r;have T:=r11 7 (a.out v3 z).r;have K:=r11 8 (a.out v3 z).r;go_wp2_with fail
  refine (lA _ _ _ _ _).mono ?_;rintro r w1 ⟨rfl,rfl⟩;go_wp2_with fail
  refine (eB _ _ _ _ _).mono ?_;rintro r w1 ⟨rfl,rfl⟩;go_wp2_with fail
  refine (iQ _ _ _ _ _).mono ?_;rintro r w1 ⟨rfl,rfl⟩;go_wp2_with fail
  refine (fm _ _ _ _ _).mono ?_;rintro r w1 ⟨rfl,rfl⟩;go_wp2_with fail
  refine (eB _ _ _ _ _).mono ?_;rintro r w1 ⟨rfl,rfl⟩;go_wp2_with fail
  refine (fm _ _ _ _ _).mono ?_;rintro r w1 ⟨rfl,rfl⟩;go_wp2_with fail
  refine (eB _ _ _ _ _).mono ?_;rintro r w1 ⟨rfl,rfl⟩;go_wp2_with fail
  refine (gl _ _ _ _ _).mono ?_;rintro r w1 ⟨rfl,rfl⟩;go_wp2_with fail
  go_ret
  exact⟨_,rfl,by rw[d.out];exact Y,btr q z⟩
 have J:=hid (dO e);have g3:=r11 2 (a.out v3 z).r;have ap:=hid (uW 104 #[.pointer (some ⟨vb,0,none⟩)] (fun k s=>bsB p (p.kinds.getD (k/16) 0) s) 8 (V 2) p.IB v3 ((a.out v3 z).v.IB) o.IB Ih (fun k hk W c=>by
   have F:k/16<p.kinds.length:=by have:=C.IB;omega
   have:=rL vb V p k (k/16) p.IB[k] W (a.out W (btr z c)) oA F;rw[<-jY F] at this;exact this))
 go_wp2_with fail
 refine (np ap).mono ?_;rintro r v4 ⟨x,rfl,j,c⟩;have A:=hid (btr z c);rcases j with ⟨e,rfl⟩|⟨k,b,hk,g,i,rfl,m,n⟩
 rotate_left
 ·have d:=hid (show wmA p=(8,(k:Int)) by
   rw[B.out];unfold j4;rw[E.out,H.out,J.out,ir k hk g i];rfl)
  have Y:=hid (show nL v4 (.iface 59 (.pointer (some ⟨b,0,none⟩))) (8,(k:Int)) from .on b oD m n);have O:=r11 0 (a.out v4 A).r;have t1:=r11 1 (a.out v4 A).r;have t3:=r11 3 (a.out v4 A).r;have t4:=r11 4 (a.out v4 A).r;have Z:=r11 6 (a.out v4 A).r;have T:=r11 7 (a.out v4 A).r;have K:=r11 8 (a.out v4 A).r;go_wp2_with fail
  refine (eB _ _ _ _ _).mono ?_;rintro r w1 ⟨rfl,rfl⟩;go_wp2_with fail
  refine (iQ _ _ _ _ _).mono ?_;rintro r w1 ⟨rfl,rfl⟩;go_wp2_with fail
  refine (fm _ _ _ _ _).mono ?_;rintro r w1 ⟨rfl,rfl⟩;go_wp2_with fail
  refine (eB _ _ _ _ _).mono ?_;rintro r w1 ⟨rfl,rfl⟩;go_wp2_with fail
  refine (fm _ _ _ _ _).mono ?_;rintro r w1 ⟨rfl,rfl⟩;go_wp2_with fail
  refine (eB _ _ _ _ _).mono ?_;rintro r w1 ⟨rfl,rfl⟩;go_wp2_with fail
  refine (gl _ _ _ _ _).mono ?_;rintro r w1 ⟨rfl,rfl⟩;go_wp2_with fail
  go_ret
  exact⟨_,rfl,by rw[d.out];exact Y,btr q A⟩
 have N:=hid (dO e);have az:=hid (Fb (fun k hk=>e k hk));have g4:=r11 1 (a.out v4 A).r;have aq:=hid (jJ 105 #[.pointer (some ⟨vb,0,none⟩)] (fun k x=>bfB p k x) 8 (V 1) p.kinds v4 ((a.out v4 A).v.kinds) o.kinds Ii (fun k hk W c=>(pT vb V p k _ W (a.out W (btr A c)) az)));go_wp2_with fail
 refine (np aq).mono ?_;rintro r v5 ⟨x,rfl,j,c⟩;have D:=hid (btr A c);rcases j with ⟨e,rfl⟩|⟨k,b,hk,g,i,rfl,m,n⟩
 rotate_left
 ·have d:=hid (show wmA p=(8,(k:Int)) by
   rw[B.out];unfold j4;rw[E.out,H.out,J.out,N.out,ir k hk g i];rfl)
  have Y:=hid (show nL v5 (.iface 59 (.pointer (some ⟨b,0,none⟩))) (8,(k:Int)) from .on b oD m n);have O:=r11 0 (a.out v5 D).r;have t3:=r11 3 (a.out v5 D).r;have t4:=r11 4 (a.out v5 D).r;have Z:=r11 6 (a.out v5 D).r;have T:=r11 7 (a.out v5 D).r;have K:=r11 8 (a.out v5 D).r;go_wp2_with fail
  refine (iQ _ _ _ _ _).mono ?_;rintro r w1 ⟨rfl,rfl⟩;go_wp2_with fail
  refine (fm _ _ _ _ _).mono ?_;rintro r w1 ⟨rfl,rfl⟩;go_wp2_with fail
  refine (eB _ _ _ _ _).mono ?_;rintro r w1 ⟨rfl,rfl⟩;go_wp2_with fail
  refine (fm _ _ _ _ _).mono ?_;rintro r w1 ⟨rfl,rfl⟩;go_wp2_with fail
  refine (eB _ _ _ _ _).mono ?_;rintro r w1 ⟨rfl,rfl⟩;go_wp2_with fail
  refine (gl _ _ _ _ _).mono ?_;rintro r w1 ⟨rfl,rfl⟩;go_wp2_with fail
  go_ret
  exact⟨_,rfl,by rw[d.out];exact Y,btr q D⟩
 have S:=hid (dO e);have g5:=r11 3 (a.out v5 D).r;have ar:=hid (uX 107 #[.pointer (some ⟨vb,0,none⟩)] (fun k f=>btB p k (p.kinds.getD k 0) f) 8 (V 3) p.IA v5 ((a.out v5 D).v.IA) o.IA Ij (fun k hk W c=>by
   have F:k<p.kinds.length:=by have:=C.IA;omega
   have:=rM vb V p k p.IA[k] W (a.out W (btr D c)) F C.IA C.lines;rw[<-jY F] at this;exact this))
 go_wp2_with fail
 refine (np ar).mono ?_;rintro r L ⟨x,rfl,j,c⟩;have G:=hid (btr D c);rcases j with ⟨e,rfl⟩|⟨k,b,hk,g,i,rfl,m,n⟩
 rotate_left
 ·have d:=hid (show wmA p=(8,(k:Int)) by
   rw[B.out];unfold j4;rw[E.out,H.out,J.out,N.out,S.out,ir k hk g i];rfl)
  have Y:=hid (show nL L (.iface 59 (.pointer (some ⟨b,0,none⟩))) (8,(k:Int)) from .on b oD m n);have O:=r11 0 (a.out L G).r;have t4:=r11 4 (a.out L G).r;have Z:=r11 6 (a.out L G).r;have T:=r11 7 (a.out L G).r;have K:=r11 8 (a.out L G).r;go_wp2_with fail
  refine (fm _ _ _ _ _).mono ?_;rintro r w1 ⟨rfl,rfl⟩;go_wp2_with fail
  refine (eB _ _ _ _ _).mono ?_;rintro r w1 ⟨rfl,rfl⟩;go_wp2_with fail
  refine (fm _ _ _ _ _).mono ?_;rintro r w1 ⟨rfl,rfl⟩;go_wp2_with fail
  refine (eB _ _ _ _ _).mono ?_;rintro r w1 ⟨rfl,rfl⟩;go_wp2_with fail
  refine (gl _ _ _ _ _).mono ?_;rintro r w1 ⟨rfl,rfl⟩;go_wp2_with fail
  go_ret
  exact⟨_,rfl,by rw[d.out];exact Y,btr q G⟩
 have X:=hid (dO e);have g6:=r11 4 (a.out L G).r;have au:=hid (oe 109 #[.pointer (some ⟨vb,0,none⟩)] (fun k l=>blB p k (p.kinds.getD k 0) (p.bits.getD k 0) l) 8 (V 4) p.lines L ((a.out L G).v.lines) o.lines Ik (fun k hk W x c hx=>by
   have F:k<p.kinds.length:=by have:=C.lines;omega
   have ah:k<p.bits.length:=by have:=C.lines;have:=C.bits;omega
   have:=rK vb V p k x p.lines[k] W (a.out W (btr G c)) C.IA F ah hx (o.line _ (av hk));rw[<-jY F, <-jY ah] at this;exact this))
 go_wp2_with fail
 refine (np au).mono ?_;rintro r P ⟨x,rfl,j,c⟩;have I:=hid (btr G c);rcases j with ⟨e,rfl⟩|⟨k,b,hk,g,i,rfl,m,n⟩
 rotate_left
 ·have d:=hid (show wmA p=(8,(k:Int)) by
   rw[B.out];unfold j4;rw[E.out,H.out,J.out,N.out,S.out,X.out,ir k hk g i];rfl)
  have Y:=hid (show nL P (.iface 59 (.pointer (some ⟨b,0,none⟩))) (8,(k:Int)) from .on b oD m n);have O:=r11 0 (a.out P I).r;have Z:=r11 6 (a.out P I).r;have T:=r11 7 (a.out P I).r;have K:=r11 8 (a.out P I).r;go_wp2_with fail
  refine (eB _ _ _ _ _).mono ?_;rintro r w1 ⟨rfl,rfl⟩;go_wp2_with fail
  refine (fm _ _ _ _ _).mono ?_;rintro r w1 ⟨rfl,rfl⟩;go_wp2_with fail
  refine (eB _ _ _ _ _).mono ?_;rintro r w1 ⟨rfl,rfl⟩;go_wp2_with fail
  refine (gl _ _ _ _ _).mono ?_;rintro r w1 ⟨rfl,rfl⟩;go_wp2_with fail
  go_ret
  exact⟨_,rfl,by rw[d.out];exact Y,btr q I⟩
 have L6:=hid (dO e);have g7:=r11 6 (a.out P I).r;have aw:=hid (jJ 110 #[.pointer (some ⟨vb,0,none⟩)] (fun k t=>bcB p k t) 8 (V 6) p.IC P ((a.out P I).v.IC) o.IC Il (fun k hk W c=>(rJ vb V p k _ W (a.out W (btr I c)) C.IA).mono fun _ _ h=>⟨h.1,h.2▸ag _ _⟩));go_wp2_with fail
 refine (np aw).mono ?_;rintro r U ⟨x,rfl,j,c⟩;have M:=hid (btr I c);rcases j with ⟨e,rfl⟩|⟨k,b,hk,g,i,rfl,m,n⟩
 rotate_left
 ·have d:=hid (show wmA p=(8,(k:Int)) by
   rw[B.out];unfold j4;rw[E.out,H.out,J.out,N.out,S.out,X.out,L6.out,ir k hk g i];rfl)
  have Y:=hid (show nL U (.iface 59 (.pointer (some ⟨b,0,none⟩))) (8,(k:Int)) from .on b oD m n);have O:=r11 0 (a.out U M).r;have T:=r11 7 (a.out U M).r;have K:=r11 8 (a.out U M).r;go_wp2_with fail
  refine (fm _ _ _ _ _).mono ?_;rintro r w1 ⟨rfl,rfl⟩;go_wp2_with fail
  refine (eB _ _ _ _ _).mono ?_;rintro r w1 ⟨rfl,rfl⟩;go_wp2_with fail
  refine (gl _ _ _ _ _).mono ?_;rintro r w1 ⟨rfl,rfl⟩;go_wp2_with fail
  go_ret
  exact⟨_,rfl,by rw[d.out];exact Y,btr q M⟩
 have L7:=hid (dO e);have g8:=r11 7 (a.out U M).r;have ax:=hid (oe 111 #[.pointer (some ⟨vb,0,none⟩)] (fun k l=>brB p k l) 8 (V 7) p.ready U ((a.out U M).v.ready) o.ready Im (fun k hk W x c hx=>(pW vb V p k x _ W (a.out W (btr M c)) C.IA hx (o.next _ (av hk)) (by have:=o.ready;omega)).mono fun _ _ h=>⟨h.1,h.2▸ag _ _⟩));go_wp2_with fail
 refine (np ax).mono ?_;rintro r v9 ⟨x,rfl,j,c⟩;have R:=hid (btr M c);rcases j with ⟨e,rfl⟩|⟨k,b,hk,g,i,rfl,m,n⟩
 rotate_left
 ·have d:=hid (show wmA p=(8,(k:Int)) by
   rw[B.out];unfold j4;rw[E.out,H.out,J.out,N.out,S.out,X.out,L6.out,L7.out,ir k hk g i];rfl)
  have Y:=hid (show nL v9 (.iface 59 (.pointer (some ⟨b,0,none⟩))) (8,(k:Int)) from .on b oD m n);have O:=r11 0 (a.out v9 R).r;have K:=r11 8 (a.out v9 R).r;go_wp2_with fail
  refine (eB _ _ _ _ _).mono ?_;rintro r w1 ⟨rfl,rfl⟩;go_wp2_with fail
  refine (gl _ _ _ _ _).mono ?_;rintro r w1 ⟨rfl,rfl⟩;go_wp2_with fail
  go_ret
  exact⟨_,rfl,by rw[d.out];exact Y,btr q R⟩
 have L8:=hid (dO e);have g9:=r11 0 (a.out v9 R).r;have ay:=hid (jJ 112 #[.pointer (some ⟨vb,0,none⟩)] (fun k x=>beB p (p.kinds.getD (k/16) 0) x) 9 (V 0) p.IE v9 ((a.out v9 R).v.IE) o.IE Io (fun k hk W c=>by
   have F:k/16<p.kinds.length:=by have:=C.IE;omega
   have:=pS vb V p k (k/16) p.IE[k] W (a.out W (btr R c)) (by have:=o.IE;omega) oA F (ae.out k hk);rw[<-jY F] at this;exact this.mono fun _ _ h=>⟨h.1,h.2▸ag _ _⟩))
 go_wp2_with fail
 refine (np ay).mono ?_;rintro r aa ⟨x,rfl,j,c⟩;have Q:=hid (btr R c);rcases j with ⟨e,rfl⟩|⟨k,b,hk,g,i,rfl,m,n⟩
 rotate_left
 ·have d:=hid (show wmA p=(9,(k:Int)) by
   rw[B.out];unfold j4;rw[E.out,H.out,J.out,N.out,S.out,X.out,L6.out,L7.out,L8.out,ir k hk g i];rfl)
  have Y:=hid (show nL aa (.iface 59 (.pointer (some ⟨b,0,none⟩))) (9,(k:Int)) from .on b oD m n);have K:=r11 8 (a.out aa Q).r;go_wp2_with fail
  refine (gl _ _ _ _ _).mono ?_;rintro r w1 ⟨rfl,rfl⟩;go_wp2_with fail
  go_ret
  exact⟨_,rfl,by rw[d.out];exact Y,btr q Q⟩
 have L9:=hid (dO e);have ab:=r11 8 (a.out aa Q).r;have an:=hid (wW 114 #[.pointer (some ⟨vb,0,none⟩)] (fun _ l=>bmB p l) 9 (V 8) p.ID aa ((a.out aa Q).v.ID) o.ID Gv (fun k hk W x c hx hm=>oJ vb V p k x _ W (a.out W (btr Q c)) (aA.out W (btr Q c)) hx hm));go_wp2_with fail
 refine (np an).mono ?_;rintro r v11 ⟨x,rfl,j,c⟩;have ac:=hid (btr Q c);rcases j with ⟨e,rfl⟩|⟨k,b,hk,g,i,rfl,m,n⟩
 rotate_left
 ·have d:=hid (show wmA p=(9,(k:Int)) by
   rw[B.out];unfold j4;rw[E.out,H.out,J.out,N.out,S.out,X.out,L6.out,L7.out,L8.out,L9.out,ir k hk g i];rfl)
  have Y:=hid (show nL v11 (.iface 59 (.pointer (some ⟨b,0,none⟩))) (9,(k:Int)) from .on b oD m n);go_wp2_with fail
  go_ret
  exact⟨_,rfl,by rw[d.out];exact Y,btr q ac⟩
 have aC:=hid (dO e);have d:=hid (show wmA p=(0, -1) by
  rw[B.out];unfold j4;rw[E.out,H.out,J.out,N.out,S.out,X.out,L6.out,L7.out,L8.out,L9.out,aC.out];rfl)
 go_wp2_with fail
 go_ret
 exact⟨_,rfl,by rw[d.out];exact .J5,btr q ac⟩
theorem Is (v a:Int) (w:World):Calls Tryz.prog 33 #[.int .i64 v,.int .i64 a] w fun e w'=>e=.returned (.bool (!dH 0 a v))∧w=w':=
 (Isa.fF v a w).mono fun r w' h=>⟨by
  rw[h.1];unfold dH;by_cases hh:0<=v∧v<=a
  ·rw[aA hh,aw oA];rfl
  ·rw[aw hh,aA oA];rfl,h.2⟩
end Wd
namespace Cpu
open Go.RowKit Mem Bw
theorem mm (o:Int) (i:o=6∨o=7∨o=8) (a b:Nat) (p:a<65536) (q:b<65536) (w:World):
  Calls Tryz.prog 34 #[.int .i64 a,.int .i64 b,.int .i64 o] w fun e w'=>e=.returned (.int .i64 (bw o a b:Nat))∧w=w':=by
 have l:=hid (yV o a b p q);have n:=hid (fun k=>BN o a b k i);have m:=hid i;clear i;go_enter Tryz.func34,Tryz.ntmps34
 go_wp2_with fail
 go_loopw [7,8] (fun x d wr=>∃k D u:Nat,k<=16∧d=.int .i64 D∧x=.int .i64 u∧Hid (D=2 ^ k∧u=bw o a b%2 ^ k)∧wr=w) (fun _ d _=>65536*2 - (intOf d).toNat)
 case atStart=>exact⟨0,1,0,oA,rfl,rfl,⟨rfl,by simp[Nat.mod_one]⟩,rfl⟩
 case round=>
  obtain⟨k,D,u,hk,rfl,rfl,c,rfl⟩:=hrel;have t:0<D:=by rw[c.1];exact Nat.two_pow_pos k
  have A:(D:Int)≠0:=oA;have E:u<65536:=by rw[c.2];exact Nat.lt_of_le_of_lt (Nat.mod_le _ _) l
  by_cases C:k<16
  ·have z:D<=32768:=by
    rw[c.1];exact aB (Nat.pow_le_pow_right oD (by omega:k<=15)) oD
   have v:(D:Int)<65536:=oA;have I:(a:Int).tdiv (D:Int)=((a/D:Nat):Int):=by rw[bP oA];simp
   have J:(b:Int).tdiv (D:Int)=((b/D:Nat):Int):=by rw[bP oA];simp
   have la:a/D<65536:=Nat.lt_of_le_of_lt (Nat.div_le_self _ _) p;have H:b/D<65536:=Nat.lt_of_le_of_lt (Nat.div_le_self _ _) q;have j:=hid (show hit o a b k=decide (o=6∧a/D%2+b/D%2=2∨o=7∧0<a/D%2+b/D%2∨o=8∧a/D%2+b/D%2=1) by unfold hit bt;rw[c.1]);generalize a/D=x at*;generalize b/D=y at*;have F:x%2<2:=Nat.mod_lt _ oD;have G:y%2<2:=Nat.mod_lt _ oD
   cases hh:hit o a b k with
   |true=>
    have f:=hid (show D*2=2 ^ (k+1)∧u+D=bw o a b%2 ^ (k+1) from⟨by rw[c.1,Nat.pow_succ],by rw[n.out k,hh,ah rfl,c.2,c.1]⟩);have g:=j.out;rw[hh] at g;have h:=(decide_eq_true_iff.1 g.symm);clear hh g;rcases m.out with rfl|rfl|rfl
    ·have e1:((x:Int)%2+(y:Int)%2==2)=true:=bH.2 oA;clear h;go_wp2_with fail
     exact⟨⟨k+1,D*2,u+D,oA,by go_num,by go_num,f.out,trivial⟩,by simp[intOf];omega⟩
    ·have e1:(0:Int)<(x:Int)%2+(y:Int)%2:=oA;clear h;go_wp2_with fail
     exact⟨⟨k+1,D*2,u+D,oA,by go_num,by go_num,f.out,trivial⟩,by simp[intOf];omega⟩
    ·have e1:((x:Int)%2+(y:Int)%2==1)=true:=bH.2 oA;clear h;go_wp2_with fail
     exact⟨⟨k+1,D*2,u+D,oA,by go_num,by go_num,f.out,trivial⟩,by simp[intOf];omega⟩
   |false=>
    have f:=hid (show D*2=2 ^ (k+1)∧u=bw o a b%2 ^ (k+1) from⟨by rw[c.1,Nat.pow_succ],by rw[n.out k,hh,ae oD,c.2,bO]⟩);have g:=j.out;rw[hh] at g;have h:=(decide_eq_false_iff_not.1 g.symm);clear hh g;rcases m.out with rfl|rfl|rfl
    ·have e1:((x:Int)%2+(y:Int)%2==2)=false:=beq_eq_false_iff_ne.2 oA;clear h;go_wp2_with fail
     exact⟨⟨k+1,D*2,u,oA,by go_num,rfl,f.out,trivial⟩,by simp[intOf];omega⟩
    ·have e1:¬((0:Int)<(x:Int)%2+(y:Int)%2):=oA;clear h;go_wp2_with fail
     exact⟨⟨k+1,D*2,u,oA,by go_num,rfl,f.out,trivial⟩,by simp[intOf];omega⟩
    ·have e1:((x:Int)%2+(y:Int)%2==1)=false:=beq_eq_false_iff_ne.2 oA;clear h;go_wp2_with fail
     exact⟨⟨k+1,D*2,u,oA,by go_num,rfl,f.out,trivial⟩,by simp[intOf];omega⟩
  ·obtain rfl:k=16:=oA;have s:=c.1;have B:¬((D:Int)<65536):=oA;have r:=hid (show u=bw o a b by rw[c.2];exact Nat.mod_eq_of_lt l);go_wp2_with fail
   go_ret
   exact⟨pG (by show ((u:Nat):Int)=_;rw[r.out]),rfl⟩
theorem iT (o:Int) (d:o=6∨o=7∨o=8) (a b:Int) (w:World) (a0:0<=a) (a1:a<65536) (b0:0<=b) (b1:b<65536):
  Calls Tryz.prog 34 #[.int .i64 a,.int .i64 b,.int .i64 o] w fun e w'=>e=.returned (.int .i64 (bw o a.toNat b.toNat:Nat))∧w=w':=by
 have c:=mm o d a.toNat b.toNat oA oA w;rw[show ((a.toNat:Nat):Int)=a by omega,show ((b.toNat:Nat):Int)=b by omega] at c;exact c
end Cpu
namespace Wd
open Go.RowKit Mem Bw Nums Mmu
theorem n9 {s:Nat->Int} (a:kc s=0) (d:¬s 0=0):0<=s 1∧s 1<=23∧1<=s 2∧s 2<=24∧0<=s 4∧s 4<=7:=by
 have h:KP.chk (s 0) (s 1) (s 2) (s 3) (s 4) (s 5)=0:=a;obtain⟨e,k1,b0,b1,l0,l1,m0,m1,f,g,b,c⟩:=KP.kz h;rw[mw] at h;split at h
 ·omega
 split at h
 ·omega
 split at h
 ·omega
 ·omega
def DW (_p:PW) (_k:Nat) (x:Int):Bool:=nwB x
def DX (_p:PW) (_k:Nat) (x:Int):Bool:=nkB x
def DY (_p:PW) (_k:Nat) (x:Int):Bool:=nd x
def DZ (p:PW) (k:Nat) (x:Nat->Int):Bool:=bsB p (p.kinds.getD (k/16) 0) x
def D3 (p:PW) (k:Nat) (x:Int):Bool:=bfB p k x
def D6 (p:PW) (k:Nat) (x:Nat->Int):Bool:=btB p k (p.kinds.getD k 0) x
def D9 (p:PW) (k:Nat) (x:List Int):Bool:=blB p k (p.kinds.getD k 0) (p.bits.getD k 0) x
def Eb (p:PW) (k:Nat) (x:Int):Bool:=bcB p k x
def Ec (p:PW) (k:Nat) (x:List Int):Bool:=brB p k x
def F9 (p:PW) (k:Nat) (x:Int):Bool:=beB p (p.kinds.getD (k/16) 0) x
def yR (p:PW) (_k:Nat) (x:List Ent):Bool:=bmB p x
theorem pn (p:PW):j4 p=[(1,lk (DW p) p.IE),(3,lk (DX p) p.kinds),(2,lk (DY p) p.IF),(8,lk (DZ p) p.IB),(8,lk (D3 p) p.kinds),(8,lk (D6 p) p.IA),(8,lk (D9 p) p.lines),(8,lk (Eb p) p.IC),(8,lk (Ec p) p.ready),(9,lk (F9 p) p.IE),(9,lk (yR p) p.ID)]:=rfl
theorem Fc {p:PW} (a1:¬(p.kinds.length:Int)<1) (a:¬(24:Int)<p.kinds.length) (b1:¬(p.IC.length:Int)<1) (b2:¬(4:Int)<p.IC.length) (c1:¬(p.IF.length:Int)<1) (c2:¬(8:Int)<p.IF.length) (b:(p.IE.length:Int)=(p.kinds.length:Int)*16) (d2:(p.IB.length:Int)=(p.kinds.length:Int)*16) (c:(p.IA.length:Int)=p.kinds.length) (d:(p.lines.length:Int)=p.kinds.length) (e:(p.bits.length:Int)=p.kinds.length) (f:(p.ready.length:Int)=(p.IC.length:Int)*4) (g:(p.ID.length:Int)=p.IC.length):lfB p=true:=by
 unfold lfB;simp only[am,bp,bH];omega
def mf (p:PW):Bool:=(wmA p).1==0
theorem BU {w:World} {x:Value} {p:PW} (h:nL w x (wmA p)) (a:mf p=true):x=.nilIface:=by
 unfold mf at a;generalize wmA p=r at h a;rcases h with ⟨rfl,rfl⟩|⟨e,c,rfl,rfl⟩|⟨e,k,b,c,d,f,rfl,rfl⟩
 ·rfl
 ·exact absurd (by simpa using a) c
 ·exact absurd (by simpa using a) c
theorem lG:∀l:List (Int×Option Nat),(∀x∈l,x.1≠0)->(oY l).1=0->∀x∈l,x.2=none
 |[],_,_=>fun _ h=>by cases h
 |(e,some k)::r,h,h0=>absurd h0 (h _ (cP ..))
 |(e,none)::r,h,h0=>fun x a=>by
  rcases bI.1 a with rfl|a
  ·rfl
  ·exact lG r (fun y b=>h y (List.mem_cons_of_mem _ b)) h0 x a
theorem jt {α:Type} {a:Nat->α->Bool} {l:List α} (h:lk a l=none):∀k (hk:k<l.length),a k l[k]=false:=fun k hk=>by
 unfold lk at h;rw[List.find?_eq_none] at h;have:=h k (List.mem_range.2 hk);rw[ac hk] at this;simpa using this
structure Snd (p:PW):Prop where
 lf:LF p
 tm:dH 0 1000000 p.time=true
 b0:∀k (hk:k<p.IE.length),DW p k p.IE[k]=false
 b1:∀k (hk:k<p.kinds.length),DX p k p.kinds[k]=false
 b2:∀k (hk:k<p.IF.length),DY p k p.IF[k]=false
 b3:∀k (hk:k<p.IB.length),DZ p k p.IB[k]=false
 b4:∀k (hk:k<p.kinds.length),D3 p k p.kinds[k]=false
 b5:∀k (hk:k<p.IA.length),D6 p k p.IA[k]=false
 b6:∀k (hk:k<p.lines.length),D9 p k p.lines[k]=false
 b7:∀k (hk:k<p.IC.length),Eb p k p.IC[k]=false
 b8:∀k (hk:k<p.ready.length),Ec p k p.ready[k]=false
 b9:∀k (hk:k<p.IE.length),F9 p k p.IE[k]=false
 Kg:∀k (hk:k<p.ID.length),yR p k p.ID[k]=false
theorem ui {p:PW} (h:mf p=true):Snd p:=by
 unfold mf wmA at h
 cases hl:(lfB p&&dH 0 1000000 p.time) with
 |false=>rw[hl] at h;cases h
 |true=>
  rw[hl,ah rfl,pn] at h;have a:=hl;rw[am] at a;have b:=eq_of_beq h;have g:=lG _ oS b;exact⟨tD a.1,a.2,jt (g (1,lk (DW p) p.IE) oS),jt (g (3,lk (DX p) p.kinds) oS),jt (g (2,lk (DY p) p.IF) oS),jt (g (8,lk (DZ p) p.IB) oS),jt (g (8,lk (D3 p) p.kinds) oS),jt (g (8,lk (D6 p) p.IA) oS),jt (g (8,lk (D9 p) p.lines) oS),jt (g (8,lk (Eb p) p.IC) oS),jt (g (8,lk (Ec p) p.ready) oS),jt (g (9,lk (F9 p) p.IE) oS),jt (g (9,lk (yR p) p.ID) oS)⟩
def eV (e:Int):Value:=if e=0 then .nilIface else .iface 36 (.int .i64 e)
theorem Hu:eV 0=.nilIface:=rfl
theorem Hv {e:Int} (h:¬e=0):eV e=.iface 36 (.int .i64 e):=ae h
theorem yY {w:World} {x:Value} {p:PW} (h:nL w x (wmA p)) (a:mf p=false):(∃e,x=.iface 36 (.int .i64 e))∨∃b,x=.iface 59 (.pointer (some ⟨b,0,none⟩)):=by
 unfold mf at a;generalize wmA p=r at h a;rcases h with ⟨rfl,rfl⟩|⟨e,c,rfl,rfl⟩|⟨e,k,b,c,d,f,rfl,rfl⟩
 ·simp at a
 ·exact .inl ⟨_,rfl⟩
 ·exact .inr ⟨_,rfl⟩
