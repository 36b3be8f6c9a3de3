/- Uaj -/
import Derived.BigGuard
import Derived.BigCall
import Derived.Lib.SliceRun
import Derived.Deep.RegionHeld3
import Derived.BigQuiet
import Derived.Test.YtnccmdndkmmhcaaGreatDoorUai
set_option maxRecDepth 100000
set_option maxHeartbeats 16000000
namespace Go.Proofs.YtnccmdndkmmhcaaGreatDoor
namespace Wd
open Go.RowKit Mem Bw Nums Mmu
def dE (p:PW) (e:Int):Int:=if p4 p then e else 8
def dP (p p':PW) (e:Int):PW:=if dE p e=0 then p' else noP
theorem zp (a:Act) (t:Nat):a.eval (.tmp t)=a.tmps[t]?.getD undef:=by simp[Act.eval,Array.getD_eq_getD_getElem?]
theorem vy {c:Func} {p u:Tmp} {f:TypeId} (h:c.results=#[.cell p f,.tmp u]) {a:Act} {P:Program} {w:World} {b:Nat} {x y:Value} (d:a.eval (.tmp p)=.pointer (some ⟨b,0,none⟩)) (hl:(loadVar f ⟨b,0,none⟩).run P w=.ok x w) (e:a.eval (.tmp u)=y):
  (results c a.tmps).run P w=.ok (.tuple #[x,y]) w:=by
 rw[zp] at d e;simp only[results,h];simp[Result.andThen,asAddr,d,e,hl]
theorem iJ {d:Func} {p u:Tmp} {e:TypeId} (h:d.results=#[.cell p e,.tmp u]) {c:Array Value} {P:Program} {w:World} {b:Nat} {x y:Value} (f:c.getD p undef=.pointer (some ⟨b,0,none⟩)) (hl:(loadVar e ⟨b,0,none⟩).run P w=.ok x w) (g:c.getD u undef=y):
  (results d c).run P w=.ok (.tuple #[x,y]) w:=vy (a:=⟨c,[]⟩) h f hl g
def fh (p:PW) (n:Int):Int:=if fL p n then (if (p.IH.getD n.toNat ft) 0=0 then 6 else 0) else 2
theorem pf (vb:Nat) (V:Nat->Value) (p:PW) (n:Int) (w:World) (hv:d6 w vb V p):
  Calls Tryz.prog 111 #[.pointer (some ⟨vb,0,none⟩),.int .i64 n] w fun r w'=>r=.returned (eV (fh p n))∧w=w':=by
 have c2:w.cell? ⟨vb,2,none⟩=some (V 2):=ai hv.r rfl;have c1:w.cell? ⟨vb,1,none⟩=some (V 1):=ai hv.r rfl;obtain⟨B,b2,A,q,e2,g,h⟩:=hv.v.IH;obtain⟨q1,b1,z,o,e1,k,l⟩:=hv.v.kinds;have x:(p.IH.length:Int)<=1000:=by have:=hv.f.IH;omega
 have u:(p.kinds.length:Int)<=1000:=by have:=hv.f.kinds;omega
 have e:=hid hv
 cases hs:fL p n with
 |false=>
  have a:=hid (show fh p n=2 by unfold fh;rw[hs];rfl);have b:=hid hs;clear hs h g l k hv;go_enter Tryz.func111,Tryz.ntmps111
  go_wp2_with fail
  refine (iV vb V p _ w e).mono ?_;rintro r w1 ⟨rfl,rfl⟩;rw[b.out];go_wp2_with fail
  go_ret
  exact⟨by rw[a.out];rfl,rfl⟩
 |true=>
  obtain⟨j,rfl,i⟩:=fQ hs;have b:=hid hs;have t:(j:Int)<(p.IH.length:Int):=oA;obtain rfl:=g oA;have m:=hV (h j i) (dk 7 _ 0 oA);have d:=hid (show fh p j=if p.IH[j] 0=0 then 6 else 0 by unfold fh;rw[hs,ag rfl,ah,aa,ac i];rfl);generalize p.IH[j] 0=y at m d;clear hs h g l k hv;by_cases c:y=0
  ·subst c;have a:=hid (show fh p j=6 by rw[d.out];rfl);go_enter Tryz.func111,Tryz.ntmps111
   go_wp2_with fail
   refine (iV vb V p _ w e).mono ?_;rintro r w1 ⟨rfl,rfl⟩;rw[b.out];go_wp2_with fail
   go_ret
   exact⟨by rw[a.out];rfl,rfl⟩
  ·have a:=hid (show fh p j=0 by rw[d.out,ae c]);have s:(y==0)=false:=by simpa using c
   clear c;go_enter Tryz.func111,Tryz.ntmps111
   go_wp2_with fail
   refine (iV vb V p _ w e).mono ?_;rintro r w1 ⟨rfl,rfl⟩;rw[b.out];go_wp2_with fail
   go_ret
   exact⟨by rw[a.out];rfl,rfl⟩
theorem mK (vb:Nat) (V:Nat->Value) (p:PW) (n:Int) (w:World) (hv:d6 w vb V p):
  Calls Tryz.prog 119 #[.pointer (some ⟨vb,0,none⟩),.int .i64 n] w fun r w'=>r=.returned (.int .i64 (fh p n))∧w=w':=by
 have c2:=r11 2 hv.r;have c1:=r11 1 hv.r;obtain⟨C,b2,B,m,e2,h,i⟩:=hv.v.IH;obtain⟨q1,b1,A,l,e1,x,z⟩:=hv.v.kinds;have u:(p.IH.length:Int)<=1000:=by have:=hv.f.IH;omega
 have t:(p.kinds.length:Int)<=1000:=by have:=hv.f.kinds;omega
 cases hs:fL p n with
 |false=>
  have a:=hid (show fh p n=2 by unfold fh;rw[hs];rfl);have e:=hid hs;have g:=dh hs;by_cases b:n<0
  ·clear g;go_enter Tryz.func119,Tryz.ntmps119
   go_wp2_with fail
   go_ret
   exact⟨by rw[a.out];rfl,rfl⟩
  ·have q:(p.IH.length:Int)<=n:=oA;go_enter Tryz.func119,Tryz.ntmps119
   go_wp2_with fail
   go_ret
   exact⟨by rw[a.out];rfl,rfl⟩
 |true=>
  obtain⟨j,rfl,d⟩:=fQ hs;have e:=hid hs;have s:(j:Int)<(p.IH.length:Int):=oA;obtain rfl:=h oA;have k:=hV (i j d) (dk 7 _ 0 oA);have c:=hid (show fh p j=if p.IH[j] 0=0 then 6 else 0 by unfold fh;rw[hs,ag rfl,ah,aa,ac d];rfl);generalize p.IH[j] 0=y at k c;have n0:¬((j:Int)<0):=oA;have n1:¬((p.IH.length:Int)<=(j:Int)):=oA;by_cases b:y=0
  ·subst b;have a:=hid (show fh p j=6 by rw[c.out];rfl);go_enter Tryz.func119,Tryz.ntmps119
   go_wp2_with fail
   go_ret
   exact⟨by rw[a.out];rfl,rfl⟩
  ·have a:=hid (show fh p j=0 by rw[c.out,ae b]);have o:(y==0)=false:=by simpa using b
   go_enter Tryz.func119,Tryz.ntmps119
   go_wp2_with fail
   go_ret
   exact⟨by rw[a.out];rfl,rfl⟩
def spl:List Value->Nat->List Value->List Value
 |xs,_,[]=>xs
 |xs,o,v::r=>spl (xs.set o v) (o+1) r
theorem yw:∀(b xs:List Value) (o j:Nat),(spl xs o b)[j]? =if o<=j∧j<o+b.length∧j<xs.length then b[j - o]? else xs[j]?
 |[],xs,o,j=>by
  rw[spl,ae (by simp;omega)]
 |v::r,xs,o,j=>by
  rw[spl,yw r (xs.set o v) (o+1) j];simp only[au,dY];by_cases c:o=j
  ·subst c;rw[ae oA];by_cases a:o<xs.length
   ·rw[ag ⟨aq _,oA,a⟩,cQ a,Nat.sub_self];rfl
   ·rw[ae oA,aI (by simp;omega),aI oA]
  ·rw[cR c];by_cases a:o+1<=j∧j<o+1+r.length∧j<xs.length
   ·rw[ag a,ag ⟨oA,oA,a.2.2⟩,show j - o=(j - (o+1))+1 by omega];rfl
   ·rw[ae a,ae oA]
theorem ur {base e size g n cap:Nat}:∀(a:List Value) (o:Nat) (w:World) (xs:List Value),w.ownsRow base e size (.slice (some ⟨g,0,none⟩) n cap) n xs->(w.setCells g o a).ownsRow base e size (.slice (some ⟨g,0,none⟩) n cap) n (spl xs o a)
 |[],_,_,_,h=>h
 |v::r,o,w,xs,h=>by
  rw[World.setCells,spl];exact ur r (o+1) _ _ (h.stored o v).1
theorem rE (n:Nat) (a:0<n) (fs:List (Nat->Int)) (i:Nat) (hi:i<fs.length) (f:Nat->Int):spl (eX n fs) (i*n) (cf n f)=eX n (fs.set i f):=by
 apply List.ext_getElem?;intro j;rw[yw,ay];have hl:=gr n fs;have m:(eX n (fs.set i f)).length=fs.length*n:=by rw[gr,au]
 by_cases l:j<fs.length*n
 ·have e:j=j/n*n+j%n:=by rw[Nat.mul_comm];exact (Nat.div_add_mod j n).symm
  have d:=(Nat.div_lt_iff_lt_mul a).2 l;have b:j%n<n:=Nat.mod_lt _ a;have a1:=iW n fs (j/n) (j%n) d b;have c:=iW n (fs.set i f) (j/n) (j%n) (by rw[au];exact d) b;rw[<-e] at a1 c;rw[a1,c];by_cases h:j/n=i
  ·have e2:j - i*n=j%n:=by rw[<-h];omega
   rw[ag (by rw[hl, <-h];omega),e2,dk n f _ b];subst h;rw[dV]
  ·rw[ae (by
    intro hh;apply h;have g:=hh.1;have k:j<(i+1)*n:=by rw[Nat.succ_mul];exact hh.2.1
    exact Nat.le_antisymm (Nat.lt_succ_iff.1 ((Nat.div_lt_iff_lt_mul a).2 k)) ((Nat.le_div_iff_mul_le a).2 g))]
   rw[List.getElem_set_ne (fun e=>h e.symm)]
 ·rw[ae (by rw[hl];omega),aI (by rw[hl];omega),aI (by rw[m];omega)]
theorem gj.Ka {w:World} {L:Nat->Nat} {v:Nat->Value} {p:PW} (h:gj w L v p):∀d j,j+d<=10->L j<=L (j+d)
 |0,_,_=>aq _
 |d+1,j,hj=>aB (h.Ka d j oA) (h.mono (j+d) oA)
theorem cb.IL {W b:World} {wb:Nat} {tag tag':Nat->Nat} {V:Nat->Value} {p:PW} (h:cb W wb tag V p) (k:Kp (fun k=>tag k=2) W b) (a:∀k,k<W.heap.size->tag' k=tag k) {x:List Int} (n:InT b tag' 2 3 1 (V 0) (x.length,dU x)):cb b wb tag' V {p with IL:=x}:=
 ⟨eM h.r k (by rw[h.g];decide),eg h.t k (by rw[h.g];decide),(a wb h.lt).trans h.g,⟨n,h.o.kinds.kp k a (fun k e=>oA),h.o.IH.kp k a (fun k e=>oA),h.o.II.kp k a (fun k e=>oA),h.o.lines.kp k a (fun k e=>by rcases e with e|⟨i,e⟩<;>omega),h.o.bits.kp k a (fun k e=>oA),h.o.IJ.kp k a (fun k e=>oA),h.o.ready.kp k a (fun k e=>by rcases e with e|⟨i,e⟩<;>omega),h.o.IK.kp k a (fun k e=>by rcases e with e|⟨i,e⟩<;>omega),h.o.IQ.kp k a (fun k e=>oA),h.o.time⟩⟩
theorem cb.kinds {W b:World} {wb:Nat} {tag tag':Nat->Nat} {V:Nat->Value} {p:PW} (h:cb W wb tag V p) (k:Kp (fun k=>tag k=3) W b) (a:∀k,k<W.heap.size->tag' k=tag k) {x:List Int} (n:InT b tag' 3 3 1 (V 1) (x.length,dU x)):cb b wb tag' V {p with kinds:=x}:=
 ⟨eM h.r k (by rw[h.g];decide),eg h.t k (by rw[h.g];decide),(a wb h.lt).trans h.g,⟨h.o.IL.kp k a (fun k e=>oA),n,h.o.IH.kp k a (fun k e=>oA),h.o.II.kp k a (fun k e=>oA),h.o.lines.kp k a (fun k e=>by rcases e with e|⟨i,e⟩<;>omega),h.o.bits.kp k a (fun k e=>oA),h.o.IJ.kp k a (fun k e=>oA),h.o.ready.kp k a (fun k e=>by rcases e with e|⟨i,e⟩<;>omega),h.o.IK.kp k a (fun k e=>by rcases e with e|⟨i,e⟩<;>omega),h.o.IQ.kp k a (fun k e=>oA),h.o.time⟩⟩
theorem cb.IH {W b:World} {wb:Nat} {tag tag':Nat->Nat} {V:Nat->Value} {p:PW} (h:cb W wb tag V p) (k:Kp (fun k=>tag k=4) W b) (a:∀k,k<W.heap.size->tag' k=tag k) {x:List (Nat->Int)} (n:InT b tag' 4 34 7 (V 2) (x.length,eX 7 x)):cb b wb tag' V {p with IH:=x}:=
 ⟨eM h.r k (by rw[h.g];decide),eg h.t k (by rw[h.g];decide),(a wb h.lt).trans h.g,⟨h.o.IL.kp k a (fun k e=>oA),h.o.kinds.kp k a (fun k e=>oA),n,h.o.II.kp k a (fun k e=>oA),h.o.lines.kp k a (fun k e=>by rcases e with e|⟨i,e⟩<;>omega),h.o.bits.kp k a (fun k e=>oA),h.o.IJ.kp k a (fun k e=>oA),h.o.ready.kp k a (fun k e=>by rcases e with e|⟨i,e⟩<;>omega),h.o.IK.kp k a (fun k e=>by rcases e with e|⟨i,e⟩<;>omega),h.o.IQ.kp k a (fun k e=>oA),h.o.time⟩⟩
theorem cb.IK {W b:World} {wb:Nat} {tag tag':Nat->Nat} {V:Nat->Value} {p:PW} (h:cb W wb tag V p) (k:Kp (fun k=>tag k=10∨∃j,tag k=14+3*j) W b) (a:∀k,k<W.heap.size->tag' k=tag k) {x:List (List Ent)} (n:jR b tag' x.length (V 8) x):cb b wb tag' V {p with IK:=x}:=
 ⟨eM h.r k (by rw[h.g];rintro (h|⟨j,h⟩)<;>omega),eg h.t k (by rw[h.g];rintro (h|⟨j,h⟩)<;>omega),(a wb h.lt).trans h.g,⟨h.o.IL.kp k a (fun k e=>by rintro (h|⟨j,h⟩)<;>omega),h.o.kinds.kp k a (fun k e=>by rintro (h|⟨j,h⟩)<;>omega),h.o.IH.kp k a (fun k e=>by rintro (h|⟨j,h⟩)<;>omega),h.o.II.kp k a (fun k e=>by rintro (h|⟨j,h⟩)<;>omega),h.o.lines.kp k a (fun k e=>by rintro (h|⟨j,h⟩)<;>rcases e with e|⟨i,e⟩<;>omega),h.o.bits.kp k a (fun k e=>by rintro (h|⟨j,h⟩)<;>omega),h.o.IJ.kp k a (fun k e=>by rintro (h|⟨j,h⟩)<;>omega),h.o.ready.kp k a (fun k e=>by rintro (h|⟨j,h⟩)<;>rcases e with e|⟨i,e⟩<;>omega),n,h.o.IQ.kp k a (fun k e=>by rintro (h|⟨j,h⟩)<;>omega),h.o.time⟩⟩
theorem InT.cells {w:World} {tag:Nat->Nat} {t I s n g cap:Nat} {xs:List Value} (h:InT w tag t I s (.slice (some ⟨g,0,none⟩) n cap) (n,xs)) (o:Nat) (a:List Value):InT (w.setCells g o a) tag t I s (.slice (some ⟨g,0,none⟩) n cap) (n,spl xs o a)∧Kp (fun k=>tag k=t) w (w.setCells g o a):=
 ⟨⟨ur a o w xs h.1,h.2⟩,px (T:=fun k=>tag k=t) a o w (h.2 g rfl)⟩
theorem InT.there {w:World} {tag:Nat->Nat} {t I s n g cap:Nat} {xs:List Value} (h:InT w tag t I s (.slice (some ⟨g,0,none⟩) n cap) (n,xs)) (o m:Nat) (d:o+m<=n*s):w.there g o m:=fun j c=>by
 refine⟨?_,h.1.frozenAt _⟩;have hl:xs.length=n*s:=h.1.1;have a:o+j<n*s:=oA;have b:w.cell? ⟨g,o+j,none⟩=xs[o+j]? :=h.1.cellAt (o+j) a;rw[b,ac oA];rfl
theorem cb.Je {W:World} {wb:Nat} {tag:Nat->Nat} {V:Nat->Value} {p:PW} (h:cb W wb tag V p) {g cap:Nat} (e:V 2=.slice (some ⟨g,0,none⟩) p.IH.length cap) {i k:Nat} (hi:i<p.IH.length) (hk:k<7) (x:Int):
  cb (W.setCell ⟨g,i*7+k,none⟩ (.int .i64 x)) wb tag V {p with IH:=p.IH.set i (upd p.IH[i] k x)}∧Kt tag tag W (W.setCell ⟨g,i*7+k,none⟩ (.int .i64 x)):=by
 have a:=h.o.IH;rw[e] at a;obtain⟨b,c⟩:=a.cell (i*7+k) (.int .i64 x);rw[oC 7 oD p.IH i k hi hk x] at b;refine⟨h.IH c (fun _ _=>rfl) ?_,.of c (fun k e=>oA) (fun _ _=>rfl)⟩;rw[au,e];exact b
theorem cb.I1 {W:World} {wb:Nat} {tag:Nat->Nat} {V:Nat->Value} {p:PW} (h:cb W wb tag V p) {g cap:Nat} (e:V 2=.slice (some ⟨g,0,none⟩) p.IH.length cap) {i:Nat} (hi:i<p.IH.length) (f:Nat->Int):
  cb (W.setCells g (i*7) (cf 7 f)) wb tag V {p with IH:=p.IH.set i f}∧Kt tag tag W (W.setCells g (i*7) (cf 7 f)):=by
 have a:=h.o.IH;rw[e] at a;obtain⟨b,c⟩:=a.cells (i*7) (cf 7 f);rw[rE 7 oD p.IH i hi f] at b;refine⟨h.IH c (fun _ _=>rfl) ?_,.of c (fun k e=>oA) (fun _ _=>rfl)⟩;rw[au,e];exact b
theorem cb.Jc {W:World} {wb:Nat} {tag:Nat->Nat} {V:Nat->Value} {p:PW} (h:cb W wb tag V p) {g cap:Nat} (e:V 3=.slice (some ⟨g,0,none⟩) p.II.length cap) {i:Nat} (hi:i<p.II.length) (f:Nat->Int):
  cb (W.setCells g (i*20) (cf 20 f)) wb tag V {p with II:=p.II.set i f}∧Kt tag tag W (W.setCells g (i*20) (cf 20 f)):=by
 have a:=h.o.II;rw[e] at a;obtain⟨b,c⟩:=a.cells (i*20) (cf 20 f);rw[rE 20 oD p.II i hi f] at b;refine⟨h.II c (fun _ _=>rfl) ?_,.of c (fun k e=>oA) (fun _ _=>rfl)⟩;rw[au,e];exact b
theorem cb.IU {W:World} {wb:Nat} {tag:Nat->Nat} {V:Nat->Value} {p:PW} (h:cb W wb tag V p) {g cap:Nat} (e:V 0=.slice (some ⟨g,0,none⟩) p.IL.length cap) (i:Nat) (x:Int):
  cb (W.setCell ⟨g,i,none⟩ (.int .i64 x)) wb tag V {p with IL:=p.IL.set i x}∧Kt tag tag W (W.setCell ⟨g,i,none⟩ (.int .i64 x)):=by
 have a:=h.o.IL;rw[e] at a;obtain⟨b,c⟩:=a.cell i (.int .i64 x);rw[ints_set] at b;refine⟨h.IL c (fun _ _=>rfl) ?_,.of c (fun k e=>oA) (fun _ _=>rfl)⟩;rw[au,e];exact b
theorem cb.IW {W:World} {wb:Nat} {tag:Nat->Nat} {V:Nat->Value} {p:PW} (h:cb W wb tag V p) {g cap:Nat} (e:V 1=.slice (some ⟨g,0,none⟩) p.kinds.length cap) (i:Nat) (x:Int):
  cb (W.setCell ⟨g,i,none⟩ (.int .i64 x)) wb tag V {p with kinds:=p.kinds.set i x}∧Kt tag tag W (W.setCell ⟨g,i,none⟩ (.int .i64 x)):=by
 have a:=h.o.kinds;rw[e] at a;obtain⟨b,c⟩:=a.cell i (.int .i64 x);rw[ints_set] at b;refine⟨h.kinds c (fun _ _=>rfl) ?_,.of c (fun k e=>oA) (fun _ _=>rfl)⟩;rw[au,e];exact b
theorem cb.I0 {W:World} {wb:Nat} {tag:Nat->Nat} {V:Nat->Value} {p:PW} (h:cb W wb tag V p) {g cap:Nat} (e:V 2=.slice (some ⟨g,0,none⟩) p.IH.length cap) {i k:Nat} (hi:i<p.IH.length) (hk:k<7):W.cell? ⟨g,i*7+k,none⟩=some (.int .i64 (p.IH[i] k)):=by
 have a:=h.o.IH;rw[e] at a;exact a.range hi k _ (dk 7 _ k hk)
theorem cb.JF {W:World} {wb:Nat} {tag:Nat->Nat} {V:Nat->Value} {p:PW} (h:cb W wb tag V p) {g cap:Nat} (e:V 2=.slice (some ⟨g,0,none⟩) p.IH.length cap) (o:Nat):W.frozen? ⟨g,o,none⟩=false:=by
 have a:=h.o.IH;rw[e] at a;exact a.frozen o
section
variable {P : Program} {ops : Array Oper} {Q : Exit -> Act -> World -> Prop} {md : Region.Mode} {S R : World -> Prop} {fs : List Nat}
end
def lY (a b:Int) (f:Nat->Int):Nat->Int:=if f 6=a then upd f 6 b else f
def hnd (a b:Int) (fs:List (Nat->Int)):List (Nat->Int):=fs.map (lY a b)
def ki (a b:Int) (k:Nat) (fs:List (Nat->Int)):List (Nat->Int):=(fs.take k).map (lY a b)++fs.drop k
theorem kC (a b:Int) (k:Nat) (fs:List (Nat->Int)):(ki a b k fs).length=fs.length:=by
 unfold ki;simp;omega
theorem qN (a b:Int) (fs:List (Nat->Int)):ki a b 0 fs=fs:=by simp[ki]
theorem tW (a b:Int) (fs:List (Nat->Int)):ki a b fs.length fs=hnd a b fs:=by simp[ki,hnd]
theorem ph (a b:Int) (k:Nat) (fs:List (Nat->Int)) (hk:k<fs.length) (h:k<(ki a b k fs).length):(ki a b k fs)[k]=fs[k]:=by
 have e:(ki a b k fs)[k]? =fs[k]? :=by
  unfold ki;rw[dS (by simp;omega),dL]
  congr 1
  simp;omega
 rw[ac h,ac hk] at e;exact aK e
theorem qM (a b:Int) (k:Nat) (fs:List (Nat->Int)) (hk:k<fs.length):ki a b (k+1) fs=(ki a b k fs).set k (lY a b fs[k]):=by
 unfold ki;have e:k - (List.map (lY a b) (List.take k fs)).length=0:=by simp;omega
 rw[List.take_add_one,ac hk,eD,List.set_append,ae (by simp;omega),e];simp only[Option.toList_some,cd,eQ,List.append_assoc,List.cons_append,eC];rw[List.drop_eq_getElem_cons hk];rfl
theorem tX {a b:Int} {k:Nat} {fs:List (Nat->Int)} (hk:k<fs.length) (h:k<(ki a b k fs).length) (c:fs[k] 6=a):(ki a b k fs).set k (upd (ki a b k fs)[k] 6 b)=ki a b (k+1) fs:=by
 rw[qM a b k fs hk,ph a b k fs hk h];unfold lY;rw[ag c]
theorem qL {a b:Int} {k:Nat} {fs:List (Nat->Int)} (hk:k<fs.length) (c:¬fs[k] 6=a):ki a b k fs=ki a b (k+1) fs:=by
 have h:k<(ki a b k fs).length:=by rw[kC];exact hk
 rw[qM a b k fs hk];unfold lY;rw[ae c, <-ph a b k fs hk h,bV]
theorem zD (wb:Nat) (tag:Nat->Nat) (V:Nat->Value) (p:PW) (a b:Int) (W:World) (bt:cb W wb tag V p) (hl:p.IH.length<=1000):
  Calls Tryz.prog 78 #[.pointer (some ⟨wb,0,none⟩),.int .i64 a,.int .i64 b] W fun r W'=>r=.returned (.tuple #[])∧cb W' wb tag V {p with IH:=hnd a b p.IH}∧Kt tag tag W W':=by
 obtain⟨A,g,cap,e2,t⟩:=bt.o.IH.shape;have c2:W.cell? ⟨wb,2,none⟩=some (.slice A p.IH.length cap):=by rw[ai bt.r (k:=2) rfl,e2]
 have u:=hid bt;have w:=hid t;have n:=hid e2;have D:(p.IH.length:Int)<=1000:=oA;clear bt t e2;go_enter Tryz.func78,Tryz.ntmps78
 go_wp2_with fail
 clear c2
 go_loopw [13] (fun i wr=>∃(k:Nat),k<=p.IH.length∧i=.int .i64 k∧Hid (cb wr wb tag V {p with IH:=ki a b k p.IH})∧Hid (Kt tag tag W wr)) (fun i _=>p.IH.length - (intOf i).toNat)
 case atStart=>exact⟨0,oA,rfl,hid (by rw[qN];exact u),hid (ew _ _)⟩
 case round=>
  obtain⟨k,hk,rfl,c,l⟩:=hrel;by_cases j:k<p.IH.length
  ·have E:(k:Int)<(p.IH.length:Int):=oA;have z:=w.out oA;subst z;have h:k<(ki a b k p.IH).length:=by rw[kC];exact j
   have f:V 2=.slice (some ⟨g,0,none⟩) (ki a b k p.IH).length cap:=by rw[kC];exact n
   have c2:wr.cell? ⟨wb,2,none⟩=some (.slice (some ⟨g,0,none⟩) p.IH.length cap):=by rw[ai c.r (k:=2) rfl,n.out]
   have m:=c.I0 f h (show 6<7 by omega);have B:=c.JF f (k*7+6);simp only[ph a b k p.IH j] at m;by_cases d:p.IH[k] 6=a
   ·obtain⟨s,q⟩:=c.Je f h (show 6<7 by omega) b;have e:=hid (show cb (wr.setCell ⟨g,k*7+6,none⟩ (.int .i64 b)) wb tag V {p with IH:=ki a b (k+1) p.IH} by rw[<-tX j h d];exact s);have v:=hid (l.trans q);rw[d] at m;clear s q f d h c;go_wp2_with fail
    exact⟨⟨k+1,oA,by go_num,e,v⟩,by simp[intOf];omega⟩
   ·have e:=hid (show cb wr wb tag V {p with IH:=ki a b (k+1) p.IH} by rw[<-qL j d];exact c);have x:(p.IH[k] 6==a)=false:=by simpa using d
    generalize p.IH[k] 6=y at m x;clear f d h c;go_wp2_with fail
    exact⟨⟨k+1,oA,by go_num,e,l⟩,by simp[intOf];omega⟩
  ·obtain rfl:k=p.IH.length:=oA;have C:¬((p.IH.length:Int)<(p.IH.length:Int)):=oA;have e:=hid (show cb wr wb tag V {p with IH:=hnd a b p.IH} by rw[<-tW];exact c);clear c;go_wp2_with fail
   exact aH (aF rfl _ _ _) rfl ⟨rfl,e.out,l.out⟩
theorem uL (wb:Nat) (tag:Nat->Nat) (V:Nat->Value) (p:PW) (a b:Int) (W:World) (bt:cb W wb tag V p) (hl:p.IH.length<=1000):
  Calls Tryz.prog 118 #[.pointer (some ⟨wb,0,none⟩),.int .i64 a,.int .i64 b] W fun r W'=>r=.returned (.tuple #[])∧cb W' wb tag V {p with IH:=hnd a b p.IH}∧Kt tag tag W W':=by
 obtain⟨E,g,cap,e2,x⟩:=bt.o.IH.shape;have q:=hid bt;have t:=hid x;have h:=hid e2;have C:(p.IH.length:Int)<=1000:=oA;go_enter Tryz.func118,Tryz.ntmps118
 go_wp2_with fail
 go_loopw [6] (fun i wr=>∃(k:Nat),k<=p.IH.length∧i=.int .i64 k∧Hid (cb wr wb tag V {p with IH:=ki a b k p.IH})∧Hid (Kt tag tag W wr)) (fun i _=>p.IH.length - (intOf i).toNat)
 case atStart=>exact⟨0,oA,rfl,hid (by rw[qN];exact q),hid (ew _ _)⟩
 case round=>
  obtain⟨k,hk,rfl,c,j⟩:=hrel;by_cases f:k<p.IH.length
  ·have D:(k:Int)<(p.IH.length:Int):=oA;have z:=t.out oA;subst z;have m:k<(ki a b k p.IH).length:=by rw[kC];exact f
   have l:V 2=.slice (some ⟨g,0,none⟩) (ki a b k p.IH).length cap:=by rw[kC];exact h
   have c2:=bD c h;have n:=c.I0 l m (show 6<7 by omega);have A:=c.JF l (k*7+6);simp only[ph a b k p.IH f] at n;by_cases e:p.IH[k] 6=a
   ·obtain⟨w,v⟩:=c.Je l m (show 6<7 by omega) b;have d:=hid (show cb (wr.setCell ⟨g,k*7+6,none⟩ (.int .i64 b)) wb tag V {p with IH:=ki a b (k+1) p.IH} by rw[<-tX f m e];exact w);have s:=hid (j.trans v);rw[e] at n;go_wp2_with fail
    exact⟨⟨k+1,oA,by go_num,d,s⟩,by simp[intOf];omega⟩
   ·have d:=hid (show cb wr wb tag V {p with IH:=ki a b (k+1) p.IH} by rw[<-qL f e];exact c);have u:(p.IH[k] 6==a)=false:=by simpa using e
    generalize p.IH[k] 6=y at n u;go_wp2_with fail
    exact⟨⟨k+1,oA,by go_num,d,j⟩,by simp[intOf];omega⟩
  ·obtain rfl:k=p.IH.length:=oA;have c2:=bD c h;have B:¬((p.IH.length:Int)<(p.IH.length:Int)):=oA;have d:=hid (show cb wr wb tag V {p with IH:=hnd a b p.IH} by rw[<-tW];exact c);go_wp2_with fail
   exact aH (aF rfl _ _ _) rfl ⟨rfl,d.out,j.out⟩
def eS:Nat->Int:=fun k=>if k=6 then -1 else 0
theorem lH:(Tryz.prog.info? 34).map (·.size)=some 7:=oK
theorem nC {ops:Array Oper} {rest:List Oper} {op:Oper} {a:Act} {w:World} {Q:Exit->Act->World->Prop} (d:op.guard=none) (x y:Operand) (e:op.op=.store 34 x y)
  (b o:Nat) (g:a.eval x=.pointer (some ⟨b,o,none⟩)) (cs:List Value) (i:a.eval y=.agg cs.toArray) (hl:cs.length=7) (c:∀v∈cs,v.oneCell'=true) (f:w.there b o 7)
  (h:wpList Tryz.prog ops Q rest (a.put op.dst undef) (w.setCells b o cs)):wpList Tryz.prog ops Q (op::rest) a w:=
 wpList_store_mid d 34 x y e b o cs.toArray g i (by simpa [hl] using f) (by rw[lH];simp[hl]) (all_oneCell_toArray c) (by simpa using h)
theorem yM {ops:Array Oper} {rest:List Oper} {op:Oper} {a:Act} {w:World} {Q:Exit->Act->World->Prop} (d:op.guard=none) (x:Operand) (e:op.op=.load 34 x)
  (b o:Nat) (f:a.eval x=.pointer (some ⟨b,o,none⟩)) (cs:List Value) (hl:cs.length=7) (c:w.rangeAt b o cs)
  (h:wpList Tryz.prog ops Q rest (a.put op.dst (.agg cs.toArray)) w):wpList Tryz.prog ops Q (op::rest) a w:=
 wpList_load_mid d 34 x e b o f cs _ c Tryz.underlying34 rfl (by rw[lH,hl]) h
theorem Di (w:World) (b o:Nat) (cs:List Value) (a:w.rangeAt b o cs) (hl:cs.length=7):(loadVar 34 ⟨b,o,none⟩).run Tryz.prog w=.ok (.agg cs.toArray) w:=
 run_loadVar_mid w b o 34 cs _ a Tryz.underlying34 rfl (by rw[lH,hl])
theorem wz (w:World):Calls Tryz.prog 77 #[] w fun r w'=>r=.returned (.agg (cf 7 eS).toArray)∧Below w.heap.size w w':=by
 have a:=hid (aP w zV 34 w.heap.size 7 rfl oD);have E:=hid (World.rangeAt_setCells_same (w.alloc (.cells zV 34)) w.heap.size 0 (cf 7 eS) (by rw[ay];exact a));have b:=hid (bT (bal (af w.heap.size w) (.cells zV 34)) (aq _) (cf 7 eS) 0);go_enter Tryz.func77,Tryz.ntmps77
 go_wp2_with (first|((with_reducible refine gst 34 ?_);refine nC rfl _ _ rfl w.heap.size 0 rfl (cf 7 eS) rfl (ay _ _) (bQ _ _) a ?_))
 exact ar (v:=.agg (cf 7 eS).toArray) (gh rfl rfl (Di _ _ _ (cf 7 eS) E (ay _ _))) rfl ⟨rfl,b.out⟩
def frm (p:PW) (n:Int):Bool:=p.IH.any (fun f=>f 6==n)
def clE (p:PW) (n:Int):Int:=if fh p n=0 then (if (p.IH.getD n.toNat ft) 0=1 then 0 else 3) else fh p n
def usV (p:PW) (n:Int):Int:=if frm p n=true then (p.IH.getD n.toNat ft) 3 else 0
theorem mM:(Tryz.prog.info? 32).map (·.size)=some 6:=oK
theorem EV {p:PW} {n:Int} (h:fh p n=0):∃j:Nat,n=j∧j<p.IH.length:=by
 unfold fh at h
 cases hs:fL p n with
 |false=>rw[hs] at h;cases h
 |true=>exact fQ hs
def usd (p:PW) (t m:Nat):Bool:=((p.IH.drop t).take m).any (fun f=>f 0 !=0)
def fcE (p:PW) (t:Nat) (m:Int):Int:=if p.kinds.getD (t/16) 0=5 then (if ek 1 (16 - (t:Int)%16) m=true then (if usd p t m.toNat=true then 12 else 0) else 2) else 3
theorem r6 (vb:Nat) (V:Nat->Value) (p:PW) (n:Int) (w:World) (hv:d6 w vb V p):
  Calls Tryz.prog 121 #[.pointer (some ⟨vb,0,none⟩),.int .i64 n] w fun r w'=>r=.returned (.bool (frm p n))∧w=w':=by
 have c2:=r11 2 hv.r;obtain⟨D,b2,C,u,e2,q,t⟩:=hv.v.IH;have A:(p.IH.length:Int)<=1000:=by have:=hv.f.IH;omega
 rw[e2] at c2;have m:=hid q;have o:=hid t;go_enter Tryz.func121,Tryz.ntmps121
 go_wp2_with fail
 go_loopw [5] (fun i wr=>∃(k:Nat),k<=p.IH.length∧i=.int .i64 k∧w=wr∧Hid (∀j (a:j<p.IH.length),j<k->(p.IH[j] 6==n)=false)) (fun i _=>p.IH.length - (intOf i).toNat)
 case atStart=>exact⟨0,oA,rfl,rfl,hid (fun j _ h=>oA)⟩
 case round=>
  obtain⟨k,hk,rfl,rfl,c⟩:=hrel;by_cases d:k<p.IH.length
  ·have B:(k:Int)<(p.IH.length:Int):=oA;obtain rfl:=m.out oA;have g:=cC (o.out k d) (dk 7 _ 6 oA)
   cases h6:(p.IH[k] 6==n) with
   |true=>
    have b:=hid (show frm p n=true from List.any_eq_true.2 ⟨p.IH[k],av d,h6⟩);generalize p.IH[k] 6=y at g h6;go_wp2_with fail
    go_ret
    exact⟨by rw[b.out];rfl,rfl⟩
   |false=>
    have l:=hid (show ∀j (a:j<p.IH.length),j<k+1->(p.IH[j] 6==n)=false from fun j a h=>by
     by_cases e:j=k
     ·subst e;exact h6
     ·exact c j a oA)
    generalize p.IH[k] 6=y at g h6;go_wp2_with fail
    exact⟨⟨k+1,oA,by go_num,by first|rfl|trivial,l⟩,by simp[intOf];omega⟩
  ·obtain rfl:k=p.IH.length:=oA;have z:¬((p.IH.length:Int)<(p.IH.length:Int)):=oA;have b:=hid (show frm p n=false by
    unfold frm;rw[bO];intro x s;obtain⟨j,a,rfl⟩:=dC s;rw[c.out j a a]
    decide)
   go_wp2_with fail
   go_ret
   exact⟨by rw[b.out];rfl,rfl⟩
def zr (n:Nat) (l:List Int) (a:Nat):List Int:=if h:n=0 then l else zr (n - 1) (l.set a 0) (a+1)
theorem lA (l:List Int) (a:Nat):zr 0 l a=l:=by rw[zr,dif_pos rfl]
theorem lz (n:Nat) (l:List Int) (a:Nat):zr (n+1) l a=zr n (l.set a 0) (a+1):=by rw[zr,dif_neg (Nat.succ_ne_zero n),Nat.add_sub_cancel]
theorem nE:∀(n:Nat) (l:List Int) (a:Nat),(zr n l a).length=l.length
 |0,l,a=>by rw[lA]
 |n+1,l,a=>by rw[lz,nE n,au]
theorem yO:∀(n:Nat) (l:List Int) (a:Nat),zr (n+1) l a=(zr n l a).set (a+n) 0
 |0,l,a=>by rw[lz,lA,lA,bu]
 |n+1,l,a=>by rw[lz,yO n,lz n,show a+1+n=a+(n+1) by omega]
def shP (p:PW) (f:Nat) (k:Int):PW:={p with kinds:=p.kinds.set f k,IL:=zr 16 p.IL (f*16)}
theorem cb.Jl {W:World} {wb:Nat} {tag:Nat->Nat} {V:Nat->Value} {p:PW} (h:cb W wb tag V p) {g cap:Nat} (e:V 1=.slice (some ⟨g,0,none⟩) p.kinds.length cap) (o m:Nat) (b:o+m<=p.kinds.length):W.there g o m:=by
 have a:=h.o.kinds;rw[e] at a;exact a.there o m oA
theorem cb.Jw {W:World} {wb:Nat} {tag:Nat->Nat} {V:Nat->Value} {p:PW} (h:cb W wb tag V p) {g cap:Nat} (e:V 0=.slice (some ⟨g,0,none⟩) p.IL.length cap) (o m:Nat) (b:o+m<=p.IL.length):W.there g o m:=by
 have a:=h.o.IL;rw[e] at a;exact a.there o m oA
def jd (tag:Nat->Nat) (c k:Nat):Nat:=if k<c then tag k else 0
theorem ka {tag:Nat->Nat} {c k:Nat} (h:k<c):jd tag c k=tag k:=ag h
theorem iK {W:World} {wb:Nat} {tag:Nat->Nat} {V:Nat->Value} {p:PW} (h:cb W wb tag V p):cb W wb (jd tag W.heap.size) V p∧Kt tag (jd tag W.heap.size) W W:=
 ⟨h.kp (T:=fun _=>False) (aV _ _) (fun _ _ e=>e.elim) (fun _ hk=>ka hk),Kt.of (T:=fun _=>False) (aV _ _) (fun _ e=>e.elim) (fun _ hk=>ka hk)⟩
theorem Kt.J2 {tag tag':Nat->Nat} {W X:World} (h:Kt tag tag' W X) {b o:Nat} (d:W.heap.size<=b) (v:Value):Kt tag tag' W (X.setCell ⟨b,o,none⟩ v):=by
 have a:=(af 0 X).setCell (p:=⟨b,o,none⟩) (bP _) v;exact⟨⟨a.os.trans h.k.os,a.tape.trans h.k.tape,a.output.trans h.k.output,aB h.k.size a.size,fun i hi c=>(Below.heap_setCell X ⟨b,o,none⟩ v i (show i≠b by omega)).trans (h.k.block i hi c)⟩,h.t⟩
theorem Kt.there {tag tag':Nat->Nat} {W X:World} (h:Kt tag tag' W X) {b n:Nat} (c:W.there b 0 n) (a:tag b=0):X.there b 0 n:=eg c h.k (fun e=>e a)
theorem yg {W:World} {b:Nat} {f:Nat->Int} (h:W.rangeAt b 0 (cf 6 f)) (x:Int):(W.setCell ⟨b,3,none⟩ (.int .i64 x)).rangeAt b 0 (cf 6 (upd f 3 x)):=fun o v hv=>by
 have d:o<6:=by
  have:=(List.getElem?_eq_some_iff.1 hv).1
  rwa [ay] at this
 rw[dk 6 _ o d] at hv;have a:=h o _ (dk 6 f o d);have c:=h 3 _ (dk 6 f 3 oA);rw[aC] at a c ⊢;by_cases e:o=3
 ·subst e;rw[<-hv];exact du _ _ _ c
 ·rw[<-hv,aO _ _ _ _ (by intro e2;cases e2;exact e rfl),a];unfold upd;rw[ae e]
theorem gQ {ops:Array Oper} {rest:List Oper} {op:Oper} {a:Act} {w:World} {Q:Exit->Act->World->Prop} (d:op.guard=none) (x y:Operand) (e:op.op=.store 32 x y)
  (b o:Nat) (g:a.eval x=.pointer (some ⟨b,o,none⟩)) (cs:List Value) (i:a.eval y=.agg cs.toArray) (hl:cs.length=6) (c:∀v∈cs,v.oneCell'=true) (f:w.there b o 6)
  (h:wpList Tryz.prog ops Q rest (a.put op.dst undef) (w.setCells b o cs)):wpList Tryz.prog ops Q (op::rest) a w:=
 wpList_store_mid d 32 x y e b o cs.toArray g i (by simpa [hl] using f) (by rw[mM];simp[hl]) (all_oneCell_toArray c) (by simpa using h)
theorem uO {ops:Array Oper} {rest:List Oper} {op:Oper} {a:Act} {w:World} {Q:Exit->Act->World->Prop} (d:op.guard=none) (x:Operand) (e:op.op=.load 32 x)
  (b o:Nat) (f:a.eval x=.pointer (some ⟨b,o,none⟩)) (cs:List Value) (hl:cs.length=6) (c:w.rangeAt b o cs)
  (h:wpList Tryz.prog ops Q rest (a.put op.dst (.agg cs.toArray)) w):wpList Tryz.prog ops Q (op::rest) a w:=
 wpList_load_mid d 32 x e b o f cs _ c Tryz.underlying32 rfl (by rw[mM,hl]) h
theorem oG {W:World} {b o:Nat} {f:Nat->Int} (h:W.rangeAt b o (cf 7 f)):W.rangeAt b o (cf 6 f):=fun j v hv=>h j v (by
 have a:j<6:=by
  have:=(List.getElem?_eq_some_iff.1 hv).1
  rwa [ay] at this
 rw[dk 6 f j a] at hv;rw[dk 7 f j oA];exact hv)
theorem cb.Jp {wb:Nat} {tag:Nat->Nat} {V:Nat->Value} {g cap i:Nat} (f:Nat->Int):∀(n a:Nat) (p:PW) (W:World),a+n<=7->cb W wb tag V p->V 2=.slice (some ⟨g,0,none⟩) p.IH.length cap->(hi:i<p.IH.length)->cb (W.setCells g (i*7+a) ((List.range' a n).map fun k=>.int .i64 (f k))) wb tag V {p with IH:=p.IH.set i (fun k=>if a<=k∧k<a+n then f k else p.IH[i] k)}∧Kt tag tag W (W.setCells g (i*7+a) ((List.range' a n).map fun k=>.int .i64 (f k)))
 |0,a,p,W,_,h,_,hi=>by
  refine⟨?_,ew _ _⟩;have e:(fun k=>if a<=k∧k<a+0 then f k else p.IH[i] k)=p.IH[i]:=by
   funext k
   rw[ae oA]
  rw[e,bV];exact h
 |n+1,a,p,W,hn,h,e,hi=>by
  rw[List.range'_succ,cd,World.setCells];obtain⟨d,k1⟩:=h.Je e hi (show a<7 by omega) (f a);have l:i<(p.IH.set i (upd p.IH[i] a (f a))).length:=by rw[au];exact hi
  obtain⟨j,k2⟩:=cb.Jp f n (a+1) {p with IH:=p.IH.set i (upd p.IH[i] a (f a))} _ oA d (by rw[au];exact e) l;refine⟨?_,k1.trans k2⟩;have e2:(p.IH.set i (upd p.IH[i] a (f a))).set i (fun k=>if a+1<=k∧k<a+1+n then f k else (p.IH.set i (upd p.IH[i] a (f a)))[i] k)=p.IH.set i (fun k=>if a<=k∧k<a+(n+1) then f k else p.IH[i] k):=by
   rw[ep]
   congr 1
   funext k
   rw[dV];unfold upd;by_cases b:a<=k∧k<a+(n+1)
   ·rw[ag b];by_cases c:k=a
    ·rw[ae oA,ag c,c]
    ·rw[ag oA]
   ·rw[ae b,ae oA,ae oA]
  rw[<-e2];exact j
theorem cb.JM {W:World} {wb:Nat} {tag:Nat->Nat} {V:Nat->Value} {p:PW} (h:cb W wb tag V p) {g cap:Nat} (e:V 2=.slice (some ⟨g,0,none⟩) p.IH.length cap) {i:Nat} (hi:i<p.IH.length) (f:Nat->Int) (c:f 6=p.IH[i] 6) (d:∀k,7<=k->f k=p.IH[i] k):
  cb (W.setCells g (i*7) (cf 6 f)) wb tag V {p with IH:=p.IH.set i f}∧Kt tag tag W (W.setCells g (i*7) (cf 6 f)):=by
 have a:=cb.Jp (i:=i) f 6 0 p W oA h e hi;have e1:((List.range' 0 6).map fun k=>Value.int .i64 (f k))=cf 6 f:=rfl;have e2:(fun k=>if 0<=k∧k<0+6 then f k else p.IH[i] k)=f:=by
  funext k
  by_cases j:k<6
  ·rw[ag oA]
  ·rw[ae oA];by_cases b:k=6
   ·rw[b,c]
   ·rw[d k oA]
 rw[e1,e2,bu] at a;exact a
theorem cb.Jo {W:World} {wb:Nat} {tag:Nat->Nat} {V:Nat->Value} {p:PW} (h:cb W wb tag V p) {g cap:Nat} (e:V 2=.slice (some ⟨g,0,none⟩) p.IH.length cap) (o m:Nat) (b:o+m<=p.IH.length*7):W.there g o m:=by
 have a:=h.o.IH;rw[e] at a;exact a.there o m b
def nsl (k f n:Int):Nat->Int:=fun i=>if i=0 then k else if i=1 then f else if i=2 then 1 else if i=4 then 7 else if i=6 then n else 0
def mk1 (q:PW) (n k:Int) (b t i:Nat):PW:={shP q (b+i) k with IH:=q.IH.set (t+i) (nsl k ((b+i:Nat):Int) n)}
def mkI (p:PW) (n k:Int) (b t:Nat):Nat->PW
 |0=>p
 |i+1=>mk1 (mkI p n k b t i) n k b t i
theorem pI (p:PW) (n k:Int) (b t i:Nat):mkI p n k b t (i+1)=mk1 (mkI p n k b t i) n k b t i:=rfl
theorem xH (q:PW) (n k:Int) (b t i:Nat):(mk1 q n k b t i).kinds=q.kinds.set (b+i) k:=rfl
theorem CK (q:PW) (n k:Int) (b t i:Nat):(mk1 q n k b t i).IL=zr 16 q.IL ((b+i)*16):=rfl
theorem rj (q:PW) (n k:Int) (b t i:Nat):(mk1 q n k b t i).IH=q.IH.set (t+i) (nsl k ((b+i:Nat):Int) n):=rfl
theorem zZ (q:PW) (n k:Int) (b t i:Nat):(mk1 q n k b t i).II=q.II∧(mk1 q n k b t i).lines=q.lines∧(mk1 q n k b t i).bits=q.bits∧(mk1 q n k b t i).IJ=q.IJ∧(mk1 q n k b t i).ready=q.ready∧(mk1 q n k b t i).IK=q.IK∧(mk1 q n k b t i).IQ=q.IQ:=⟨rfl,rfl,rfl,rfl,rfl,rfl,rfl⟩
theorem mY (p:PW) (n k:Int) (b t:Nat):∀i,(mkI p n k b t i).kinds.length=p.kinds.length∧(mkI p n k b t i).IL.length=p.IL.length∧(mkI p n k b t i).IH.length=p.IH.length
 |0=>⟨rfl,rfl,rfl⟩
 |i+1=>by
  have h:=mY p n k b t i;rw[pI,xH,CK,rj,au,nE,au];exact h
theorem ub (p:PW) (n k:Int) (b t:Nat):∀i,(mkI p n k b t i).II=p.II∧(mkI p n k b t i).lines=p.lines∧(mkI p n k b t i).bits=p.bits∧(mkI p n k b t i).IJ=p.IJ∧(mkI p n k b t i).ready=p.ready∧(mkI p n k b t i).IK=p.IK∧(mkI p n k b t i).IQ=p.IQ
 |0=>⟨rfl,rfl,rfl,rfl,rfl,rfl,rfl⟩
 |i+1=>by
  have h:=ub p n k b t i;obtain⟨a,c,d,r4,e,f,g⟩:=zZ (mkI p n k b t i) n k b t i;rw[pI,a,c,d,r4,e,f,g];exact h
theorem z9 {p:PW} (h:p.Fits) (n k:Int) (b t i:Nat):(mkI p n k b t i).Fits:=by
 obtain⟨d,e,f⟩:=mY p n k b t i;obtain⟨g,a,j,r4,c,l,m⟩:=ub p n k b t i;exact⟨by rw[e];exact h.IL,by rw[d];exact h.kinds,by rw[f];exact h.IH,by rw[g];exact h.II,by rw[a];exact h.lines,by rw[a];exact h.line,by rw[j];exact h.bits,by rw[r4];exact h.IJ,by rw[c];exact h.ready,by rw[c];exact h.next,by rw[l];exact h.IK,by rw[m];exact h.IQ⟩
theorem xI (p:PW) (n k:Int) (b t j:Nat):∀i,(j<t∨t+i<=j)->(mkI p n k b t i).IH[j]? =p.IH[j]?
 |0,_=>rfl
 |i+1,h=>by
  rw[pI,rj,cR oA];exact xI p n k b t j i oA
def mkB (p:PW) (n:Int):Nat:=((p.IH.getD n.toNat ft) 1+usV p n).toNat
def mkP (p:PW) (n k m t:Int):PW:={mkI p n k (mkB p n) t.toNat m.toNat with IH:=(mkI p n k (mkB p n) t.toNat m.toNat).IH.set n.toNat (upd (p.IH.getD n.toNat ft) 3 (usV p n+m))}
def mkE (p:PW) (n k m t:Int):Int:=if fL p t=true then (if clE p n=0 then (if ek 2 8 k=true then (if fcE p t.toNat m=0 then (if (p.IH.getD n.toNat ft) 2 - usV p n<m then 5 else 0) else fcE p t.toNat m) else 3) else clE p n) else 2
theorem BU {p:PW} (h:Snd p) {n:Int} (a:clE p n=0):∃(j:Nat) (b:j<p.IH.length),n=j∧p.IH[j] 0=1∧p.IH.getD j ft=p.IH[j]∧(0<=p.IH[j] 1∧p.IH[j] 1+p.IH[j] 2<=(p.kinds.length:Int))∧(0<=p.IH[j] 2∧p.IH[j] 2<=100)∧(0<=p.IH[j] 3∧p.IH[j] 3<=100)∧(0<=usV p n∧usV p n<=100):=by
 unfold clE at a;by_cases d:fh p n=0
 ·rw[ag d] at a;obtain⟨j,rfl,b⟩:=EV d;rw[ah] at a;have e:p.IH.getD j ft=p.IH[j]:=by rw[aa,ac b];rfl
  rw[e] at a;by_cases f:p.IH[j] 0=1
  ·have c:=Bh h p.IH[j] (av b);obtain⟨k1,k2,g,_⟩:=yv h b oA;refine⟨j,b,rfl,f,e,⟨k1,g⟩,⟨oA,c.l1⟩,⟨c.m0,c.m1⟩,?_⟩;unfold usV;rw[ah,e];have:=c.m0;have:=c.m1;split<;>omega
  ·rw[ae f] at a
   cases a
 ·rw[ae d] at a;exact absurd a d
theorem yJ {p:PW} {t m j:Nat} (h:usd p t m=false) (b:j<p.IH.length) (a:p.IH[j] 0≠0):j<t∨t+m<=j:=by
 apply Classical.byContradiction;intro d;have c:t<=j∧j<t+m:=oA;unfold usd at h;rw[bO] at h;refine h p.IH[j] ?_ (by simpa using a);refine List.mem_iff_getElem?.2 ⟨j - t,?_⟩;rw[List.getElem?_take,ag oA,dL,show t+(j - t)=j by omega,ac b]
