/- Qaj -/
import Derived.BigGuard
import Derived.BigCall
import Derived.Lib.SliceRun
import Derived.Deep.RegionHeld3
import Derived.BigQuiet
import Derived.Test.YtnccmdndkmmhcaaGreatDoorQai
set_option maxRecDepth 100000
set_option maxHeartbeats 16000000
namespace Go.Proofs.YtnccmdndkmmhcaaGreatDoor
namespace Wd
open Go.RowKit Mem Bw Nums Mmu
def dE (p:PW) (e:Int):Int:=if rK p then e else 8
def dP (p p':PW) (e:Int):PW:=if dE p e=0 then p' else noP
theorem zp (a:Act) (t:Nat):a.eval (.tmp t)=a.tmps[t]?.getD undef:=by simp[Act.eval,Array.getD_eq_getD_getElem?]
theorem vw {c:Func} {p u:Tmp} {f:TypeId} (h:c.results=#[.cell p f,.tmp u]) {a:Act} {P:Program} {w:World} {b:Nat} {x y:Value} (d:a.eval (.tmp p)=.pointer (some ⟨b,0,none⟩)) (hl:(loadVar f ⟨b,0,none⟩).run P w=.ok x w) (e:a.eval (.tmp u)=y):
  (results c a.tmps).run P w=.ok (.tuple #[x,y]) w:=by
 rw[zp] at d e;simp only[results,h];simp[Result.andThen,asAddr,d,e,hl]
theorem iI {d:Func} {p u:Tmp} {e:TypeId} (h:d.results=#[.cell p e,.tmp u]) {c:Array Value} {P:Program} {w:World} {b:Nat} {x y:Value} (f:c.getD p undef=.pointer (some ⟨b,0,none⟩)) (hl:(loadVar e ⟨b,0,none⟩).run P w=.ok x w) (g:c.getD u undef=y):
  (results d c).run P w=.ok (.tuple #[x,y]) w:=vw (a:=⟨c,[]⟩) h f hl g
def fF (p:PW) (n:Int):Int:=if fN p n then (if (p.IA.getD n.toNat fv) 0=0 then 6 else 0) else 2
theorem zA (vb:Nat) (V:Nat->Value) (p:PW) (n:Int) (w:World) (hv:ec w vb V p):
  Calls Tryz.prog 111 #[.pointer (some ⟨vb,0,none⟩),.int .i64 n] w fun r w'=>r=.returned (eV (fF p n))∧w=w':=by
 have c2:w.cell? ⟨vb,2,none⟩=some (V 2):=ai hv.r rfl;have c1:w.cell? ⟨vb,1,none⟩=some (V 1):=ai hv.r rfl;obtain⟨A,b2,z,o,e2,e,g⟩:=hv.v.IA;obtain⟨q1,b1,x,m,e1,i,k⟩:=hv.v.kinds;have u:(p.IA.length:Int)<=1000:=by have:=hv.f.IA;omega
 have t:(p.kinds.length:Int)<=1000:=by have:=hv.f.kinds;omega
 have d:=hid hv
 cases hs:fN p n with
 |false=>
  have a:=hid (show fF p n=2 by unfold fF;rw[hs];rfl);have b:=hid hs;clear hs g e k i hv;go_enter Tryz.func111,Tryz.ntmps111
  go_wp2_with fail
  refine (iU vb V p _ w d).mono ?_;rintro r w1 ⟨rfl,rfl⟩;rw[b.out];go_wp2_with fail
  go_ret
  exact⟨by rw[a.out];rfl,rfl⟩
 |true=>
  obtain⟨j,rfl,h⟩:=fT hs;have b:=hid hs;have s:(j:Int)<(p.IA.length:Int):=oA;obtain rfl:=e oA;have l:=hY (g j h) (dk 7 _ 0 oA);have c:=hid (show fF p j=if p.IA[j] 0=0 then 6 else 0 by unfold fF;rw[hs,ag rfl,ah,aa,ac h];rfl);generalize p.IA[j] 0=y at l c;clear hs g e k i hv;by_cases h0:y=0
  ·subst h0;have a:=hid (show fF p j=6 by rw[c.out];rfl);go_enter Tryz.func111,Tryz.ntmps111
   go_wp2_with fail
   refine (iU vb V p _ w d).mono ?_;rintro r w1 ⟨rfl,rfl⟩;rw[b.out];go_wp2_with fail
   go_ret
   exact⟨by rw[a.out];rfl,rfl⟩
  ·have a:=hid (show fF p j=0 by rw[c.out,ae h0]);have q:(y==0)=false:=by simpa using h0
   clear h0;go_enter Tryz.func111,Tryz.ntmps111
   go_wp2_with fail
   refine (iU vb V p _ w d).mono ?_;rintro r w1 ⟨rfl,rfl⟩;rw[b.out];go_wp2_with fail
   go_ret
   exact⟨by rw[a.out];rfl,rfl⟩
theorem mC (vb:Nat) (V:Nat->Value) (p:PW) (n:Int) (w:World) (hv:ec w vb V p):
  Calls Tryz.prog 119 #[.pointer (some ⟨vb,0,none⟩),.int .i64 n] w fun r w'=>r=.returned (.int .i64 (fF p n))∧w=w':=by
 have c2:=r11 2 hv.r;have c1:=r11 1 hv.r;obtain⟨B,b2,A,l,e2,g,h⟩:=hv.v.IA;obtain⟨q1,b1,z,k,e1,u,x⟩:=hv.v.kinds;have t:(p.IA.length:Int)<=1000:=by have:=hv.f.IA;omega
 have s:(p.kinds.length:Int)<=1000:=by have:=hv.f.kinds;omega
 cases hs:fN p n with
 |false=>
  have a:=hid (show fF p n=2 by unfold fF;rw[hs];rfl);have d:=hid hs;have e:=dh hs;by_cases h0:n<0
  ·clear e;go_enter Tryz.func119,Tryz.ntmps119
   go_wp2_with fail
   go_ret
   exact⟨by rw[a.out];rfl,rfl⟩
  ·have o:(p.IA.length:Int)<=n:=oA;go_enter Tryz.func119,Tryz.ntmps119
   go_wp2_with fail
   go_ret
   exact⟨by rw[a.out];rfl,rfl⟩
 |true=>
  obtain⟨j,rfl,c⟩:=fT hs;have d:=hid hs;have q:(j:Int)<(p.IA.length:Int):=oA;obtain rfl:=g oA;have i:=hY (h j c) (dk 7 _ 0 oA);have b:=hid (show fF p j=if p.IA[j] 0=0 then 6 else 0 by unfold fF;rw[hs,ag rfl,ah,aa,ac c];rfl);generalize p.IA[j] 0=y at i b;have n0:¬((j:Int)<0):=oA;have n1:¬((p.IA.length:Int)<=(j:Int)):=oA;by_cases h0:y=0
  ·subst h0;have a:=hid (show fF p j=6 by rw[b.out];rfl);go_enter Tryz.func119,Tryz.ntmps119
   go_wp2_with fail
   go_ret
   exact⟨by rw[a.out];rfl,rfl⟩
  ·have a:=hid (show fF p j=0 by rw[b.out,ae h0]);have m:(y==0)=false:=by simpa using h0
   go_enter Tryz.func119,Tryz.ntmps119
   go_wp2_with fail
   go_ret
   exact⟨by rw[a.out];rfl,rfl⟩
def spl:List Value->Nat->List Value->List Value
 |xs,_,[]=>xs
 |xs,o,v::r=>spl (xs.set o v) (o+1) r
theorem yv:∀(b xs:List Value) (o j:Nat),(spl xs o b)[j]? =if o<=j∧j<o+b.length∧j<xs.length then b[j - o]? else xs[j]?
 |[],xs,o,j=>by
  rw[spl,ae (by simp;omega)]
 |v::r,xs,o,j=>by
  rw[spl,yv r (xs.set o v) (o+1) j];simp only[au,dX];by_cases c:o=j
  ·subst c;rw[ae oA];by_cases a:o<xs.length
   ·rw[ag ⟨aq _,oA,a⟩,cP a,Nat.sub_self];rfl
   ·rw[ae oA,aK (by simp;omega),aK oA]
  ·rw[cQ c];by_cases a:o+1<=j∧j<o+1+r.length∧j<xs.length
   ·rw[ag a,ag ⟨oA,oA,a.2.2⟩,show j - o=(j - (o+1))+1 by omega];rfl
   ·rw[ae a,ae oA]
theorem ui {base e size g n cap:Nat}:∀(a:List Value) (o:Nat) (w:World) (xs:List Value),w.ownsRow base e size (.slice (some ⟨g,0,none⟩) n cap) n xs->(w.setCells g o a).ownsRow base e size (.slice (some ⟨g,0,none⟩) n cap) n (spl xs o a)
 |[],_,_,_,h=>h
 |v::r,o,w,xs,h=>by
  rw[World.setCells,spl];exact ui r (o+1) _ _ (h.stored o v).1
theorem qX (n:Nat) (a:0<n) (fs:List (Nat->Int)) (i:Nat) (hi:i<fs.length) (f:Nat->Int):spl (fe n fs) (i*n) (cf n f)=fe n (fs.set i f):=by
 apply List.ext_getElem?;intro j;rw[yv,ay];have hl:=gv n fs;have m:(fe n (fs.set i f)).length=fs.length*n:=by rw[gv,au]
 by_cases l:j<fs.length*n
 ·have e:j=j/n*n+j%n:=by rw[Nat.mul_comm];exact (Nat.div_add_mod j n).symm
  have d:=(Nat.div_lt_iff_lt_mul a).2 l;have b:j%n<n:=Nat.mod_lt _ a;have a1:=iV n fs (j/n) (j%n) d b;have c:=iV n (fs.set i f) (j/n) (j%n) (by rw[au];exact d) b;rw[<-e] at a1 c;rw[a1,c];by_cases h:j/n=i
  ·have e2:j - i*n=j%n:=by rw[<-h];omega
   rw[ag (by rw[hl, <-h];omega),e2,dk n f _ b];subst h;rw[dU]
  ·rw[ae (by
    intro hh;apply h;have g:=hh.1;have k:j<(i+1)*n:=by rw[Nat.succ_mul];exact hh.2.1
    exact Nat.le_antisymm (Nat.lt_succ_iff.1 ((Nat.div_lt_iff_lt_mul a).2 k)) ((Nat.le_div_iff_mul_le a).2 g))]
   rw[List.getElem_set_ne (fun e=>h e.symm)]
 ·rw[ae (by rw[hl];omega),aK (by rw[hl];omega),aK (by rw[m];omega)]
theorem gl.J3 {w:World} {L:Nat->Nat} {v:Nat->Value} {p:PW} (h:gl w L v p):∀d j,j+d<=10->L j<=L (j+d)
 |0,_,_=>aq _
 |d+1,j,hj=>aD (h.J3 d j oA) (h.mono (j+d) oA)
theorem cb.IE {W b:World} {wb:Nat} {tag tag':Nat->Nat} {V:Nat->Value} {p:PW} (h:cb W wb tag V p) (k:Kp (fun k=>tag k=2) W b) (a:∀k,k<W.heap.size->tag' k=tag k) {x:List Int} (n:InT b tag' 2 3 1 (V 0) (x.length,d6 x)):cb b wb tag' V {p with IE:=x}:=
 ⟨eN h.r k (by rw[h.g];decide),d9 h.t k (by rw[h.g];decide),(a wb h.lt).trans h.g,⟨n,h.o.kinds.kp k a (fun k e=>oA),h.o.IA.kp k a (fun k e=>oA),h.o.IB.kp k a (fun k e=>oA),h.o.lines.kp k a (fun k e=>by rcases e with e|⟨i,e⟩<;>omega),h.o.bits.kp k a (fun k e=>oA),h.o.IC.kp k a (fun k e=>oA),h.o.ready.kp k a (fun k e=>by rcases e with e|⟨i,e⟩<;>omega),h.o.ID.kp k a (fun k e=>by rcases e with e|⟨i,e⟩<;>omega),h.o.IG.kp k a (fun k e=>oA),h.o.time⟩⟩
theorem cb.kinds {W b:World} {wb:Nat} {tag tag':Nat->Nat} {V:Nat->Value} {p:PW} (h:cb W wb tag V p) (k:Kp (fun k=>tag k=3) W b) (a:∀k,k<W.heap.size->tag' k=tag k) {x:List Int} (n:InT b tag' 3 3 1 (V 1) (x.length,d6 x)):cb b wb tag' V {p with kinds:=x}:=
 ⟨eN h.r k (by rw[h.g];decide),d9 h.t k (by rw[h.g];decide),(a wb h.lt).trans h.g,⟨h.o.IE.kp k a (fun k e=>oA),n,h.o.IA.kp k a (fun k e=>oA),h.o.IB.kp k a (fun k e=>oA),h.o.lines.kp k a (fun k e=>by rcases e with e|⟨i,e⟩<;>omega),h.o.bits.kp k a (fun k e=>oA),h.o.IC.kp k a (fun k e=>oA),h.o.ready.kp k a (fun k e=>by rcases e with e|⟨i,e⟩<;>omega),h.o.ID.kp k a (fun k e=>by rcases e with e|⟨i,e⟩<;>omega),h.o.IG.kp k a (fun k e=>oA),h.o.time⟩⟩
theorem cb.IA {W b:World} {wb:Nat} {tag tag':Nat->Nat} {V:Nat->Value} {p:PW} (h:cb W wb tag V p) (k:Kp (fun k=>tag k=4) W b) (a:∀k,k<W.heap.size->tag' k=tag k) {x:List (Nat->Int)} (n:InT b tag' 4 34 7 (V 2) (x.length,fe 7 x)):cb b wb tag' V {p with IA:=x}:=
 ⟨eN h.r k (by rw[h.g];decide),d9 h.t k (by rw[h.g];decide),(a wb h.lt).trans h.g,⟨h.o.IE.kp k a (fun k e=>oA),h.o.kinds.kp k a (fun k e=>oA),n,h.o.IB.kp k a (fun k e=>oA),h.o.lines.kp k a (fun k e=>by rcases e with e|⟨i,e⟩<;>omega),h.o.bits.kp k a (fun k e=>oA),h.o.IC.kp k a (fun k e=>oA),h.o.ready.kp k a (fun k e=>by rcases e with e|⟨i,e⟩<;>omega),h.o.ID.kp k a (fun k e=>by rcases e with e|⟨i,e⟩<;>omega),h.o.IG.kp k a (fun k e=>oA),h.o.time⟩⟩
theorem cb.ID {W b:World} {wb:Nat} {tag tag':Nat->Nat} {V:Nat->Value} {p:PW} (h:cb W wb tag V p) (k:Kp (fun k=>tag k=10∨∃j,tag k=14+3*j) W b) (a:∀k,k<W.heap.size->tag' k=tag k) {x:List (List Ent)} (n:jL b tag' x.length (V 8) x):cb b wb tag' V {p with ID:=x}:=
 ⟨eN h.r k (by rw[h.g];rintro (h|⟨j,h⟩)<;>omega),d9 h.t k (by rw[h.g];rintro (h|⟨j,h⟩)<;>omega),(a wb h.lt).trans h.g,⟨h.o.IE.kp k a (fun k e=>by rintro (h|⟨j,h⟩)<;>omega),h.o.kinds.kp k a (fun k e=>by rintro (h|⟨j,h⟩)<;>omega),h.o.IA.kp k a (fun k e=>by rintro (h|⟨j,h⟩)<;>omega),h.o.IB.kp k a (fun k e=>by rintro (h|⟨j,h⟩)<;>omega),h.o.lines.kp k a (fun k e=>by rintro (h|⟨j,h⟩)<;>rcases e with e|⟨i,e⟩<;>omega),h.o.bits.kp k a (fun k e=>by rintro (h|⟨j,h⟩)<;>omega),h.o.IC.kp k a (fun k e=>by rintro (h|⟨j,h⟩)<;>omega),h.o.ready.kp k a (fun k e=>by rintro (h|⟨j,h⟩)<;>rcases e with e|⟨i,e⟩<;>omega),n,h.o.IG.kp k a (fun k e=>by rintro (h|⟨j,h⟩)<;>omega),h.o.time⟩⟩
theorem InT.cells {w:World} {tag:Nat->Nat} {t I s n g cap:Nat} {xs:List Value} (h:InT w tag t I s (.slice (some ⟨g,0,none⟩) n cap) (n,xs)) (o:Nat) (a:List Value):InT (w.setCells g o a) tag t I s (.slice (some ⟨g,0,none⟩) n cap) (n,spl xs o a)∧Kp (fun k=>tag k=t) w (w.setCells g o a):=
 ⟨⟨ui a o w xs h.1,h.2⟩,pa (T:=fun k=>tag k=t) a o w (h.2 g rfl)⟩
theorem InT.there {w:World} {tag:Nat->Nat} {t I s n g cap:Nat} {xs:List Value} (h:InT w tag t I s (.slice (some ⟨g,0,none⟩) n cap) (n,xs)) (o m:Nat) (d:o+m<=n*s):w.there g o m:=fun j c=>by
 refine⟨?_,h.1.frozenAt _⟩;have hl:xs.length=n*s:=h.1.1;have a:o+j<n*s:=oA;have b:w.cell? ⟨g,o+j,none⟩=xs[o+j]? :=h.1.cellAt (o+j) a;rw[b,ac oA];rfl
theorem cb.I7 {W:World} {wb:Nat} {tag:Nat->Nat} {V:Nat->Value} {p:PW} (h:cb W wb tag V p) {g cap:Nat} (e:V 2=.slice (some ⟨g,0,none⟩) p.IA.length cap) {i k:Nat} (hi:i<p.IA.length) (hk:k<7) (x:Int):
  cb (W.setCell ⟨g,i*7+k,none⟩ (.int .i64 x)) wb tag V {p with IA:=p.IA.set i (upd p.IA[i] k x)}∧Kt tag tag W (W.setCell ⟨g,i*7+k,none⟩ (.int .i64 x)):=by
 have a:=h.o.IA;rw[e] at a;obtain⟨b,c⟩:=a.cell (i*7+k) (.int .i64 x);rw[om 7 oD p.IA i k hi hk x] at b;refine⟨h.IA c (fun _ _=>rfl) ?_,.of c (fun k e=>oA) (fun _ _=>rfl)⟩;rw[au,e];exact b
theorem cb.IV {W:World} {wb:Nat} {tag:Nat->Nat} {V:Nat->Value} {p:PW} (h:cb W wb tag V p) {g cap:Nat} (e:V 2=.slice (some ⟨g,0,none⟩) p.IA.length cap) {i:Nat} (hi:i<p.IA.length) (f:Nat->Int):
  cb (W.setCells g (i*7) (cf 7 f)) wb tag V {p with IA:=p.IA.set i f}∧Kt tag tag W (W.setCells g (i*7) (cf 7 f)):=by
 have a:=h.o.IA;rw[e] at a;obtain⟨b,c⟩:=a.cells (i*7) (cf 7 f);rw[qX 7 oD p.IA i hi f] at b;refine⟨h.IA c (fun _ _=>rfl) ?_,.of c (fun k e=>oA) (fun _ _=>rfl)⟩;rw[au,e];exact b
theorem cb.I5 {W:World} {wb:Nat} {tag:Nat->Nat} {V:Nat->Value} {p:PW} (h:cb W wb tag V p) {g cap:Nat} (e:V 3=.slice (some ⟨g,0,none⟩) p.IB.length cap) {i:Nat} (hi:i<p.IB.length) (f:Nat->Int):
  cb (W.setCells g (i*20) (cf 20 f)) wb tag V {p with IB:=p.IB.set i f}∧Kt tag tag W (W.setCells g (i*20) (cf 20 f)):=by
 have a:=h.o.IB;rw[e] at a;obtain⟨b,c⟩:=a.cells (i*20) (cf 20 f);rw[qX 20 oD p.IB i hi f] at b;refine⟨h.IB c (fun _ _=>rfl) ?_,.of c (fun k e=>oA) (fun _ _=>rfl)⟩;rw[au,e];exact b
theorem cb.IJ {W:World} {wb:Nat} {tag:Nat->Nat} {V:Nat->Value} {p:PW} (h:cb W wb tag V p) {g cap:Nat} (e:V 0=.slice (some ⟨g,0,none⟩) p.IE.length cap) (i:Nat) (x:Int):
  cb (W.setCell ⟨g,i,none⟩ (.int .i64 x)) wb tag V {p with IE:=p.IE.set i x}∧Kt tag tag W (W.setCell ⟨g,i,none⟩ (.int .i64 x)):=by
 have a:=h.o.IE;rw[e] at a;obtain⟨b,c⟩:=a.cell i (.int .i64 x);rw[ints_set] at b;refine⟨h.IE c (fun _ _=>rfl) ?_,.of c (fun k e=>oA) (fun _ _=>rfl)⟩;rw[au,e];exact b
theorem cb.IM {W:World} {wb:Nat} {tag:Nat->Nat} {V:Nat->Value} {p:PW} (h:cb W wb tag V p) {g cap:Nat} (e:V 1=.slice (some ⟨g,0,none⟩) p.kinds.length cap) (i:Nat) (x:Int):
  cb (W.setCell ⟨g,i,none⟩ (.int .i64 x)) wb tag V {p with kinds:=p.kinds.set i x}∧Kt tag tag W (W.setCell ⟨g,i,none⟩ (.int .i64 x)):=by
 have a:=h.o.kinds;rw[e] at a;obtain⟨b,c⟩:=a.cell i (.int .i64 x);rw[ints_set] at b;refine⟨h.kinds c (fun _ _=>rfl) ?_,.of c (fun k e=>oA) (fun _ _=>rfl)⟩;rw[au,e];exact b
theorem cb.IU {W:World} {wb:Nat} {tag:Nat->Nat} {V:Nat->Value} {p:PW} (h:cb W wb tag V p) {g cap:Nat} (e:V 2=.slice (some ⟨g,0,none⟩) p.IA.length cap) {i k:Nat} (hi:i<p.IA.length) (hk:k<7):W.cell? ⟨g,i*7+k,none⟩=some (.int .i64 (p.IA[i] k)):=by
 have a:=h.o.IA;rw[e] at a;exact a.range hi k _ (dk 7 _ k hk)
theorem cb.Jy {W:World} {wb:Nat} {tag:Nat->Nat} {V:Nat->Value} {p:PW} (h:cb W wb tag V p) {g cap:Nat} (e:V 2=.slice (some ⟨g,0,none⟩) p.IA.length cap) (o:Nat):W.frozen? ⟨g,o,none⟩=false:=by
 have a:=h.o.IA;rw[e] at a;exact a.frozen o
section
variable {P : Program} {ops : Array Oper} {Q : Exit -> Act -> World -> Prop} {md : Region.Mode} {S R : World -> Prop} {fs : List Nat}
end
def nA (a b:Int) (f:Nat->Int):Nat->Int:=if f 6=a then upd f 6 b else f
def hnd (a b:Int) (fs:List (Nat->Int)):List (Nat->Int):=fs.map (nA a b)
def ka (a b:Int) (k:Nat) (fs:List (Nat->Int)):List (Nat->Int):=(fs.take k).map (nA a b)++fs.drop k
theorem kz (a b:Int) (k:Nat) (fs:List (Nat->Int)):(ka a b k fs).length=fs.length:=by
 unfold ka;simp;omega
theorem qt (a b:Int) (fs:List (Nat->Int)):ka a b 0 fs=fs:=by simp[ka]
theorem tO (a b:Int) (fs:List (Nat->Int)):ka a b fs.length fs=hnd a b fs:=by simp[ka,hnd]
theorem oY (a b:Int) (k:Nat) (fs:List (Nat->Int)) (hk:k<fs.length) (h:k<(ka a b k fs).length):(ka a b k fs)[k]=fs[k]:=by
 have e:(ka a b k fs)[k]? =fs[k]? :=by
  unfold ka;rw[dQ (by simp;omega),dK]
  congr 1
  simp;omega
 rw[ac h,ac hk] at e;exact aL e
theorem qp (a b:Int) (k:Nat) (fs:List (Nat->Int)) (hk:k<fs.length):ka a b (k+1) fs=(ka a b k fs).set k (nA a b fs[k]):=by
 unfold ka;have e:k - (List.map (nA a b) (List.take k fs)).length=0:=by simp;omega
 rw[List.take_add_one,ac hk,eA,List.set_append,ae (by simp;omega),e];simp only[Option.toList_some,cw,eT,List.append_assoc,List.cons_append,ey];rw[List.drop_eq_getElem_cons hk];rfl
theorem tP {a b:Int} {k:Nat} {fs:List (Nat->Int)} (hk:k<fs.length) (h:k<(ka a b k fs).length) (c:fs[k] 6=a):(ka a b k fs).set k (upd (ka a b k fs)[k] 6 b)=ka a b (k+1) fs:=by
 rw[qp a b k fs hk,oY a b k fs hk h];unfold nA;rw[ag c]
theorem qo {a b:Int} {k:Nat} {fs:List (Nat->Int)} (hk:k<fs.length) (c:¬fs[k] 6=a):ka a b k fs=ka a b (k+1) fs:=by
 have h:k<(ka a b k fs).length:=by rw[kz];exact hk
 rw[qp a b k fs hk];unfold nA;rw[ae c, <-oY a b k fs hk h,bV]
theorem zD (wb:Nat) (tag:Nat->Nat) (V:Nat->Value) (p:PW) (a b:Int) (W:World) (bt:cb W wb tag V p) (hl:p.IA.length<=1000):
  Calls Tryz.prog 78 #[.pointer (some ⟨wb,0,none⟩),.int .i64 a,.int .i64 b] W fun r W'=>r=.returned (.tuple #[])∧cb W' wb tag V {p with IA:=hnd a b p.IA}∧Kt tag tag W W':=by
 obtain⟨A,g,cap,e2,t⟩:=bt.o.IA.shape;have c2:W.cell? ⟨wb,2,none⟩=some (.slice A p.IA.length cap):=by rw[ai bt.r (k:=2) rfl,e2]
 have u:=hid bt;have w:=hid t;have n:=hid e2;have D:(p.IA.length:Int)<=1000:=oA;clear bt t e2;go_enter Tryz.func78,Tryz.ntmps78
 go_wp2_with fail
 clear c2
 go_loopw [13] (fun i wr=>∃(k:Nat),k<=p.IA.length∧i=.int .i64 k∧Hid (cb wr wb tag V {p with IA:=ka a b k p.IA})∧Hid (Kt tag tag W wr)) (fun i _=>p.IA.length - (intOf i).toNat)
 case atStart=>exact⟨0,oA,rfl,hid (by rw[qt];exact u),hid (en _ _)⟩
 case round=>
  obtain⟨k,hk,rfl,c,l⟩:=hrel;by_cases j:k<p.IA.length
  ·have E:(k:Int)<(p.IA.length:Int):=oA;have z:=w.out oA;subst z;have h:k<(ka a b k p.IA).length:=by rw[kz];exact j
   have f:V 2=.slice (some ⟨g,0,none⟩) (ka a b k p.IA).length cap:=by rw[kz];exact n
   have c2:wr.cell? ⟨wb,2,none⟩=some (.slice (some ⟨g,0,none⟩) p.IA.length cap):=by rw[ai c.r (k:=2) rfl,n.out]
   have m:=c.IU f h (show 6<7 by omega);have B:=c.Jy f (k*7+6);simp only[oY a b k p.IA j] at m;by_cases d:p.IA[k] 6=a
   ·obtain⟨s,q⟩:=c.I7 f h (show 6<7 by omega) b;have e:=hid (show cb (wr.setCell ⟨g,k*7+6,none⟩ (.int .i64 b)) wb tag V {p with IA:=ka a b (k+1) p.IA} by rw[<-tP j h d];exact s);have v:=hid (l.trans q);rw[d] at m;clear s q f d h c;go_wp2_with fail
    exact⟨⟨k+1,oA,by go_num,e,v⟩,by simp[intOf];omega⟩
   ·have e:=hid (show cb wr wb tag V {p with IA:=ka a b (k+1) p.IA} by rw[<-qo j d];exact c);have x:(p.IA[k] 6==a)=false:=by simpa using d
    generalize p.IA[k] 6=y at m x;clear f d h c;go_wp2_with fail
    exact⟨⟨k+1,oA,by go_num,e,l⟩,by simp[intOf];omega⟩
  ·obtain rfl:k=p.IA.length:=oA;have C:¬((p.IA.length:Int)<(p.IA.length:Int)):=oA;have e:=hid (show cb wr wb tag V {p with IA:=hnd a b p.IA} by rw[<-tO];exact c);clear c;go_wp2_with fail
   exact aI (aF rfl _ _ _) rfl ⟨rfl,e.out,l.out⟩
theorem uH (wb:Nat) (tag:Nat->Nat) (V:Nat->Value) (p:PW) (a b:Int) (W:World) (bt:cb W wb tag V p) (hl:p.IA.length<=1000):
  Calls Tryz.prog 118 #[.pointer (some ⟨wb,0,none⟩),.int .i64 a,.int .i64 b] W fun r W'=>r=.returned (.tuple #[])∧cb W' wb tag V {p with IA:=hnd a b p.IA}∧Kt tag tag W W':=by
 obtain⟨E,g,cap,e2,x⟩:=bt.o.IA.shape;have q:=hid bt;have t:=hid x;have h:=hid e2;have C:(p.IA.length:Int)<=1000:=oA;go_enter Tryz.func118,Tryz.ntmps118
 go_wp2_with fail
 go_loopw [6] (fun i wr=>∃(k:Nat),k<=p.IA.length∧i=.int .i64 k∧Hid (cb wr wb tag V {p with IA:=ka a b k p.IA})∧Hid (Kt tag tag W wr)) (fun i _=>p.IA.length - (intOf i).toNat)
 case atStart=>exact⟨0,oA,rfl,hid (by rw[qt];exact q),hid (en _ _)⟩
 case round=>
  obtain⟨k,hk,rfl,c,j⟩:=hrel;by_cases f:k<p.IA.length
  ·have D:(k:Int)<(p.IA.length:Int):=oA;have z:=t.out oA;subst z;have m:k<(ka a b k p.IA).length:=by rw[kz];exact f
   have l:V 2=.slice (some ⟨g,0,none⟩) (ka a b k p.IA).length cap:=by rw[kz];exact h
   have c2:=bk c h;have n:=c.IU l m (show 6<7 by omega);have A:=c.Jy l (k*7+6);simp only[oY a b k p.IA f] at n;by_cases e:p.IA[k] 6=a
   ·obtain⟨w,v⟩:=c.I7 l m (show 6<7 by omega) b;have d:=hid (show cb (wr.setCell ⟨g,k*7+6,none⟩ (.int .i64 b)) wb tag V {p with IA:=ka a b (k+1) p.IA} by rw[<-tP f m e];exact w);have s:=hid (j.trans v);rw[e] at n;go_wp2_with fail
    exact⟨⟨k+1,oA,by go_num,d,s⟩,by simp[intOf];omega⟩
   ·have d:=hid (show cb wr wb tag V {p with IA:=ka a b (k+1) p.IA} by rw[<-qo f e];exact c);have u:(p.IA[k] 6==a)=false:=by simpa using e
    generalize p.IA[k] 6=y at n u;go_wp2_with fail
    exact⟨⟨k+1,oA,by go_num,d,j⟩,by simp[intOf];omega⟩
  ·obtain rfl:k=p.IA.length:=oA;have c2:=bk c h;have B:¬((p.IA.length:Int)<(p.IA.length:Int)):=oA;have d:=hid (show cb wr wb tag V {p with IA:=hnd a b p.IA} by rw[<-tO];exact c);go_wp2_with fail
   exact aI (aF rfl _ _ _) rfl ⟨rfl,d.out,j.out⟩
def eS:Nat->Int:=fun k=>if k=6 then -1 else 0
theorem lC:(Tryz.prog.info? 34).map (·.size)=some 7:=oK
theorem ni {ops:Array Oper} {rest:List Oper} {op:Oper} {a:Act} {w:World} {Q:Exit->Act->World->Prop} (d:op.guard=none) (x y:Operand) (e:op.op=.store 34 x y)
  (b o:Nat) (g:a.eval x=.pointer (some ⟨b,o,none⟩)) (cs:List Value) (i:a.eval y=.agg cs.toArray) (hl:cs.length=7) (c:∀v∈cs,v.oneCell'=true) (f:w.there b o 7)
  (h:wpList Tryz.prog ops Q rest (a.put op.dst undef) (w.setCells b o cs)):wpList Tryz.prog ops Q (op::rest) a w:=
 wpList_store_mid d 34 x y e b o cs.toArray g i (by simpa [hl] using f) (by rw[lC];simp[hl]) (all_oneCell_toArray c) (by simpa using h)
theorem yL {ops:Array Oper} {rest:List Oper} {op:Oper} {a:Act} {w:World} {Q:Exit->Act->World->Prop} (d:op.guard=none) (x:Operand) (e:op.op=.load 34 x)
  (b o:Nat) (f:a.eval x=.pointer (some ⟨b,o,none⟩)) (cs:List Value) (hl:cs.length=7) (c:w.rangeAt b o cs)
  (h:wpList Tryz.prog ops Q rest (a.put op.dst (.agg cs.toArray)) w):wpList Tryz.prog ops Q (op::rest) a w:=
 wpList_load_mid d 34 x e b o f cs _ c Tryz.underlying34 rfl (by rw[lC,hl]) h
theorem Dg (w:World) (b o:Nat) (cs:List Value) (a:w.rangeAt b o cs) (hl:cs.length=7):(loadVar 34 ⟨b,o,none⟩).run Tryz.prog w=.ok (.agg cs.toArray) w:=
 run_loadVar_mid w b o 34 cs _ a Tryz.underlying34 rfl (by rw[lC,hl])
theorem wu (w:World):Calls Tryz.prog 77 #[] w fun r w'=>r=.returned (.agg (cf 7 eS).toArray)∧Below w.heap.size w w':=by
 have a:=hid (aP w zV 34 w.heap.size 7 rfl oD);have E:=hid (World.rangeAt_setCells_same (w.alloc (.cells zV 34)) w.heap.size 0 (cf 7 eS) (by rw[ay];exact a));have b:=hid (bR (bal (af w.heap.size w) (.cells zV 34)) (aq _) (cf 7 eS) 0);go_enter Tryz.func77,Tryz.ntmps77
 go_wp2_with (first|((with_reducible refine gst 34 ?_);refine ni rfl _ _ rfl w.heap.size 0 rfl (cf 7 eS) rfl (ay _ _) (bQ _ _) a ?_))
 exact ar (v:=.agg (cf 7 eS).toArray) (gi rfl rfl (Dg _ _ _ (cf 7 eS) E (ay _ _))) rfl ⟨rfl,b.out⟩
def frm (p:PW) (n:Int):Bool:=p.IA.any (fun f=>f 6==n)
def clE (p:PW) (n:Int):Int:=if fF p n=0 then (if (p.IA.getD n.toNat fv) 0=1 then 0 else 3) else fF p n
def usV (p:PW) (n:Int):Int:=if frm p n=true then (p.IA.getD n.toNat fv) 3 else 0
theorem qy:(Tryz.prog.info? 32).map (·.size)=some 6:=oK
theorem EO {p:PW} {n:Int} (h:fF p n=0):∃j:Nat,n=j∧j<p.IA.length:=by
 unfold fF at h
 cases hs:fN p n with
 |false=>rw[hs] at h;cases h
 |true=>exact fT hs
def usd (p:PW) (t m:Nat):Bool:=((p.IA.drop t).take m).any (fun f=>f 0 !=0)
def fcE (p:PW) (t:Nat) (m:Int):Int:=if p.kinds.getD (t/16) 0=5 then (if ek 1 (16 - (t:Int)%16) m=true then (if usd p t m.toNat=true then 12 else 0) else 2) else 3
theorem rN (vb:Nat) (V:Nat->Value) (p:PW) (n:Int) (w:World) (hv:ec w vb V p):
  Calls Tryz.prog 121 #[.pointer (some ⟨vb,0,none⟩),.int .i64 n] w fun r w'=>r=.returned (.bool (frm p n))∧w=w':=by
 have c2:=r11 2 hv.r;obtain⟨D,b2,C,u,e2,q,t⟩:=hv.v.IA;have A:(p.IA.length:Int)<=1000:=by have:=hv.f.IA;omega
 rw[e2] at c2;have m:=hid q;have o:=hid t;go_enter Tryz.func121,Tryz.ntmps121
 go_wp2_with fail
 go_loopw [5] (fun i wr=>∃(k:Nat),k<=p.IA.length∧i=.int .i64 k∧w=wr∧Hid (∀j (a:j<p.IA.length),j<k->(p.IA[j] 6==n)=false)) (fun i _=>p.IA.length - (intOf i).toNat)
 case atStart=>exact⟨0,oA,rfl,rfl,hid (fun j _ h=>oA)⟩
 case round=>
  obtain⟨k,hk,rfl,rfl,c⟩:=hrel;by_cases d:k<p.IA.length
  ·have B:(k:Int)<(p.IA.length:Int):=oA;obtain rfl:=m.out oA;have g:=cF (o.out k d) (dk 7 _ 6 oA)
   cases h6:(p.IA[k] 6==n) with
   |true=>
    have b:=hid (show frm p n=true from List.any_eq_true.2 ⟨p.IA[k],av d,h6⟩);generalize p.IA[k] 6=y at g h6;go_wp2_with fail
    go_ret
    exact⟨by rw[b.out];rfl,rfl⟩
   |false=>
    have l:=hid (show ∀j (a:j<p.IA.length),j<k+1->(p.IA[j] 6==n)=false from fun j a h=>by
     by_cases e:j=k
     ·subst e;exact h6
     ·exact c j a oA)
    generalize p.IA[k] 6=y at g h6;go_wp2_with fail
    exact⟨⟨k+1,oA,by go_num,by first|rfl|trivial,l⟩,by simp[intOf];omega⟩
  ·obtain rfl:k=p.IA.length:=oA;have z:¬((p.IA.length:Int)<(p.IA.length:Int)):=oA;have b:=hid (show frm p n=false by
    unfold frm;rw[bP];intro x s;obtain⟨j,a,rfl⟩:=dD s;rw[c.out j a a]
    decide)
   go_wp2_with fail
   go_ret
   exact⟨by rw[b.out];rfl,rfl⟩
def zr (n:Nat) (l:List Int) (a:Nat):List Int:=if h:n=0 then l else zr (n - 1) (l.set a 0) (a+1)
theorem lq (l:List Int) (a:Nat):zr 0 l a=l:=by rw[zr,dif_pos rfl]
theorem lp (n:Nat) (l:List Int) (a:Nat):zr (n+1) l a=zr n (l.set a 0) (a+1):=by rw[zr,dif_neg (Nat.succ_ne_zero n),Nat.add_sub_cancel]
theorem nm:∀(n:Nat) (l:List Int) (a:Nat),(zr n l a).length=l.length
 |0,l,a=>by rw[lq]
 |n+1,l,a=>by rw[lp,nm n,au]
theorem yN:∀(n:Nat) (l:List Int) (a:Nat),zr (n+1) l a=(zr n l a).set (a+n) 0
 |0,l,a=>by rw[lp,lq,lq,bz]
 |n+1,l,a=>by rw[lp,yN n,lp n,show a+1+n=a+(n+1) by omega]
def shP (p:PW) (f:Nat) (k:Int):PW:={p with kinds:=p.kinds.set f k,IE:=zr 16 p.IE (f*16)}
theorem cb.Je {W:World} {wb:Nat} {tag:Nat->Nat} {V:Nat->Value} {p:PW} (h:cb W wb tag V p) {g cap:Nat} (e:V 1=.slice (some ⟨g,0,none⟩) p.kinds.length cap) (o m:Nat) (b:o+m<=p.kinds.length):W.there g o m:=by
 have a:=h.o.kinds;rw[e] at a;exact a.there o m oA
theorem cb.Jp {W:World} {wb:Nat} {tag:Nat->Nat} {V:Nat->Value} {p:PW} (h:cb W wb tag V p) {g cap:Nat} (e:V 0=.slice (some ⟨g,0,none⟩) p.IE.length cap) (o m:Nat) (b:o+m<=p.IE.length):W.there g o m:=by
 have a:=h.o.IE;rw[e] at a;exact a.there o m oA
def jb (tag:Nat->Nat) (c k:Nat):Nat:=if k<c then tag k else 0
theorem j5 {tag:Nat->Nat} {c k:Nat} (h:k<c):jb tag c k=tag k:=ag h
theorem iJ {W:World} {wb:Nat} {tag:Nat->Nat} {V:Nat->Value} {p:PW} (h:cb W wb tag V p):cb W wb (jb tag W.heap.size) V p∧Kt tag (jb tag W.heap.size) W W:=
 ⟨h.kp (T:=fun _=>False) (aV _ _) (fun _ _ e=>e.elim) (fun _ hk=>j5 hk),Kt.of (T:=fun _=>False) (aV _ _) (fun _ e=>e.elim) (fun _ hk=>j5 hk)⟩
theorem Kt.JV {tag tag':Nat->Nat} {W X:World} (h:Kt tag tag' W X) {b o:Nat} (d:W.heap.size<=b) (v:Value):Kt tag tag' W (X.setCell ⟨b,o,none⟩ v):=by
 have a:=(af 0 X).setCell (p:=⟨b,o,none⟩) (bN _) v;exact⟨⟨a.os.trans h.k.os,a.tape.trans h.k.tape,a.output.trans h.k.output,aD h.k.size a.size,fun i hi c=>(Below.heap_setCell X ⟨b,o,none⟩ v i (show i≠b by omega)).trans (h.k.block i hi c)⟩,h.t⟩
theorem Kt.there {tag tag':Nat->Nat} {W X:World} (h:Kt tag tag' W X) {b n:Nat} (a:W.there b 0 n) (h0:tag b=0):X.there b 0 n:=d9 a h.k (fun e=>e h0)
theorem yc {W:World} {b:Nat} {f:Nat->Int} (h:W.rangeAt b 0 (cf 6 f)) (x:Int):(W.setCell ⟨b,3,none⟩ (.int .i64 x)).rangeAt b 0 (cf 6 (upd f 3 x)):=fun o v hv=>by
 have d:o<6:=by
  have:=(List.getElem?_eq_some_iff.1 hv).1
  rwa [ay] at this
 rw[dk 6 _ o d] at hv;have a:=h o _ (dk 6 f o d);have c:=h 3 _ (dk 6 f 3 oA);rw[aC] at a c ⊢;by_cases e:o=3
 ·subst e;rw[<-hv];exact dy _ _ _ c
 ·rw[<-hv,aQ _ _ _ _ (by intro e2;cases e2;exact e rfl),a];unfold upd;rw[ae e]
theorem gS {ops:Array Oper} {rest:List Oper} {op:Oper} {a:Act} {w:World} {Q:Exit->Act->World->Prop} (d:op.guard=none) (x y:Operand) (e:op.op=.store 32 x y)
  (b o:Nat) (g:a.eval x=.pointer (some ⟨b,o,none⟩)) (cs:List Value) (i:a.eval y=.agg cs.toArray) (hl:cs.length=6) (c:∀v∈cs,v.oneCell'=true) (f:w.there b o 6)
  (h:wpList Tryz.prog ops Q rest (a.put op.dst undef) (w.setCells b o cs)):wpList Tryz.prog ops Q (op::rest) a w:=
 wpList_store_mid d 32 x y e b o cs.toArray g i (by simpa [hl] using f) (by rw[qy];simp[hl]) (all_oneCell_toArray c) (by simpa using h)
theorem uM {ops:Array Oper} {rest:List Oper} {op:Oper} {a:Act} {w:World} {Q:Exit->Act->World->Prop} (d:op.guard=none) (x:Operand) (e:op.op=.load 32 x)
  (b o:Nat) (f:a.eval x=.pointer (some ⟨b,o,none⟩)) (cs:List Value) (hl:cs.length=6) (c:w.rangeAt b o cs)
  (h:wpList Tryz.prog ops Q rest (a.put op.dst (.agg cs.toArray)) w):wpList Tryz.prog ops Q (op::rest) a w:=
 wpList_load_mid d 32 x e b o f cs _ c Tryz.underlying32 rfl (by rw[qy,hl]) h
theorem uw {W:World} {b o:Nat} {f:Nat->Int} (h:W.rangeAt b o (cf 7 f)):W.rangeAt b o (cf 6 f):=fun j v hv=>h j v (by
 have a:j<6:=by
  have:=(List.getElem?_eq_some_iff.1 hv).1
  rwa [ay] at this
 rw[dk 6 f j a] at hv;rw[dk 7 f j oA];exact hv)
theorem cb.Ji {wb:Nat} {tag:Nat->Nat} {V:Nat->Value} {g cap i:Nat} (f:Nat->Int):∀(n a:Nat) (p:PW) (W:World),a+n<=7->cb W wb tag V p->V 2=.slice (some ⟨g,0,none⟩) p.IA.length cap->(hi:i<p.IA.length)->cb (W.setCells g (i*7+a) ((List.range' a n).map fun k=>.int .i64 (f k))) wb tag V {p with IA:=p.IA.set i (fun k=>if a<=k∧k<a+n then f k else p.IA[i] k)}∧Kt tag tag W (W.setCells g (i*7+a) ((List.range' a n).map fun k=>.int .i64 (f k)))
 |0,a,p,W,_,h,_,hi=>by
  refine⟨?_,en _ _⟩;have e:(fun k=>if a<=k∧k<a+0 then f k else p.IA[i] k)=p.IA[i]:=by
   funext k
   rw[ae oA]
  rw[e,bV];exact h
 |n+1,a,p,W,hn,h,e,hi=>by
  rw[List.range'_succ,cw,World.setCells];obtain⟨d,k1⟩:=h.I7 e hi (show a<7 by omega) (f a);have l:i<(p.IA.set i (upd p.IA[i] a (f a))).length:=by rw[au];exact hi
  obtain⟨j,k2⟩:=cb.Ji f n (a+1) {p with IA:=p.IA.set i (upd p.IA[i] a (f a))} _ oA d (by rw[au];exact e) l;refine⟨?_,k1.trans k2⟩;have e2:(p.IA.set i (upd p.IA[i] a (f a))).set i (fun k=>if a+1<=k∧k<a+1+n then f k else (p.IA.set i (upd p.IA[i] a (f a)))[i] k)=p.IA.set i (fun k=>if a<=k∧k<a+(n+1) then f k else p.IA[i] k):=by
   rw[eh]
   congr 1
   funext k
   rw[dU];unfold upd;by_cases b:a<=k∧k<a+(n+1)
   ·rw[ag b];by_cases c:k=a
    ·rw[ae oA,ag c,c]
    ·rw[ag oA]
   ·rw[ae b,ae oA,ae oA]
  rw[<-e2];exact j
theorem cb.JF {W:World} {wb:Nat} {tag:Nat->Nat} {V:Nat->Value} {p:PW} (h:cb W wb tag V p) {g cap:Nat} (e:V 2=.slice (some ⟨g,0,none⟩) p.IA.length cap) {i:Nat} (hi:i<p.IA.length) (f:Nat->Int) (c:f 6=p.IA[i] 6) (d:∀k,7<=k->f k=p.IA[i] k):
  cb (W.setCells g (i*7) (cf 6 f)) wb tag V {p with IA:=p.IA.set i f}∧Kt tag tag W (W.setCells g (i*7) (cf 6 f)):=by
 have a:=cb.Ji (i:=i) f 6 0 p W oA h e hi;have e1:((List.range' 0 6).map fun k=>Value.int .i64 (f k))=cf 6 f:=rfl;have e2:(fun k=>if 0<=k∧k<0+6 then f k else p.IA[i] k)=f:=by
  funext k
  by_cases j:k<6
  ·rw[ag oA]
  ·rw[ae oA];by_cases b:k=6
   ·rw[b,c]
   ·rw[d k oA]
 rw[e1,e2,bz] at a;exact a
theorem cb.Jh {W:World} {wb:Nat} {tag:Nat->Nat} {V:Nat->Value} {p:PW} (h:cb W wb tag V p) {g cap:Nat} (e:V 2=.slice (some ⟨g,0,none⟩) p.IA.length cap) (o m:Nat) (b:o+m<=p.IA.length*7):W.there g o m:=by
 have a:=h.o.IA;rw[e] at a;exact a.there o m b
def nsl (k f n:Int):Nat->Int:=fun i=>if i=0 then k else if i=1 then f else if i=2 then 1 else if i=4 then 7 else if i=6 then n else 0
def mk1 (q:PW) (n k:Int) (b t i:Nat):PW:={shP q (b+i) k with IA:=q.IA.set (t+i) (nsl k ((b+i:Nat):Int) n)}
def mkI (p:PW) (n k:Int) (b t:Nat):Nat->PW
 |0=>p
 |i+1=>mk1 (mkI p n k b t i) n k b t i
theorem pw (p:PW) (n k:Int) (b t i:Nat):mkI p n k b t (i+1)=mk1 (mkI p n k b t i) n k b t i:=rfl
theorem xC (q:PW) (n k:Int) (b t i:Nat):(mk1 q n k b t i).kinds=q.kinds.set (b+i) k:=rfl
theorem CI (q:PW) (n k:Int) (b t i:Nat):(mk1 q n k b t i).IE=zr 16 q.IE ((b+i)*16):=rfl
theorem qN (q:PW) (n k:Int) (b t i:Nat):(mk1 q n k b t i).IA=q.IA.set (t+i) (nsl k ((b+i:Nat):Int) n):=rfl
theorem z9 (q:PW) (n k:Int) (b t i:Nat):(mk1 q n k b t i).IB=q.IB∧(mk1 q n k b t i).lines=q.lines∧(mk1 q n k b t i).bits=q.bits∧(mk1 q n k b t i).IC=q.IC∧(mk1 q n k b t i).ready=q.ready∧(mk1 q n k b t i).ID=q.ID∧(mk1 q n k b t i).IG=q.IG:=⟨rfl,rfl,rfl,rfl,rfl,rfl,rfl⟩
theorem mN (p:PW) (n k:Int) (b t:Nat):∀i,(mkI p n k b t i).kinds.length=p.kinds.length∧(mkI p n k b t i).IE.length=p.IE.length∧(mkI p n k b t i).IA.length=p.IA.length
 |0=>⟨rfl,rfl,rfl⟩
 |i+1=>by
  have h:=mN p n k b t i;rw[pw,xC,CI,qN,au,nm,au];exact h
theorem tZ (p:PW) (n k:Int) (b t:Nat):∀i,(mkI p n k b t i).IB=p.IB∧(mkI p n k b t i).lines=p.lines∧(mkI p n k b t i).bits=p.bits∧(mkI p n k b t i).IC=p.IC∧(mkI p n k b t i).ready=p.ready∧(mkI p n k b t i).ID=p.ID∧(mkI p n k b t i).IG=p.IG
 |0=>⟨rfl,rfl,rfl,rfl,rfl,rfl,rfl⟩
 |i+1=>by
  have h:=tZ p n k b t i;obtain⟨a,c,d,r4,e,f,g⟩:=z9 (mkI p n k b t i) n k b t i;rw[pw,a,c,d,r4,e,f,g];exact h
theorem Aa {p:PW} (h:p.Fits) (n k:Int) (b t i:Nat):(mkI p n k b t i).Fits:=by
 obtain⟨d,e,f⟩:=mN p n k b t i;obtain⟨g,a,j,r4,c,l,m⟩:=tZ p n k b t i;exact⟨by rw[e];exact h.IE,by rw[d];exact h.kinds,by rw[f];exact h.IA,by rw[g];exact h.IB,by rw[a];exact h.lines,by rw[a];exact h.line,by rw[j];exact h.bits,by rw[r4];exact h.IC,by rw[c];exact h.ready,by rw[c];exact h.next,by rw[l];exact h.ID,by rw[m];exact h.IG⟩
theorem xD (p:PW) (n k:Int) (b t j:Nat):∀i,(j<t∨t+i<=j)->(mkI p n k b t i).IA[j]? =p.IA[j]?
 |0,_=>rfl
 |i+1,h=>by
  rw[pw,qN,cQ oA];exact xD p n k b t j i oA
def mkB (p:PW) (n:Int):Nat:=((p.IA.getD n.toNat fv) 1+usV p n).toNat
def mkP (p:PW) (n k m t:Int):PW:={mkI p n k (mkB p n) t.toNat m.toNat with IA:=(mkI p n k (mkB p n) t.toNat m.toNat).IA.set n.toNat (upd (p.IA.getD n.toNat fv) 3 (usV p n+m))}
def mkE (p:PW) (n k m t:Int):Int:=if fN p t=true then (if clE p n=0 then (if ek 2 8 k=true then (if fcE p t.toNat m=0 then (if (p.IA.getD n.toNat fv) 2 - usV p n<m then 5 else 0) else fcE p t.toNat m) else 3) else clE p n) else 2
theorem BP {p:PW} (h:Snd p) {n:Int} (a:clE p n=0):∃(j:Nat) (b:j<p.IA.length),n=j∧p.IA[j] 0=1∧p.IA.getD j fv=p.IA[j]∧(0<=p.IA[j] 1∧p.IA[j] 1+p.IA[j] 2<=(p.kinds.length:Int))∧(0<=p.IA[j] 2∧p.IA[j] 2<=100)∧(0<=p.IA[j] 3∧p.IA[j] 3<=100)∧(0<=usV p n∧usV p n<=100):=by
 unfold clE at a;by_cases h0:fF p n=0
 ·rw[ag h0] at a;obtain⟨j,rfl,b⟩:=EO h0;rw[ah] at a;have d:p.IA.getD j fv=p.IA[j]:=by rw[aa,ac b];rfl
  rw[d] at a;by_cases e:p.IA[j] 0=1
  ·have c:=Bg h p.IA[j] (av b);obtain⟨k1,k2,f,_⟩:=yt h b oA;refine⟨j,b,rfl,e,d,⟨k1,f⟩,⟨oA,c.l1⟩,⟨c.m0,c.m1⟩,?_⟩;unfold usV;rw[ah,d];have:=c.m0;have:=c.m1;split<;>omega
  ·rw[ae e] at a
   cases a
 ·rw[ae h0] at a;exact absurd a h0
theorem yI {p:PW} {t m j:Nat} (h:usd p t m=false) (a:j<p.IA.length) (h0:p.IA[j] 0≠0):j<t∨t+m<=j:=by
 apply Classical.byContradiction;intro c;have b:t<=j∧j<t+m:=oA;unfold usd at h;rw[bP] at h;refine h p.IA[j] ?_ (by simpa using h0);refine List.mem_iff_getElem?.2 ⟨j - t,?_⟩;rw[List.getElem?_take,ag oA,dK,show t+(j - t)=j by omega,ac a]
