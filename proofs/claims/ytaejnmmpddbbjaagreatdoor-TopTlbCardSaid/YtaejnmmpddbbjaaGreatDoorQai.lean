/- Qai -/
import Derived.BigGuard
import Derived.BigCall
import Derived.Lib.SliceRun
import Derived.Deep.RegionHeld3
import Derived.BigQuiet
import Derived.Test.YtaejnmmpddbbjaaGreatDoorQah
set_option maxRecDepth 100000
set_option maxHeartbeats 16000000
namespace Go.Proofs.YtaejnmmpddbbjaaGreatDoor
namespace Wd
open Go.RowKit Mem Bw Nums Mmu
theorem vM (a:Act) (t:Nat):a.eval (.tmp t)=a.tmps[t]?.getD undef:=by simp[Act.eval,Array.getD_eq_getD_getElem?]
theorem sC {c:Func} {p u:Tmp} {f:TypeId} (h:c.results=#[.cell p f,.tmp u]) {a:Act} {P:Program} {w:World} {b:Nat} {x y:Value} (d:a.eval (.tmp p)=.pointer (some ⟨b,0,none⟩)) (hl:(loadVar f ⟨b,0,none⟩).run P w=.ok x w) (e:a.eval (.tmp u)=y):
  (results c a.tmps).run P w=.ok (.tuple #[x,y]) w:=by
 rw[vM] at d e;simp only[results,h];simp[Result.andThen,asAddr,d,e,hl]
theorem sD {d:Func} {p u:Tmp} {e:TypeId} (h:d.results=#[.cell p e,.tmp u]) {c:Array Value} {P:Program} {w:World} {b:Nat} {x y:Value} (f:c.getD p undef=.pointer (some ⟨b,0,none⟩)) (hl:(loadVar e ⟨b,0,none⟩).run P w=.ok x w) (g:c.getD u undef=y):
  (results d c).run P w=.ok (.tuple #[x,y]) w:=sC (a:=⟨c,[]⟩) h f hl g
def fS (p:PW) (n:Int):Int:=if fQ p n then (if (p.DZ.getD n.toNat eE) 0=0 then 6 else 0) else 2
theorem lg (vb:Nat) (V:Nat->Value) (p:PW) (n:Int) (w:World) (b:gS w vb V p):
  Calls Tryz.prog 36 #[.pointer (some ⟨vb,0,none⟩),.int .i64 n] w fun r w'=>r=.returned (.int .i64 (fS p n))∧w=w':=by
 have c2:=r11 2 b.r;have c1:=r11 1 b.r;obtain⟨D,b2,C,o,e2,i,k⟩:=b.v.DZ;obtain⟨q1,b1,B,m,e1,z,A⟩:=b.v.kinds;have x:(p.DZ.length:Int)<=1000:=by have:=b.f.DZ;omega
 have u:(p.kinds.length:Int)<=1000:=by have:=b.f.kinds;omega
 cases hs:fQ p n with
 |false=>
  have a:=hid (show fS p n=2 by unfold fS;rw[hs];rfl);have g:=hid hs;have h:=cH hs;by_cases c:n<0
  ·clear h;go_enter Tryz.func36,Tryz.ntmps36
   go_wp2_with fail
   go_ret
   exact⟨by rw[a.out];rfl,rfl⟩
  ·have s:(p.DZ.length:Int)<=n:=oA;go_enter Tryz.func36,Tryz.ntmps36
   go_wp2_with fail
   go_ret
   exact⟨by rw[a.out];rfl,rfl⟩
 |true=>
  obtain⟨j,rfl,e⟩:=gg hs;have g:=hid hs;have t:(j:Int)<(p.DZ.length:Int):=oA;obtain rfl:=i oA;have l:=iL (k j e) (dp 7 _ 0 oA);have d:=hid (show fS p j=if p.DZ[j] 0=0 then 6 else 0 by unfold fS;rw[hs,af rfl,ag,aa,ac e];rfl);generalize p.DZ[j] 0=y at l d;have n0:¬((j:Int)<0):=oA;have n1:¬((p.DZ.length:Int)<=(j:Int)):=oA;by_cases c:y=0
  ·subst c;have a:=hid (show fS p j=6 by rw[d.out];rfl);go_enter Tryz.func36,Tryz.ntmps36
   go_wp2_with fail
   go_ret
   exact⟨by rw[a.out];rfl,rfl⟩
  ·have a:=hid (show fS p j=0 by rw[d.out,ae c]);have q:(y==0)=false:=by simpa using c
   go_enter Tryz.func36,Tryz.ntmps36
   go_wp2_with fail
   go_ret
   exact⟨by rw[a.out];rfl,rfl⟩
def spl:List Value->Nat->List Value->List Value
 |xs,_,[]=>xs
 |xs,o,v::r=>spl (xs.set o v) (o+1) r
theorem u5:∀(b xs:List Value) (o j:Nat),(spl xs o b)[j]? =if o<=j∧j<o+b.length∧j<xs.length then b[j - o]? else xs[j]?
 |[],xs,o,j=>by
  rw[spl,ae (by simp;omega)]
 |v::r,xs,o,j=>by
  rw[spl,u5 r (xs.set o v) (o+1) j];simp only[au,dO];by_cases c:o=j
  ·subst c;rw[ae oA];by_cases a:o<xs.length
   ·rw[af ⟨ar _,oA,a⟩,cJ a,Nat.sub_self];rfl
   ·rw[ae oA,aF (by simp;omega),aF oA]
  ·rw[cF c];by_cases a:o+1<=j∧j<o+1+r.length∧j<xs.length
   ·rw[af a,af ⟨oA,oA,a.2.2⟩,show j - o=(j - (o+1))+1 by omega];rfl
   ·rw[ae a,ae oA]
theorem rE {base e size g n cap:Nat}:∀(a:List Value) (o:Nat) (w:World) (xs:List Value),w.ownsRow base e size (.slice (some ⟨g,0,none⟩) n cap) n xs->(w.setCells g o a).ownsRow base e size (.slice (some ⟨g,0,none⟩) n cap) n (spl xs o a)
 |[],_,_,_,h=>h
 |v::r,o,w,xs,h=>by
  rw[World.setCells,spl];exact rE r (o+1) _ _ (h.stored o v).1
theorem o4 (n:Nat) (a:0<n) (fs:List (Nat->Int)) (i:Nat) (hi:i<fs.length) (f:Nat->Int):spl (eT n fs) (i*n) (cf n f)=eT n (fs.set i f):=by
 apply List.ext_getElem?;intro j;rw[u5,aA];have hl:=gM n fs;have m:(eT n (fs.set i f)).length=fs.length*n:=by rw[gM,au]
 by_cases l:j<fs.length*n
 ·have e:j=j/n*n+j%n:=by rw[Nat.mul_comm];exact (Nat.div_add_mod j n).symm
  have d:=(Nat.div_lt_iff_lt_mul a).2 l;have b:j%n<n:=Nat.mod_lt _ a;have a1:=im n fs (j/n) (j%n) d b;have c:=im n (fs.set i f) (j/n) (j%n) (by rw[au];exact d) b;rw[<-e] at a1 c;rw[a1,c];by_cases h:j/n=i
  ·have e2:j - i*n=j%n:=by rw[<-h];omega
   rw[af (by rw[hl, <-h];omega),e2,dp n f _ b];subst h;rw[dQ]
  ·rw[ae (by
    intro hh;apply h;have g:=hh.1;have k:j<(i+1)*n:=by rw[Nat.succ_mul];exact hh.2.1
    exact Nat.le_antisymm (Nat.lt_succ_iff.1 ((Nat.div_lt_iff_lt_mul a).2 k)) ((Nat.le_div_iff_mul_le a).2 g))]
   rw[List.getElem_set_ne (fun e=>h e.symm)]
 ·rw[ae (by rw[hl];omega),aF (by rw[hl];omega),aF (by rw[m];omega)]
theorem gi.FU {w:World} {L:Nat->Nat} {v:Nat->Value} {p:PW} (h:gi w L v p):∀d j,j+d<=10->L j<=L (j+d)
 |0,_,_=>ar _
 |d+1,j,hj=>aB (h.FU d j oA) (h.mono (j+d) oA)
theorem cb.Eb {W b:World} {wb:Nat} {tag tag':Nat->Nat} {V:Nat->Value} {p:PW} (h:cb W wb tag V p) (k:Kp (fun k=>tag k=2) W b) (a:∀k,k<W.heap.size->tag' k=tag k) {x:List Int} (n:InT b tag' 2 3 1 (V 0) (x.length,ec x)):cb b wb tag' V {p with Eb:=x}:=
 ⟨dY h.r k (by rw[h.g];decide),dJ h.t k (by rw[h.g];decide),(a wb h.lt).trans h.g,⟨n,h.o.kinds.kp k a (fun k e=>oA),h.o.DZ.kp k a (fun k e=>oA),h.o.DY.kp k a (fun k e=>oA),h.o.lines.kp k a (fun k e=>by rcases e with e|⟨i,e⟩<;>omega),h.o.bits.kp k a (fun k e=>oA),h.o.D6.kp k a (fun k e=>oA),h.o.ready.kp k a (fun k e=>by rcases e with e|⟨i,e⟩<;>omega),h.o.D9.kp k a (fun k e=>by rcases e with e|⟨i,e⟩<;>omega),h.o.Ee.kp k a (fun k e=>oA),h.o.time⟩⟩
theorem cb.kinds {W b:World} {wb:Nat} {tag tag':Nat->Nat} {V:Nat->Value} {p:PW} (h:cb W wb tag V p) (k:Kp (fun k=>tag k=3) W b) (a:∀k,k<W.heap.size->tag' k=tag k) {x:List Int} (n:InT b tag' 3 3 1 (V 1) (x.length,ec x)):cb b wb tag' V {p with kinds:=x}:=
 ⟨dY h.r k (by rw[h.g];decide),dJ h.t k (by rw[h.g];decide),(a wb h.lt).trans h.g,⟨h.o.Eb.kp k a (fun k e=>oA),n,h.o.DZ.kp k a (fun k e=>oA),h.o.DY.kp k a (fun k e=>oA),h.o.lines.kp k a (fun k e=>by rcases e with e|⟨i,e⟩<;>omega),h.o.bits.kp k a (fun k e=>oA),h.o.D6.kp k a (fun k e=>oA),h.o.ready.kp k a (fun k e=>by rcases e with e|⟨i,e⟩<;>omega),h.o.D9.kp k a (fun k e=>by rcases e with e|⟨i,e⟩<;>omega),h.o.Ee.kp k a (fun k e=>oA),h.o.time⟩⟩
theorem cb.DZ {W b:World} {wb:Nat} {tag tag':Nat->Nat} {V:Nat->Value} {p:PW} (h:cb W wb tag V p) (k:Kp (fun k=>tag k=4) W b) (a:∀k,k<W.heap.size->tag' k=tag k) {x:List (Nat->Int)} (n:InT b tag' 4 80 7 (V 2) (x.length,eT 7 x)):cb b wb tag' V {p with DZ:=x}:=
 ⟨dY h.r k (by rw[h.g];decide),dJ h.t k (by rw[h.g];decide),(a wb h.lt).trans h.g,⟨h.o.Eb.kp k a (fun k e=>oA),h.o.kinds.kp k a (fun k e=>oA),n,h.o.DY.kp k a (fun k e=>oA),h.o.lines.kp k a (fun k e=>by rcases e with e|⟨i,e⟩<;>omega),h.o.bits.kp k a (fun k e=>oA),h.o.D6.kp k a (fun k e=>oA),h.o.ready.kp k a (fun k e=>by rcases e with e|⟨i,e⟩<;>omega),h.o.D9.kp k a (fun k e=>by rcases e with e|⟨i,e⟩<;>omega),h.o.Ee.kp k a (fun k e=>oA),h.o.time⟩⟩
theorem cb.D9 {W b:World} {wb:Nat} {tag tag':Nat->Nat} {V:Nat->Value} {p:PW} (h:cb W wb tag V p) (k:Kp (fun k=>tag k=10∨∃j,tag k=14+3*j) W b) (a:∀k,k<W.heap.size->tag' k=tag k) {x:List (List Ent)} (n:jN b tag' x.length (V 8) x):cb b wb tag' V {p with D9:=x}:=
 ⟨dY h.r k (by rw[h.g];rintro (h|⟨j,h⟩)<;>omega),dJ h.t k (by rw[h.g];rintro (h|⟨j,h⟩)<;>omega),(a wb h.lt).trans h.g,⟨h.o.Eb.kp k a (fun k e=>by rintro (h|⟨j,h⟩)<;>omega),h.o.kinds.kp k a (fun k e=>by rintro (h|⟨j,h⟩)<;>omega),h.o.DZ.kp k a (fun k e=>by rintro (h|⟨j,h⟩)<;>omega),h.o.DY.kp k a (fun k e=>by rintro (h|⟨j,h⟩)<;>omega),h.o.lines.kp k a (fun k e=>by rintro (h|⟨j,h⟩)<;>rcases e with e|⟨i,e⟩<;>omega),h.o.bits.kp k a (fun k e=>by rintro (h|⟨j,h⟩)<;>omega),h.o.D6.kp k a (fun k e=>by rintro (h|⟨j,h⟩)<;>omega),h.o.ready.kp k a (fun k e=>by rintro (h|⟨j,h⟩)<;>rcases e with e|⟨i,e⟩<;>omega),n,h.o.Ee.kp k a (fun k e=>by rintro (h|⟨j,h⟩)<;>omega),h.o.time⟩⟩
theorem InT.cells {w:World} {tag:Nat->Nat} {t I s n g cap:Nat} {xs:List Value} (h:InT w tag t I s (.slice (some ⟨g,0,none⟩) n cap) (n,xs)) (o:Nat) (a:List Value):InT (w.setCells g o a) tag t I s (.slice (some ⟨g,0,none⟩) n cap) (n,spl xs o a)∧Kp (fun k=>tag k=t) w (w.setCells g o a):=
 ⟨⟨rE a o w xs h.1,h.2⟩,t9 (T:=fun k=>tag k=t) a o w (h.2 g rfl)⟩
theorem InT.there {w:World} {tag:Nat->Nat} {t I s n g cap:Nat} {xs:List Value} (h:InT w tag t I s (.slice (some ⟨g,0,none⟩) n cap) (n,xs)) (o m:Nat) (d:o+m<=n*s):w.there g o m:=fun j c=>by
 refine⟨?_,h.1.frozenAt _⟩;have hl:xs.length=n*s:=h.1.1;have a:o+j<n*s:=oA;have b:w.cell? ⟨g,o+j,none⟩=xs[o+j]? :=h.1.cellAt (o+j) a;rw[b,ac oA];rfl
theorem cb.EK {W:World} {wb:Nat} {tag:Nat->Nat} {V:Nat->Value} {p:PW} (h:cb W wb tag V p) {g cap:Nat} (e:V 2=.slice (some ⟨g,0,none⟩) p.DZ.length cap) {i k:Nat} (hi:i<p.DZ.length) (hk:k<7) (x:Int):
  cb (W.setCell ⟨g,i*7+k,none⟩ (.int .i64 x)) wb tag V {p with DZ:=p.DZ.set i (upd p.DZ[i] k x)}∧Kt tag tag W (W.setCell ⟨g,i*7+k,none⟩ (.int .i64 x)):=by
 have a:=h.o.DZ;rw[e] at a;obtain⟨b,c⟩:=a.cell (i*7+k) (.int .i64 x);rw[mM 7 oD p.DZ i k hi hk x] at b;refine⟨h.DZ c (fun _ _=>rfl) ?_,.of c (fun k e=>oA) (fun _ _=>rfl)⟩;rw[au,e];exact b
theorem cb.Eo {W:World} {wb:Nat} {tag:Nat->Nat} {V:Nat->Value} {p:PW} (h:cb W wb tag V p) {g cap:Nat} (e:V 2=.slice (some ⟨g,0,none⟩) p.DZ.length cap) {i:Nat} (hi:i<p.DZ.length) (f:Nat->Int):
  cb (W.setCells g (i*7) (cf 7 f)) wb tag V {p with DZ:=p.DZ.set i f}∧Kt tag tag W (W.setCells g (i*7) (cf 7 f)):=by
 have a:=h.o.DZ;rw[e] at a;obtain⟨b,c⟩:=a.cells (i*7) (cf 7 f);rw[o4 7 oD p.DZ i hi f] at b;refine⟨h.DZ c (fun _ _=>rfl) ?_,.of c (fun k e=>oA) (fun _ _=>rfl)⟩;rw[au,e];exact b
theorem cb.Fb {W:World} {wb:Nat} {tag:Nat->Nat} {V:Nat->Value} {p:PW} (h:cb W wb tag V p) {g cap:Nat} (e:V 3=.slice (some ⟨g,0,none⟩) p.DY.length cap) {i:Nat} (hi:i<p.DY.length) (f:Nat->Int):
  cb (W.setCells g (i*20) (cf 20 f)) wb tag V {p with DY:=p.DY.set i f}∧Kt tag tag W (W.setCells g (i*20) (cf 20 f)):=by
 have a:=h.o.DY;rw[e] at a;obtain⟨b,c⟩:=a.cells (i*20) (cf 20 f);rw[o4 20 oD p.DY i hi f] at b;refine⟨h.DY c (fun _ _=>rfl) ?_,.of c (fun k e=>oA) (fun _ _=>rfl)⟩;rw[au,e];exact b
theorem cb.Ek {W:World} {wb:Nat} {tag:Nat->Nat} {V:Nat->Value} {p:PW} (h:cb W wb tag V p) {g cap:Nat} (e:V 0=.slice (some ⟨g,0,none⟩) p.Eb.length cap) (i:Nat) (x:Int):
  cb (W.setCell ⟨g,i,none⟩ (.int .i64 x)) wb tag V {p with Eb:=p.Eb.set i x}∧Kt tag tag W (W.setCell ⟨g,i,none⟩ (.int .i64 x)):=by
 have a:=h.o.Eb;rw[e] at a;obtain⟨b,c⟩:=a.cell i (.int .i64 x);rw[ints_set] at b;refine⟨h.Eb c (fun _ _=>rfl) ?_,.of c (fun k e=>oA) (fun _ _=>rfl)⟩;rw[au,e];exact b
theorem cb.Eh {W:World} {wb:Nat} {tag:Nat->Nat} {V:Nat->Value} {p:PW} (h:cb W wb tag V p) {g cap:Nat} (e:V 1=.slice (some ⟨g,0,none⟩) p.kinds.length cap) (i:Nat) (x:Int):
  cb (W.setCell ⟨g,i,none⟩ (.int .i64 x)) wb tag V {p with kinds:=p.kinds.set i x}∧Kt tag tag W (W.setCell ⟨g,i,none⟩ (.int .i64 x)):=by
 have a:=h.o.kinds;rw[e] at a;obtain⟨b,c⟩:=a.cell i (.int .i64 x);rw[ints_set] at b;refine⟨h.kinds c (fun _ _=>rfl) ?_,.of c (fun k e=>oA) (fun _ _=>rfl)⟩;rw[au,e];exact b
theorem cb.Em {W:World} {wb:Nat} {tag:Nat->Nat} {V:Nat->Value} {p:PW} (h:cb W wb tag V p) {g cap:Nat} (e:V 2=.slice (some ⟨g,0,none⟩) p.DZ.length cap) {i k:Nat} (hi:i<p.DZ.length) (hk:k<7):W.cell? ⟨g,i*7+k,none⟩=some (.int .i64 (p.DZ[i] k)):=by
 have a:=h.o.DZ;rw[e] at a;exact a.range hi k _ (dp 7 _ k hk)
theorem cb.Fz {W:World} {wb:Nat} {tag:Nat->Nat} {V:Nat->Value} {p:PW} (h:cb W wb tag V p) {g cap:Nat} (e:V 2=.slice (some ⟨g,0,none⟩) p.DZ.length cap) (o:Nat):W.frozen? ⟨g,o,none⟩=false:=by
 have a:=h.o.DZ;rw[e] at a;exact a.frozen o
section
variable {P : Program} {ops : Array Oper} {Q : Exit -> Act -> World -> Prop} {md : Region.Mode} {S R : World -> Prop} {fs : List Nat}
end
def l6 (a b:Int) (f:Nat->Int):Nat->Int:=if f 6=a then upd f 6 b else f
def hnd (a b:Int) (fs:List (Nat->Int)):List (Nat->Int):=fs.map (l6 a b)
def kF (a b:Int) (k:Nat) (fs:List (Nat->Int)):List (Nat->Int):=(fs.take k).map (l6 a b)++fs.drop k
theorem na (a b:Int) (k:Nat) (fs:List (Nat->Int)):(kF a b k fs).length=fs.length:=by
 unfold kF;simp;omega
theorem tT (a b:Int) (fs:List (Nat->Int)):kF a b 0 fs=fs:=by simp[kF]
theorem vZ (a b:Int) (fs:List (Nat->Int)):kF a b fs.length fs=hnd a b fs:=by simp[kF,hnd]
theorem pS (a b:Int) (k:Nat) (fs:List (Nat->Int)) (hk:k<fs.length) (h:k<(kF a b k fs).length):(kF a b k fs)[k]=fs[k]:=by
 have e:(kF a b k fs)[k]? =fs[k]? :=by
  unfold kF;rw[dc (by simp;omega),cW]
  congr 1
  simp;omega
 rw[ac h,ac hk] at e;exact aH e
theorem ox (a b:Int) (k:Nat) (fs:List (Nat->Int)) (hk:k<fs.length):kF a b (k+1) fs=(kF a b k fs).set k (l6 a b fs[k]):=by
 unfold kF;have e:k - (List.map (l6 a b) (List.take k fs)).length=0:=by simp;omega
 rw[List.take_add_one,ac hk,dR,List.set_append,ae (by simp;omega),e];simp only[Option.toList_some,bP,ef,List.append_assoc,List.cons_append,List.nil_append];rw[List.drop_eq_getElem_cons hk];rfl
theorem v7 {a b:Int} {k:Nat} {fs:List (Nat->Int)} (hk:k<fs.length) (h:k<(kF a b k fs).length) (c:fs[k] 6=a):(kF a b k fs).set k (upd (kF a b k fs)[k] 6 b)=kF a b (k+1) fs:=by
 rw[ox a b k fs hk,pS a b k fs hk h];unfold l6;rw[af c]
theorem tS {a b:Int} {k:Nat} {fs:List (Nat->Int)} (hk:k<fs.length) (c:¬fs[k] 6=a):kF a b k fs=kF a b (k+1) fs:=by
 have h:k<(kF a b k fs).length:=by rw[na];exact hk
 rw[ox a b k fs hk];unfold l6;rw[ae c, <-pS a b k fs hk h,cw]
theorem rW (wb:Nat) (tag:Nat->Nat) (V:Nat->Value) (p:PW) (a b:Int) (W:World) (bt:cb W wb tag V p) (hl:p.DZ.length<=1000):
  Calls Tryz.prog 35 #[.pointer (some ⟨wb,0,none⟩),.int .i64 a,.int .i64 b] W fun r W'=>r=.returned (.tuple #[])∧cb W' wb tag V {p with DZ:=hnd a b p.DZ}∧Kt tag tag W W':=by
 obtain⟨E,g,cap,e2,x⟩:=bt.o.DZ.shape;have q:=hid bt;have t:=hid x;have h:=hid e2;have C:(p.DZ.length:Int)<=1000:=oA;go_enter Tryz.func35,Tryz.ntmps35
 go_wp2_with fail
 go_loopw [6] (fun i wr=>∃(k:Nat),k<=p.DZ.length∧i=.int .i64 k∧Hid (cb wr wb tag V {p with DZ:=kF a b k p.DZ})∧Hid (Kt tag tag W wr)) (fun i _=>p.DZ.length - (intOf i).toNat)
 case atStart=>exact⟨0,oA,rfl,hid (by rw[tT];exact q),hid (Kt.refl _ _)⟩
 case round=>
  obtain⟨k,hk,rfl,c,j⟩:=hrel;by_cases f:k<p.DZ.length
  ·have D:(k:Int)<(p.DZ.length:Int):=oA;have z:=t.out oA;subst z;have m:k<(kF a b k p.DZ).length:=by rw[na];exact f
   have l:V 2=.slice (some ⟨g,0,none⟩) (kF a b k p.DZ).length cap:=by rw[na];exact h
   have c2:=bg c h;have n:=c.Em l m (show 6<7 by omega);have A:=c.Fz l (k*7+6);simp only[pS a b k p.DZ f] at n;by_cases e:p.DZ[k] 6=a
   ·obtain⟨w,v⟩:=c.EK l m (show 6<7 by omega) b;have d:=hid (show cb (wr.setCell ⟨g,k*7+6,none⟩ (.int .i64 b)) wb tag V {p with DZ:=kF a b (k+1) p.DZ} by rw[<-v7 f m e];exact w);have s:=hid (j.trans v);rw[e] at n;go_wp2_with fail
    exact⟨⟨k+1,oA,by go_num,d,s⟩,by simp[intOf];omega⟩
   ·have d:=hid (show cb wr wb tag V {p with DZ:=kF a b (k+1) p.DZ} by rw[<-tS f e];exact c);have u:(p.DZ[k] 6==a)=false:=by simpa using e
    generalize p.DZ[k] 6=y at n u;go_wp2_with fail
    exact⟨⟨k+1,oA,by go_num,d,j⟩,by simp[intOf];omega⟩
  ·obtain rfl:k=p.DZ.length:=oA;have c2:=bg c h;have B:¬((p.DZ.length:Int)<(p.DZ.length:Int)):=oA;have d:=hid (show cb wr wb tag V {p with DZ:=hnd a b p.DZ} by rw[<-vZ];exact c);go_wp2_with fail
   exact aX (aK rfl _ _ _) rfl ⟨rfl,d.out,j.out⟩
def eS:Nat->Int:=fun k=>if k=6 then -1 else 0
theorem mr:(Tryz.prog.info? 80).map (·.size)=some 7:=oK
theorem px {ops:Array Oper} {rest:List Oper} {op:Oper} {a:Act} {w:World} {Q:Exit->Act->World->Prop} (d:op.guard=none) (x y:Operand) (e:op.op=.store 80 x y)
  (b o:Nat) (g:a.eval x=.pointer (some ⟨b,o,none⟩)) (cs:List Value) (i:a.eval y=.agg cs.toArray) (hl:cs.length=7) (c:∀v∈cs,v.oneCell'=true) (f:w.there b o 7)
  (h:wpList Tryz.prog ops Q rest (a.put op.dst undef) (w.setCells b o cs)):wpList Tryz.prog ops Q (op::rest) a w:=
 wpList_store_mid d 80 x y e b o cs.toArray g i (by simpa [hl] using f) (by rw[mr];simp[hl]) (all_oneCell_toArray c) (by simpa using h)
theorem Ck {ops:Array Oper} {rest:List Oper} {op:Oper} {a:Act} {w:World} {Q:Exit->Act->World->Prop} (d:op.guard=none) (x:Operand) (e:op.op=.load 80 x)
  (b o:Nat) (f:a.eval x=.pointer (some ⟨b,o,none⟩)) (cs:List Value) (hl:cs.length=7) (c:w.rangeAt b o cs)
  (h:wpList Tryz.prog ops Q rest (a.put op.dst (.agg cs.toArray)) w):wpList Tryz.prog ops Q (op::rest) a w:=
 wpList_load_mid d 80 x e b o f cs _ c Tryz.underlying80 rfl (by rw[mr,hl]) h
def frm (p:PW) (n:Int):Bool:=p.DZ.any (fun f=>f 6==n)
def clE (p:PW) (n:Int):Int:=if fS p n=0 then (if (p.DZ.getD n.toNat eE) 0=1 then 0 else 3) else fS p n
def usV (p:PW) (n:Int):Int:=if frm p n=true then (p.DZ.getD n.toNat eE) 3 else 0
theorem oy:(Tryz.prog.info? 78).map (·.size)=some 6:=oK
theorem AZ {p:PW} {n:Int} (h:fS p n=0):∃j:Nat,n=j∧j<p.DZ.length:=by
 unfold fS at h
 cases hs:fQ p n with
 |false=>rw[hs] at h;cases h
 |true=>exact gg hs
def usd (p:PW) (t m:Nat):Bool:=((p.DZ.drop t).take m).any (fun f=>f 0 !=0)
def fcE (p:PW) (t:Nat) (m:Int):Int:=if p.kinds.getD (t/16) 0=5 then (if ed 1 (16 - (t:Int)%16) m=true then (if usd p t m.toNat=true then 12 else 0) else 2) else 3
theorem pA (vb:Nat) (V:Nat->Value) (p:PW) (n:Int) (w:World) (c:gS w vb V p):
  Calls Tryz.prog 38 #[.pointer (some ⟨vb,0,none⟩),.int .i64 n] w fun r w'=>r=.returned (.bool (frm p n))∧w=w':=by
 have c2:=r11 2 c.r;obtain⟨E,b2,D,z,e2,s,u⟩:=c.v.DZ;have B:(p.DZ.length:Int)<=1000:=by have:=c.f.DZ;omega
 rw[e2] at c2;have o:=hid s;have q:=hid u;go_enter Tryz.func38,Tryz.ntmps38
 go_wp2_with fail
 go_loopw [5] (fun i wr=>∃(k:Nat),k<=p.DZ.length∧i=.int .i64 k∧w=wr∧Hid (∀j (a:j<p.DZ.length),j<k->(p.DZ[j] 6==n)=false)) (fun i _=>p.DZ.length - (intOf i).toNat)
 case atStart=>exact⟨0,oA,rfl,rfl,hid (fun j _ h=>oA)⟩
 case round=>
  obtain⟨k,hk,rfl,rfl,d⟩:=hrel;by_cases g:k<p.DZ.length
  ·have C:(k:Int)<(p.DZ.length:Int):=oA;obtain rfl:=o.out oA;have l:=eo (q.out k g) (dp 7 _ 6 oA)
   cases h6:(p.DZ[k] 6==n) with
   |true=>
    have b:=hid (show frm p n=true from List.any_eq_true.2 ⟨p.DZ[k],aw g,h6⟩);generalize p.DZ[k] 6=y at l h6;go_wp2_with fail
    go_ret
    exact⟨by rw[b.out];rfl,rfl⟩
   |false=>
    have m:=hid (show ∀j (a:j<p.DZ.length),j<k+1->(p.DZ[j] 6==n)=false from fun j a h=>by
     by_cases e:j=k
     ·subst e;exact h6
     ·exact d j a oA)
    generalize p.DZ[k] 6=y at l h6;go_wp2_with fail
    exact⟨⟨k+1,oA,by go_num,by first|rfl|trivial,m⟩,by simp[intOf];omega⟩
  ·obtain rfl:k=p.DZ.length:=oA;have A:¬((p.DZ.length:Int)<(p.DZ.length:Int)):=oA;have b:=hid (show frm p n=false by
    unfold frm;rw[bS];intro x t;obtain⟨j,a,rfl⟩:=dm t;rw[d.out j a a]
    decide)
   go_wp2_with fail
   go_ret
   exact⟨by rw[b.out];rfl,rfl⟩
def zr (n:Nat) (l:List Int) (a:Nat):List Int:=if h:n=0 then l else zr (n - 1) (l.set a 0) (a+1)
theorem ki (l:List Int) (a:Nat):zr 0 l a=l:=by rw[zr,dif_pos rfl]
theorem kh (n:Nat) (l:List Int) (a:Nat):zr (n+1) l a=zr n (l.set a 0) (a+1):=by rw[zr,dif_neg (Nat.succ_ne_zero n),Nat.add_sub_cancel]
theorem lW:∀(n:Nat) (l:List Int) (a:Nat),(zr n l a).length=l.length
 |0,l,a=>by rw[ki]
 |n+1,l,a=>by rw[kh,lW n,au]
theorem vm:∀(n:Nat) (l:List Int) (a:Nat),zr (n+1) l a=(zr n l a).set (a+n) 0
 |0,l,a=>by rw[kh,ki,ki,bG]
 |n+1,l,a=>by rw[kh,vm n,kh n,show a+1+n=a+(n+1) by omega]
def shP (p:PW) (f:Nat) (k:Int):PW:={p with kinds:=p.kinds.set f k,Eb:=zr 16 p.Eb (f*16)}
theorem cb.EC {W:World} {wb:Nat} {tag:Nat->Nat} {V:Nat->Value} {p:PW} (h:cb W wb tag V p) {g cap:Nat} (e:V 1=.slice (some ⟨g,0,none⟩) p.kinds.length cap) (o m:Nat) (b:o+m<=p.kinds.length):W.there g o m:=by
 have a:=h.o.kinds;rw[e] at a;exact a.there o m oA
theorem cb.EW {W:World} {wb:Nat} {tag:Nat->Nat} {V:Nat->Value} {p:PW} (h:cb W wb tag V p) {g cap:Nat} (e:V 0=.slice (some ⟨g,0,none⟩) p.Eb.length cap) (o m:Nat) (b:o+m<=p.Eb.length):W.there g o m:=by
 have a:=h.o.Eb;rw[e] at a;exact a.there o m oA
def iD (tag:Nat->Nat) (c k:Nat):Nat:=if k<c then tag k else 0
theorem jg {tag:Nat->Nat} {c k:Nat} (h:k<c):iD tag c k=tag k:=af h
theorem hV {W:World} {wb:Nat} {tag:Nat->Nat} {V:Nat->Value} {p:PW} (h:cb W wb tag V p):cb W wb (iD tag W.heap.size) V p∧Kt tag (iD tag W.heap.size) W W:=
 ⟨h.kp (T:=fun _=>False) (aP _ _) (fun _ _ e=>e.elim) (fun _ hk=>jg hk),Kt.of (T:=fun _=>False) (aP _ _) (fun _ e=>e.elim) (fun _ hk=>jg hk)⟩
theorem Kt.FK {tag tag':Nat->Nat} {W X:World} (h:Kt tag tag' W X) {b o:Nat} (d:W.heap.size<=b) (v:Value):Kt tag tag' W (X.setCell ⟨b,o,none⟩ v):=by
 have a:=(ai 0 X).setCell (p:=⟨b,o,none⟩) (bF _) v;exact⟨⟨a.os.trans h.k.os,a.tape.trans h.k.tape,a.output.trans h.k.output,aB h.k.size a.size,fun i hi c=>(Below.heap_setCell X ⟨b,o,none⟩ v i (show i≠b by omega)).trans (h.k.block i hi c)⟩,h.t⟩
theorem Kt.there {tag tag':Nat->Nat} {W X:World} (h:Kt tag tag' W X) {b n:Nat} (c:W.there b 0 n) (a:tag b=0):X.there b 0 n:=dJ c h.k (fun e=>e a)
theorem uP {W:World} {b:Nat} {f:Nat->Int} (h:W.rangeAt b 0 (cf 6 f)) (x:Int):(W.setCell ⟨b,3,none⟩ (.int .i64 x)).rangeAt b 0 (cf 6 (upd f 3 x)):=fun o v a=>by
 have g:o<6:=by
  have:=(List.getElem?_eq_some_iff.1 a).1
  rwa [aA] at this
 rw[dp 6 _ o g] at a;have c:=h o _ (dp 6 f o g);have d:=h 3 _ (dp 6 f 3 oA);rw[az] at c d ⊢;by_cases e:o=3
 ·subst e;rw[<-a];exact cR _ _ _ d
 ·rw[<-a,aJ _ _ _ _ (by intro e2;cases e2;exact e rfl),c];unfold upd;rw[ae e]
theorem gv {ops:Array Oper} {rest:List Oper} {op:Oper} {a:Act} {w:World} {Q:Exit->Act->World->Prop} (d:op.guard=none) (x y:Operand) (e:op.op=.store 78 x y)
  (b o:Nat) (g:a.eval x=.pointer (some ⟨b,o,none⟩)) (cs:List Value) (i:a.eval y=.agg cs.toArray) (hl:cs.length=6) (c:∀v∈cs,v.oneCell'=true) (f:w.there b o 6)
  (h:wpList Tryz.prog ops Q rest (a.put op.dst undef) (w.setCells b o cs)):wpList Tryz.prog ops Q (op::rest) a w:=
 wpList_store_mid d 78 x y e b o cs.toArray g i (by simpa [hl] using f) (by rw[oy];simp[hl]) (all_oneCell_toArray c) (by simpa using h)
theorem rZ {ops:Array Oper} {rest:List Oper} {op:Oper} {a:Act} {w:World} {Q:Exit->Act->World->Prop} (d:op.guard=none) (x:Operand) (e:op.op=.load 78 x)
  (b o:Nat) (f:a.eval x=.pointer (some ⟨b,o,none⟩)) (cs:List Value) (hl:cs.length=6) (c:w.rangeAt b o cs)
  (h:wpList Tryz.prog ops Q rest (a.put op.dst (.agg cs.toArray)) w):wpList Tryz.prog ops Q (op::rest) a w:=
 wpList_load_mid d 78 x e b o f cs _ c Tryz.underlying78 rfl (by rw[oy,hl]) h
theorem rM {W:World} {b o:Nat} {f:Nat->Int} (h:W.rangeAt b o (cf 7 f)):W.rangeAt b o (cf 6 f):=fun j v a=>h j v (by
 have c:j<6:=by
  have:=(List.getElem?_eq_some_iff.1 a).1
  rwa [aA] at this
 rw[dp 6 f j c] at a;rw[dp 7 f j oA];exact a)
theorem cb.EM {wb:Nat} {tag:Nat->Nat} {V:Nat->Value} {g cap i:Nat} (f:Nat->Int):∀(n a:Nat) (p:PW) (W:World),a+n<=7->cb W wb tag V p->V 2=.slice (some ⟨g,0,none⟩) p.DZ.length cap->(hi:i<p.DZ.length)->cb (W.setCells g (i*7+a) ((List.range' a n).map fun k=>.int .i64 (f k))) wb tag V {p with DZ:=p.DZ.set i (fun k=>if a<=k∧k<a+n then f k else p.DZ[i] k)}∧Kt tag tag W (W.setCells g (i*7+a) ((List.range' a n).map fun k=>.int .i64 (f k)))
 |0,a,p,W,_,h,_,hi=>by
  refine⟨?_,Kt.refl _ _⟩;have e:(fun k=>if a<=k∧k<a+0 then f k else p.DZ[i] k)=p.DZ[i]:=by
   funext k
   rw[ae oA]
  rw[e,cw];exact h
 |n+1,a,p,W,hn,h,e,hi=>by
  rw[List.range'_succ,bP,World.setCells];obtain⟨d,k1⟩:=h.EK e hi (show a<7 by omega) (f a);have l:i<(p.DZ.set i (upd p.DZ[i] a (f a))).length:=by rw[au];exact hi
  obtain⟨j,k2⟩:=cb.EM f n (a+1) {p with DZ:=p.DZ.set i (upd p.DZ[i] a (f a))} _ oA d (by rw[au];exact e) l;refine⟨?_,k1.trans k2⟩;have e2:(p.DZ.set i (upd p.DZ[i] a (f a))).set i (fun k=>if a+1<=k∧k<a+1+n then f k else (p.DZ.set i (upd p.DZ[i] a (f a)))[i] k)=p.DZ.set i (fun k=>if a<=k∧k<a+(n+1) then f k else p.DZ[i] k):=by
   rw[d9]
   congr 1
   funext k
   rw[dQ];unfold upd;by_cases b:a<=k∧k<a+(n+1)
   ·rw[af b];by_cases c:k=a
    ·rw[ae oA,af c,c]
    ·rw[af oA]
   ·rw[ae b,ae oA,ae oA]
  rw[<-e2];exact j
theorem cb.Fu {W:World} {wb:Nat} {tag:Nat->Nat} {V:Nat->Value} {p:PW} (h:cb W wb tag V p) {g cap:Nat} (e:V 2=.slice (some ⟨g,0,none⟩) p.DZ.length cap) {i:Nat} (hi:i<p.DZ.length) (f:Nat->Int) (c:f 6=p.DZ[i] 6) (d:∀k,7<=k->f k=p.DZ[i] k):
  cb (W.setCells g (i*7) (cf 6 f)) wb tag V {p with DZ:=p.DZ.set i f}∧Kt tag tag W (W.setCells g (i*7) (cf 6 f)):=by
 have a:=cb.EM (i:=i) f 6 0 p W oA h e hi;have e1:((List.range' 0 6).map fun k=>Value.int .i64 (f k))=cf 6 f:=rfl;have e2:(fun k=>if 0<=k∧k<0+6 then f k else p.DZ[i] k)=f:=by
  funext k
  by_cases j:k<6
  ·rw[af oA]
  ·rw[ae oA];by_cases b:k=6
   ·rw[b,c]
   ·rw[d k oA]
 rw[e1,e2,bG] at a;exact a
theorem cb.EH {W:World} {wb:Nat} {tag:Nat->Nat} {V:Nat->Value} {p:PW} (h:cb W wb tag V p) {g cap:Nat} (e:V 2=.slice (some ⟨g,0,none⟩) p.DZ.length cap) (o m:Nat) (b:o+m<=p.DZ.length*7):W.there g o m:=by
 have a:=h.o.DZ;rw[e] at a;exact a.there o m b
def nsl (k f n:Int):Nat->Int:=fun i=>if i=0 then k else if i=1 then f else if i=2 then 1 else if i=4 then 7 else if i=6 then n else 0
def mk1 (q:PW) (n k:Int) (b t i:Nat):PW:={shP q (b+i) k with DZ:=q.DZ.set (t+i) (nsl k ((b+i:Nat):Int) n)}
def mkI (p:PW) (n k:Int) (b t:Nat):Nat->PW
 |0=>p
 |i+1=>mk1 (mkI p n k b t i) n k b t i
theorem nz (p:PW) (n k:Int) (b t i:Nat):mkI p n k b t (i+1)=mk1 (mkI p n k b t i) n k b t i:=rfl
theorem ur (q:PW) (n k:Int) (b t i:Nat):(mk1 q n k b t i).kinds=q.kinds.set (b+i) k:=rfl
theorem zi (q:PW) (n k:Int) (b t i:Nat):(mk1 q n k b t i).Eb=zr 16 q.Eb ((b+i)*16):=rfl
theorem oL (q:PW) (n k:Int) (b t i:Nat):(mk1 q n k b t i).DZ=q.DZ.set (t+i) (nsl k ((b+i:Nat):Int) n):=rfl
theorem wu (q:PW) (n k:Int) (b t i:Nat):(mk1 q n k b t i).DY=q.DY∧(mk1 q n k b t i).lines=q.lines∧(mk1 q n k b t i).bits=q.bits∧(mk1 q n k b t i).D6=q.D6∧(mk1 q n k b t i).ready=q.ready∧(mk1 q n k b t i).D9=q.D9∧(mk1 q n k b t i).Ee=q.Ee:=⟨rfl,rfl,rfl,rfl,rfl,rfl,rfl⟩
theorem ly (p:PW) (n k:Int) (b t:Nat):∀i,(mkI p n k b t i).kinds.length=p.kinds.length∧(mkI p n k b t i).Eb.length=p.Eb.length∧(mkI p n k b t i).DZ.length=p.DZ.length
 |0=>⟨rfl,rfl,rfl⟩
 |i+1=>by
  have h:=ly p n k b t i;rw[nz,ur,zi,oL,au,lW,au];exact h
theorem rh (p:PW) (n k:Int) (b t:Nat):∀i,(mkI p n k b t i).DY=p.DY∧(mkI p n k b t i).lines=p.lines∧(mkI p n k b t i).bits=p.bits∧(mkI p n k b t i).D6=p.D6∧(mkI p n k b t i).ready=p.ready∧(mkI p n k b t i).D9=p.D9∧(mkI p n k b t i).Ee=p.Ee
 |0=>⟨rfl,rfl,rfl,rfl,rfl,rfl,rfl⟩
 |i+1=>by
  have h:=rh p n k b t i;obtain⟨a,c,d,r4,e,f,g⟩:=wu (mkI p n k b t i) n k b t i;rw[nz,a,c,d,r4,e,f,g];exact h
theorem wv {p:PW} (h:p.Fits) (n k:Int) (b t i:Nat):(mkI p n k b t i).Fits:=by
 obtain⟨d,e,f⟩:=ly p n k b t i;obtain⟨g,a,j,r4,c,l,m⟩:=rh p n k b t i;exact⟨by rw[e];exact h.Eb,by rw[d];exact h.kinds,by rw[f];exact h.DZ,by rw[g];exact h.DY,by rw[a];exact h.lines,by rw[a];exact h.line,by rw[j];exact h.bits,by rw[r4];exact h.D6,by rw[c];exact h.ready,by rw[c];exact h.next,by rw[l];exact h.D9,by rw[m];exact h.Ee⟩
theorem uu (p:PW) (n k:Int) (b t j:Nat):∀i,(j<t∨t+i<=j)->(mkI p n k b t i).DZ[j]? =p.DZ[j]?
 |0,_=>rfl
 |i+1,h=>by
  rw[nz,oL,cF oA];exact uu p n k b t j i oA
def mkB (p:PW) (n:Int):Nat:=((p.DZ.getD n.toNat eE) 1+usV p n).toNat
def mkP (p:PW) (n k m t:Int):PW:={mkI p n k (mkB p n) t.toNat m.toNat with DZ:=(mkI p n k (mkB p n) t.toNat m.toNat).DZ.set n.toNat (upd (p.DZ.getD n.toNat eE) 3 (usV p n+m))}
def mkE (p:PW) (n k m t:Int):Int:=if fQ p t=true then (if clE p n=0 then (if ed 2 8 k=true then (if fcE p t.toNat m=0 then (if (p.DZ.getD n.toNat eE) 2 - usV p n<m then 5 else 0) else fcE p t.toNat m) else 3) else clE p n) else 2
theorem yv {p:PW} (h:Snd p) {n:Int} (a:clE p n=0):∃(j:Nat) (b:j<p.DZ.length),n=j∧p.DZ[j] 0=1∧p.DZ.getD j eE=p.DZ[j]∧(0<=p.DZ[j] 1∧p.DZ[j] 1+p.DZ[j] 2<=(p.kinds.length:Int))∧(0<=p.DZ[j] 2∧p.DZ[j] 2<=100)∧(0<=p.DZ[j] 3∧p.DZ[j] 3<=100)∧(0<=usV p n∧usV p n<=100):=by
 unfold clE at a;by_cases d:fS p n=0
 ·rw[af d] at a;obtain⟨j,rfl,b⟩:=AZ d;rw[ag] at a;have e:p.DZ.getD j eE=p.DZ[j]:=by rw[aa,ac b];rfl
  rw[e] at a;by_cases f:p.DZ[j] 0=1
  ·have c:=xV h p.DZ[j] (aw b);obtain⟨k1,k2,g,_⟩:=uZ h b oA;refine⟨j,b,rfl,f,e,⟨k1,g⟩,⟨oA,c.l1⟩,⟨c.m0,c.m1⟩,?_⟩;unfold usV;rw[ag,e];have:=c.m0;have:=c.m1;split<;>omega
  ·rw[ae f] at a
   cases a
 ·rw[ae d] at a;exact absurd a d
theorem vh {p:PW} {t m j:Nat} (h:usd p t m=false) (b:j<p.DZ.length) (a:p.DZ[j] 0≠0):j<t∨t+m<=j:=by
 apply Classical.byContradiction;intro d;have c:t<=j∧j<t+m:=oA;unfold usd at h;rw[bS] at h;refine h p.DZ[j] ?_ (by simpa using a);refine List.mem_iff_getElem?.2 ⟨j - t,?_⟩;rw[List.getElem?_take,af oA,cW,show t+(j - t)=j by omega,ac b]
