/- Qal -/
import Derived.BigGuard
import Derived.BigCall
import Derived.Lib.SliceRun
import Derived.Deep.RegionHeld3
import Derived.BigQuiet
import Derived.Test.YtaejnmmpddbbjaaGreatDoorQak
set_option maxRecDepth 100000
set_option maxHeartbeats 16000000
namespace Go.Proofs.YtaejnmmpddbbjaaGreatDoor
namespace Wd
open Go.RowKit Mem Bw Nums Mmu
def dE (p:PW) (e:Int):Int:=if mf p then e else 8
def dP (p p':PW) (e:Int):PW:=if dE p e=0 then p' else noP
theorem zf (a:Act) (t:Nat):a.eval (.tmp t)=a.tmps[t]?.getD undef:=by simp[Act.eval,Array.getD_eq_getD_getElem?]
theorem vf {c:Func} {p u:Tmp} {f:TypeId} (h:c.results=#[.cell p f,.tmp u]) {a:Act} {P:Program} {w:World} {b:Nat} {x y:Value} (d:a.eval (.tmp p)=.pointer (some ⟨b,0,none⟩)) (hl:(loadVar f ⟨b,0,none⟩).run P w=.ok x w) (e:a.eval (.tmp u)=y):
  (results c a.tmps).run P w=.ok (.tuple #[x,y]) w:=by
 rw[zf] at d e;simp only[results,h];simp[Result.andThen,asAddr,d,e,hl]
theorem iO {d:Func} {p u:Tmp} {e:TypeId} (h:d.results=#[.cell p e,.tmp u]) {c:Array Value} {P:Program} {w:World} {b:Nat} {x y:Value} (f:c.getD p undef=.pointer (some ⟨b,0,none⟩)) (hl:(loadVar e ⟨b,0,none⟩).run P w=.ok x w) (g:c.getD u undef=y):
  (results d c).run P w=.ok (.tuple #[x,y]) w:=vf (a:=⟨c,[]⟩) h f hl g
theorem Ew (N:Nat) (caps:Array Value) (ok:World->Prop) (V:Nat->Value) (p p':PW) (e:Int) (w:World) (R:fy w V p) (Q:p.Fits) (hN:∀H (W:World),(callFunc N H).run Tryz.prog W=.ok (.enter N H) W)
  (P:∀W,Below w.heap.size w W->ok W) (O:Snd p->By N caps ok eV p p' e):
  Calls Tryz.prog 24 #[.agg (cb V),.func (.func N) #[] caps] w fun r w'=>∃X,r=.returned (.tuple #[.agg (cb X),eV (dE p e)])∧uC w' w.heap.size X (dP p p' e)∧Below w.heap.size w w':=by
 have G:=nC w V 28;have F:=hid (bj G (bal (ag _ (w.alloc (.cells (cb V) 28))) (.cells zW 28)));have z:=hid (bal (bal (ag w.heap.size w) (.cells (cb V) 28)) (.cells zW 28));have T0:=hid (aR (w.alloc (.cells (cb V) 28)) zW 28 (w.heap.size+1) 11 oS oD);have q:=hid R;have E:=hid Q;have Z:=hid O;have D:=hid P;have L0:=hid (show w.heap.size+1<((w.alloc (.cells (cb V) 28)).alloc (.cells zW 28)).heap.size by simp);clear R Q O P G;go_enter Tryz.func24,Tryz.ntmps24
 go_wp2_with (first|((with_reducible refine gld 28 ?_);refine hU oR _ rfl _ rfl V F ?_))
 generalize World.alloc _ _=W0 at*;refine (jn V p W0 (q.below z) E).mono ?_;rintro r w1 ⟨x,rfl,M,c⟩;have A1:=hid c;have n:=hid (btr z c);have l:=hid (bU T0 c);have RG:=hid (bj F c);have L1:=hid (aF L0 c.size);have XV:=hid (gT w1);have u:=hid (gm (gT w1))
 cases hs:mf p with
 |false=>
  have b:=hid (show dE p e=8 by unfold dE;rw[hs];rfl);have g:=hid (show dP p p' e=noP by unfold dP;rw[b.out];rfl);have a:=hid (yY M hs);have i:=hid (World.rangeAt_setCells_same w1 (w.heap.size+1) 0 (cb iw).toList l);have d:=hid (bX n (show w.heap.size<=w.heap.size+1 by omega) (cb iw).toList 0);rcases a.out with ⟨y,rfl⟩|⟨y,rfl⟩
  ·clear a;go_wp2_with (first|((with_reducible refine gst 28 ?_);refine wpList_store_mid rfl 28 _ _ rfl (w.heap.size+1) 0 (cb iw) rfl rfl l fq u ?_))
   exact ar (v:=.tuple #[.agg (cb iw),.iface 36 (.int .i64 8)]) (iO rfl rfl (run_loadVar_mid _ (w.heap.size+1) 0 28 (cb iw).toList _ i Tryz.underlying28 rfl fq) rfl) rfl ⟨iw,by rw[b.out];rfl,by rw[g.out];exact⟨fun _ _=>gT _,.inl rfl⟩,d.out⟩
  ·clear a;go_wp2_with (first|((with_reducible refine gst 28 ?_);refine wpList_store_mid rfl 28 _ _ rfl (w.heap.size+1) 0 (cb iw) rfl rfl l fq u ?_))
   exact ar (v:=.tuple #[.agg (cb iw),.iface 36 (.int .i64 8)]) (iO rfl rfl (run_loadVar_mid _ (w.heap.size+1) 0 28 (cb iw).toList _ i Tryz.underlying28 rfl fq) rfl) rfl ⟨iw,by rw[b.out];rfl,by rw[g.out];exact⟨fun _ _=>gT _,.inl rfl⟩,d.out⟩
 |true=>
 obtain rfl:=BU M hs;have HS:=hid (ui hs);have b:=hid (show dE p e=e by unfold dE;rw[hs];rfl);go_wp2_with (first|((with_reducible refine gld 28 ?_);refine hU oR _ rfl _ rfl V RG ?_))
 refine (Ax V p w1 (q.below n) E).mono ?_;rintro r w2 ⟨U,L,rfl,K,ab,J,c⟩;have s:=hid (aR w2 zW 28 w2.heap.size 11 rfl oD);have A:=hid (btr n c);have j:=hid (aB (Nat.succ_le_of_lt L1) ab);have T2:=hid (bU l c);have one:=hid (gm (K.v (sH q.ID)));have T:=hid (show DJ ((w2.alloc (.cells zW 28)).setCells w2.heap.size 0 (cb U).toList) w2.heap.size L U p from
  ⟨World.rangeAt_setCells_same _ w2.heap.size 0 (cb U).toList s,gS _ 0 _ s,nr (K.below (bal (ag _ w2) (.cells zW 28))) J _ 0,J,by rw[fp];simp⟩)
 have o:=hid (bX (bal A (.cells zW 28)) A.size (cb U).toList 0);have T3:=hid (gS (B:=w2.heap.size) (cb U).toList 0 _ (bU T2 (bal (ag _ w2) (.cells zW 28))));go_wp2_with (first|((with_reducible refine gst 28 ?_);refine wpList_store_mid rfl 28 _ _ rfl w2.heap.size 0 (cb U) rfl rfl s fq one ?_))
 generalize World.setCells _ _ _ _=W3 at*;refine (Z.out HS W3 w2.heap.size L U T (D.out _ o) (fun _ h=>D.out _ (o.trans (h.mono (by have:=j.out;omega))))).mono ?_;rintro r S ⟨rfl,I,h5⟩;have C:=hid (o.trans (I.mono (by have:=j.out;omega)));have m:=hid (sG T3 I (by have:=j.out;omega));have Y:=hid h5;by_cases k:e=0
 rotate_left
 ·have g:=hid (show dP p p' e=noP by unfold dP;rw[b.out,ae k]);have a:=hid (Hv k);have i:=hid (World.rangeAt_setCells_same S (w.heap.size+1) 0 (cb iw).toList m);have d:=hid (bX C (show w.heap.size<=w.heap.size+1 by omega) (cb iw).toList 0);rw[a.out];go_wp2_with (first|((with_reducible refine gst 28 ?_);refine wpList_store_mid rfl 28 _ _ rfl (w.heap.size+1) 0 (cb iw) rfl rfl m fq u ?_))
  exact ar (v:=.tuple #[.agg (cb iw),.iface 36 (.int .i64 e)]) (iO rfl rfl (run_loadVar_mid _ (w.heap.size+1) 0 28 (cb iw).toList _ i Tryz.underlying28 rfl fq) rfl) rfl ⟨iw,by rw[b.out,a.out],by rw[g.out];exact⟨fun _ _=>gT _,.inl rfl⟩,d.out⟩
 obtain⟨X,t⟩:=Y.out k;have a:=hid (show eV e=.nilIface by rw[k];rfl);have g:=hid (show dP p p' e=p' by unfold dP;rw[b.out,ah k]);have ac:=hid (gm t.f.v0);have aa:=hid t.r;have i:=hid (World.rangeAt_setCells_same S (w.heap.size+1) 0 (cb X).toList m);have d:=hid (bX C (show w.heap.size<=w.heap.size+1 by omega) (cb X).toList 0);have WX:=hid ((t.f.put (w.heap.size+1) 0 (cb X).toList (by have:=j.out;omega)).mono (show w.heap.size<=L 0 by have:=j.out;omega));rw[a.out];go_wp2_with (first|((with_reducible refine gld 28 ?_);refine hU oR _ rfl _ rfl X aa ?_)|((with_reducible refine gst 28 ?_);refine wpList_store_mid rfl 28 _ _ rfl (w.heap.size+1) 0 (cb X) rfl rfl m fq ac ?_))
 exact ar (v:=.tuple #[.agg (cb X),.nilIface]) (iO rfl rfl (run_loadVar_mid _ (w.heap.size+1) 0 28 (cb X).toList _ i Tryz.underlying28 rfl fq) rfl) rfl ⟨X,by rw[b.out,a.out],by rw[g.out];exact WX,d.out⟩
theorem GI {p:PW} {e:Int} (h:mf p=true):dE p e=e:=by unfold dE;rw[h];rfl
def gI (p:PW) (n:Int):Int:=if fT p n then (if (p.IB.getD n.toNat fC) 0=0 then 6 else 0) else 2
theorem mH (vb:Nat) (V:Nat->Value) (p:PW) (n:Int) (w:World) (b:ei w vb V p):
  Calls Tryz.prog 36 #[.pointer (some ⟨vb,0,none⟩),.int .i64 n] w fun r w'=>r=.returned (.int .i64 (gI p n))∧w=w':=by
 have c2:=r11 2 b.r;have c1:=r11 1 b.r;obtain⟨D,b2,C,o,e2,i,k⟩:=b.v.IB;obtain⟨q1,b1,B,m,e1,z,A⟩:=b.v.kinds;have x:(p.IB.length:Int)<=1000:=by have:=b.f.IB;omega
 have u:(p.kinds.length:Int)<=1000:=by have:=b.f.kinds;omega
 cases hs:fT p n with
 |false=>
  have a:=hid (show gI p n=2 by unfold gI;rw[hs];rfl);have g:=hid hs;have h:=dp hs;by_cases c:n<0
  ·clear h;go_enter Tryz.func36,Tryz.ntmps36
   go_wp2_with fail
   go_ret
   exact⟨by rw[a.out];rfl,rfl⟩
  ·have s:(p.IB.length:Int)<=n:=oA;go_enter Tryz.func36,Tryz.ntmps36
   go_wp2_with fail
   go_ret
   exact⟨by rw[a.out];rfl,rfl⟩
 |true=>
  obtain⟨j,rfl,e⟩:=gr hs;have g:=hid hs;have t:(j:Int)<(p.IB.length:Int):=oA;obtain rfl:=i oA;have l:=iN (k j e) (dm 7 _ 0 oA);have d:=hid (show gI p j=if p.IB[j] 0=0 then 6 else 0 by unfold gI;rw[hs,ah rfl,af,aa,ac e];rfl);generalize p.IB[j] 0=y at l d;have n0:¬((j:Int)<0):=oA;have n1:¬((p.IB.length:Int)<=(j:Int)):=oA;by_cases c:y=0
  ·subst c;have a:=hid (show gI p j=6 by rw[d.out];rfl);go_enter Tryz.func36,Tryz.ntmps36
   go_wp2_with fail
   go_ret
   exact⟨by rw[a.out];rfl,rfl⟩
  ·have a:=hid (show gI p j=0 by rw[d.out,ae c]);have q:(y==0)=false:=by simpa using c
   go_enter Tryz.func36,Tryz.ntmps36
   go_wp2_with fail
   go_ret
   exact⟨by rw[a.out];rfl,rfl⟩
def spl:List Value->Nat->List Value->List Value
 |xs,_,[]=>xs
 |xs,o,v::r=>spl (xs.set o v) (o+1) r
theorem yi:∀(b xs:List Value) (o j:Nat),(spl xs o b)[j]? =if o<=j∧j<o+b.length∧j<xs.length then b[j - o]? else xs[j]?
 |[],xs,o,j=>by
  rw[spl,ae (by simp;omega)]
 |v::r,xs,o,j=>by
  rw[spl,yi r (xs.set o v) (o+1) j];simp only[au,eh];by_cases c:o=j
  ·subst c;rw[ae oA];by_cases a:o<xs.length
   ·rw[ah ⟨aq _,oA,a⟩,dt a,Nat.sub_self];rfl
   ·rw[ae oA,aH (by simp;omega),aH oA]
  ·rw[cM c];by_cases a:o+1<=j∧j<o+1+r.length∧j<xs.length
   ·rw[ah a,ah ⟨oA,oA,a.2.2⟩,show j - o=(j - (o+1))+1 by omega];rfl
   ·rw[ae a,ae oA]
theorem tY {base e size g n cap:Nat}:∀(a:List Value) (o:Nat) (w:World) (xs:List Value),w.ownsRow base e size (.slice (some ⟨g,0,none⟩) n cap) n xs->(w.setCells g o a).ownsRow base e size (.slice (some ⟨g,0,none⟩) n cap) n (spl xs o a)
 |[],_,_,_,h=>h
 |v::r,o,w,xs,h=>by
  rw[World.setCells,spl];exact tY r (o+1) _ _ (h.stored o v).1
theorem qU (n:Nat) (a:0<n) (fs:List (Nat->Int)) (i:Nat) (hi:i<fs.length) (f:Nat->Int):spl (fo n fs) (i*n) (cf n f)=fo n (fs.set i f):=by
 apply List.ext_getElem?;intro j;rw[yi,az];have hl:=gF n fs;have m:(fo n (fs.set i f)).length=fs.length*n:=by rw[gF,au]
 by_cases l:j<fs.length*n
 ·have e:j=j/n*n+j%n:=by rw[Nat.mul_comm];exact (Nat.div_add_mod j n).symm
  have d:=(Nat.div_lt_iff_lt_mul a).2 l;have b:j%n<n:=Nat.mod_lt _ a;have a1:=i6 n fs (j/n) (j%n) d b;have c:=i6 n (fs.set i f) (j/n) (j%n) (by rw[au];exact d) b;rw[<-e] at a1 c;rw[a1,c];by_cases h:j/n=i
  ·have e2:j - i*n=j%n:=by rw[<-h];omega
   rw[ah (by rw[hl, <-h];omega),e2,dm n f _ b];subst h;rw[eG]
  ·rw[ae (by
    intro hh;apply h;have g:=hh.1;have k:j<(i+1)*n:=by rw[Nat.succ_mul];exact hh.2.1
    exact Nat.le_antisymm (Nat.lt_succ_iff.1 ((Nat.div_lt_iff_lt_mul a).2 k)) ((Nat.le_div_iff_mul_le a).2 g))]
   rw[List.getElem_set_ne (fun e=>h e.symm)]
 ·rw[ae (by rw[hl];omega),aH (by rw[hl];omega),aH (by rw[m];omega)]
theorem gB.J3 {w:World} {L:Nat->Nat} {v:Nat->Value} {p:PW} (h:gB w L v p):∀d j,j+d<=10->L j<=L (j+d)
 |0,_,_=>aq _
 |d+1,j,hj=>aB (h.J3 d j oA) (h.mono (j+d) oA)
theorem di.IE {W b:World} {wb:Nat} {tag tag':Nat->Nat} {V:Nat->Value} {p:PW} (h:di W wb tag V p) (k:Kp (fun k=>tag k=2) W b) (a:∀k,k<W.heap.size->tag' k=tag k) {x:List Int} (n:InT b tag' 2 3 1 (V 0) (x.length,d6 x)):di b wb tag' V {p with IE:=x}:=
 ⟨eY h.r k (by rw[h.g];decide),eo h.t k (by rw[h.g];decide),(a wb h.lt).trans h.g,⟨n,h.o.kinds.kp k a (fun k e=>oA),h.o.IB.kp k a (fun k e=>oA),h.o.IA.kp k a (fun k e=>oA),h.o.lines.kp k a (fun k e=>by rcases e with e|⟨i,e⟩<;>omega),h.o.bits.kp k a (fun k e=>oA),h.o.IC.kp k a (fun k e=>oA),h.o.ready.kp k a (fun k e=>by rcases e with e|⟨i,e⟩<;>omega),h.o.ID.kp k a (fun k e=>by rcases e with e|⟨i,e⟩<;>omega),h.o.IF.kp k a (fun k e=>oA),h.o.time⟩⟩
theorem di.kinds {W b:World} {wb:Nat} {tag tag':Nat->Nat} {V:Nat->Value} {p:PW} (h:di W wb tag V p) (k:Kp (fun k=>tag k=3) W b) (a:∀k,k<W.heap.size->tag' k=tag k) {x:List Int} (n:InT b tag' 3 3 1 (V 1) (x.length,d6 x)):di b wb tag' V {p with kinds:=x}:=
 ⟨eY h.r k (by rw[h.g];decide),eo h.t k (by rw[h.g];decide),(a wb h.lt).trans h.g,⟨h.o.IE.kp k a (fun k e=>oA),n,h.o.IB.kp k a (fun k e=>oA),h.o.IA.kp k a (fun k e=>oA),h.o.lines.kp k a (fun k e=>by rcases e with e|⟨i,e⟩<;>omega),h.o.bits.kp k a (fun k e=>oA),h.o.IC.kp k a (fun k e=>oA),h.o.ready.kp k a (fun k e=>by rcases e with e|⟨i,e⟩<;>omega),h.o.ID.kp k a (fun k e=>by rcases e with e|⟨i,e⟩<;>omega),h.o.IF.kp k a (fun k e=>oA),h.o.time⟩⟩
theorem di.IB {W b:World} {wb:Nat} {tag tag':Nat->Nat} {V:Nat->Value} {p:PW} (h:di W wb tag V p) (k:Kp (fun k=>tag k=4) W b) (a:∀k,k<W.heap.size->tag' k=tag k) {x:List (Nat->Int)} (n:InT b tag' 4 80 7 (V 2) (x.length,fo 7 x)):di b wb tag' V {p with IB:=x}:=
 ⟨eY h.r k (by rw[h.g];decide),eo h.t k (by rw[h.g];decide),(a wb h.lt).trans h.g,⟨h.o.IE.kp k a (fun k e=>oA),h.o.kinds.kp k a (fun k e=>oA),n,h.o.IA.kp k a (fun k e=>oA),h.o.lines.kp k a (fun k e=>by rcases e with e|⟨i,e⟩<;>omega),h.o.bits.kp k a (fun k e=>oA),h.o.IC.kp k a (fun k e=>oA),h.o.ready.kp k a (fun k e=>by rcases e with e|⟨i,e⟩<;>omega),h.o.ID.kp k a (fun k e=>by rcases e with e|⟨i,e⟩<;>omega),h.o.IF.kp k a (fun k e=>oA),h.o.time⟩⟩
theorem di.ID {W b:World} {wb:Nat} {tag tag':Nat->Nat} {V:Nat->Value} {p:PW} (h:di W wb tag V p) (k:Kp (fun k=>tag k=10∨∃j,tag k=14+3*j) W b) (a:∀k,k<W.heap.size->tag' k=tag k) {x:List (List Ent)} (n:kT b tag' x.length (V 8) x):di b wb tag' V {p with ID:=x}:=
 ⟨eY h.r k (by rw[h.g];rintro (h|⟨j,h⟩)<;>omega),eo h.t k (by rw[h.g];rintro (h|⟨j,h⟩)<;>omega),(a wb h.lt).trans h.g,⟨h.o.IE.kp k a (fun k e=>by rintro (h|⟨j,h⟩)<;>omega),h.o.kinds.kp k a (fun k e=>by rintro (h|⟨j,h⟩)<;>omega),h.o.IB.kp k a (fun k e=>by rintro (h|⟨j,h⟩)<;>omega),h.o.IA.kp k a (fun k e=>by rintro (h|⟨j,h⟩)<;>omega),h.o.lines.kp k a (fun k e=>by rintro (h|⟨j,h⟩)<;>rcases e with e|⟨i,e⟩<;>omega),h.o.bits.kp k a (fun k e=>by rintro (h|⟨j,h⟩)<;>omega),h.o.IC.kp k a (fun k e=>by rintro (h|⟨j,h⟩)<;>omega),h.o.ready.kp k a (fun k e=>by rintro (h|⟨j,h⟩)<;>rcases e with e|⟨i,e⟩<;>omega),n,h.o.IF.kp k a (fun k e=>by rintro (h|⟨j,h⟩)<;>omega),h.o.time⟩⟩
theorem InT.cells {w:World} {tag:Nat->Nat} {t I s n g cap:Nat} {xs:List Value} (h:InT w tag t I s (.slice (some ⟨g,0,none⟩) n cap) (n,xs)) (o:Nat) (a:List Value):InT (w.setCells g o a) tag t I s (.slice (some ⟨g,0,none⟩) n cap) (n,spl xs o a)∧Kp (fun k=>tag k=t) w (w.setCells g o a):=
 ⟨⟨tY a o w xs h.1,h.2⟩,sh (T:=fun k=>tag k=t) a o w (h.2 g rfl)⟩
theorem InT.there {w:World} {tag:Nat->Nat} {t I s n g cap:Nat} {xs:List Value} (h:InT w tag t I s (.slice (some ⟨g,0,none⟩) n cap) (n,xs)) (o m:Nat) (d:o+m<=n*s):w.there g o m:=fun j c=>by
 refine⟨?_,h.1.frozenAt _⟩;have hl:xs.length=n*s:=h.1.1;have a:o+j<n*s:=oA;have b:w.cell? ⟨g,o+j,none⟩=xs[o+j]? :=h.1.cellAt (o+j) a;rw[b,ac oA];rfl
theorem di.Jf {W:World} {wb:Nat} {tag:Nat->Nat} {V:Nat->Value} {p:PW} (h:di W wb tag V p) {g cap:Nat} (e:V 2=.slice (some ⟨g,0,none⟩) p.IB.length cap) {i k:Nat} (hi:i<p.IB.length) (hk:k<7) (x:Int):
  di (W.setCell ⟨g,i*7+k,none⟩ (.int .i64 x)) wb tag V {p with IB:=p.IB.set i (upd p.IB[i] k x)}∧Kt tag tag W (W.setCell ⟨g,i*7+k,none⟩ (.int .i64 x)):=by
 have a:=h.o.IB;rw[e] at a;obtain⟨b,c⟩:=a.cell (i*7+k) (.int .i64 x);rw[oz 7 oD p.IB i k hi hk x] at b;refine⟨h.IB c (fun _ _=>rfl) ?_,.of c (fun k e=>oA) (fun _ _=>rfl)⟩;rw[au,e];exact b
theorem di.IV {W:World} {wb:Nat} {tag:Nat->Nat} {V:Nat->Value} {p:PW} (h:di W wb tag V p) {g cap:Nat} (e:V 2=.slice (some ⟨g,0,none⟩) p.IB.length cap) {i:Nat} (hi:i<p.IB.length) (f:Nat->Int):
  di (W.setCells g (i*7) (cf 7 f)) wb tag V {p with IB:=p.IB.set i f}∧Kt tag tag W (W.setCells g (i*7) (cf 7 f)):=by
 have a:=h.o.IB;rw[e] at a;obtain⟨b,c⟩:=a.cells (i*7) (cf 7 f);rw[qU 7 oD p.IB i hi f] at b;refine⟨h.IB c (fun _ _=>rfl) ?_,.of c (fun k e=>oA) (fun _ _=>rfl)⟩;rw[au,e];exact b
theorem di.Jq {W:World} {wb:Nat} {tag:Nat->Nat} {V:Nat->Value} {p:PW} (h:di W wb tag V p) {g cap:Nat} (e:V 3=.slice (some ⟨g,0,none⟩) p.IA.length cap) {i:Nat} (hi:i<p.IA.length) (f:Nat->Int):
  di (W.setCells g (i*20) (cf 20 f)) wb tag V {p with IA:=p.IA.set i f}∧Kt tag tag W (W.setCells g (i*20) (cf 20 f)):=by
 have a:=h.o.IA;rw[e] at a;obtain⟨b,c⟩:=a.cells (i*20) (cf 20 f);rw[qU 20 oD p.IA i hi f] at b;refine⟨h.IA c (fun _ _=>rfl) ?_,.of c (fun k e=>oA) (fun _ _=>rfl)⟩;rw[au,e];exact b
theorem di.IS {W:World} {wb:Nat} {tag:Nat->Nat} {V:Nat->Value} {p:PW} (h:di W wb tag V p) {g cap:Nat} (e:V 0=.slice (some ⟨g,0,none⟩) p.IE.length cap) (i:Nat) (x:Int):
  di (W.setCell ⟨g,i,none⟩ (.int .i64 x)) wb tag V {p with IE:=p.IE.set i x}∧Kt tag tag W (W.setCell ⟨g,i,none⟩ (.int .i64 x)):=by
 have a:=h.o.IE;rw[e] at a;obtain⟨b,c⟩:=a.cell i (.int .i64 x);rw[ints_set] at b;refine⟨h.IE c (fun _ _=>rfl) ?_,.of c (fun k e=>oA) (fun _ _=>rfl)⟩;rw[au,e];exact b
theorem di.IL {W:World} {wb:Nat} {tag:Nat->Nat} {V:Nat->Value} {p:PW} (h:di W wb tag V p) {g cap:Nat} (e:V 1=.slice (some ⟨g,0,none⟩) p.kinds.length cap) (i:Nat) (x:Int):
  di (W.setCell ⟨g,i,none⟩ (.int .i64 x)) wb tag V {p with kinds:=p.kinds.set i x}∧Kt tag tag W (W.setCell ⟨g,i,none⟩ (.int .i64 x)):=by
 have a:=h.o.kinds;rw[e] at a;obtain⟨b,c⟩:=a.cell i (.int .i64 x);rw[ints_set] at b;refine⟨h.kinds c (fun _ _=>rfl) ?_,.of c (fun k e=>oA) (fun _ _=>rfl)⟩;rw[au,e];exact b
theorem di.IU {W:World} {wb:Nat} {tag:Nat->Nat} {V:Nat->Value} {p:PW} (h:di W wb tag V p) {g cap:Nat} (e:V 2=.slice (some ⟨g,0,none⟩) p.IB.length cap) {i k:Nat} (hi:i<p.IB.length) (hk:k<7):W.cell? ⟨g,i*7+k,none⟩=some (.int .i64 (p.IB[i] k)):=by
 have a:=h.o.IB;rw[e] at a;exact a.range hi k _ (dm 7 _ k hk)
theorem di.JJ {W:World} {wb:Nat} {tag:Nat->Nat} {V:Nat->Value} {p:PW} (h:di W wb tag V p) {g cap:Nat} (e:V 2=.slice (some ⟨g,0,none⟩) p.IB.length cap) (o:Nat):W.frozen? ⟨g,o,none⟩=false:=by
 have a:=h.o.IB;rw[e] at a;exact a.frozen o
section
variable {P : Program} {ops : Array Oper} {Q : Exit -> Act -> World -> Prop} {md : Region.Mode} {S R : World -> Prop} {fs : List Nat}
end
def nF (a b:Int) (f:Nat->Int):Nat->Int:=if f 6=a then upd f 6 b else f
def hnd (a b:Int) (fs:List (Nat->Int)):List (Nat->Int):=fs.map (nF a b)
def lT (a b:Int) (k:Nat) (fs:List (Nat->Int)):List (Nat->Int):=(fs.take k).map (nF a b)++fs.drop k
theorem o8 (a b:Int) (k:Nat) (fs:List (Nat->Int)):(lT a b k fs).length=fs.length:=by
 unfold lT;simp;omega
theorem wv (a b:Int) (fs:List (Nat->Int)):lT a b 0 fs=fs:=by simp[lT]
theorem zv (a b:Int) (fs:List (Nat->Int)):lT a b fs.length fs=hnd a b fs:=by simp[lT,hnd]
theorem sd (a b:Int) (k:Nat) (fs:List (Nat->Int)) (hk:k<fs.length) (h:k<(lT a b k fs).length):(lT a b k fs)[k]=fs[k]:=by
 have e:(lT a b k fs)[k]? =fs[k]? :=by
  unfold lT;rw[dV (by simp;omega),dQ]
  congr 1
  simp;omega
 rw[ac h,ac hk] at e;exact aL e
theorem qo (a b:Int) (k:Nat) (fs:List (Nat->Int)) (hk:k<fs.length):lT a b (k+1) fs=(lT a b k fs).set k (nF a b fs[k]):=by
 unfold lT;have e:k - (List.map (nF a b) (List.take k fs)).length=0:=by simp;omega
 rw[List.take_add_one,ac hk,ew,List.set_append,ae (by simp;omega),e];simp only[Option.toList_some,aW,fe,List.append_assoc,List.cons_append,eI];rw[List.drop_eq_getElem_cons hk];rfl
theorem zw {a b:Int} {k:Nat} {fs:List (Nat->Int)} (hk:k<fs.length) (h:k<(lT a b k fs).length) (c:fs[k] 6=a):(lT a b k fs).set k (upd (lT a b k fs)[k] 6 b)=lT a b (k+1) fs:=by
 rw[qo a b k fs hk,sd a b k fs hk h];unfold nF;rw[ah c]
theorem wu {a b:Int} {k:Nat} {fs:List (Nat->Int)} (hk:k<fs.length) (c:¬fs[k] 6=a):lT a b k fs=lT a b (k+1) fs:=by
 have h:k<(lT a b k fs).length:=by rw[o8];exact hk
 rw[qo a b k fs hk];unfold nF;rw[ae c, <-sd a b k fs hk h,cF]
theorem uv (wb:Nat) (tag:Nat->Nat) (V:Nat->Value) (p:PW) (a b:Int) (W:World) (bt:di W wb tag V p) (hl:p.IB.length<=1000):
  Calls Tryz.prog 35 #[.pointer (some ⟨wb,0,none⟩),.int .i64 a,.int .i64 b] W fun r W'=>r=.returned (.tuple #[])∧di W' wb tag V {p with IB:=hnd a b p.IB}∧Kt tag tag W W':=by
 obtain⟨E,g,cap,e2,x⟩:=bt.o.IB.shape;have q:=hid bt;have t:=hid x;have h:=hid e2;have C:(p.IB.length:Int)<=1000:=oA;go_enter Tryz.func35,Tryz.ntmps35
 go_wp2_with fail
 go_loopw [6] (fun i wr=>∃(k:Nat),k<=p.IB.length∧i=.int .i64 k∧Hid (di wr wb tag V {p with IB:=lT a b k p.IB})∧Hid (Kt tag tag W wr)) (fun i _=>p.IB.length - (intOf i).toNat)
 case atStart=>exact⟨0,oA,rfl,hid (by rw[wv];exact q),hid (eO _ _)⟩
 case round=>
  obtain⟨k,hk,rfl,c,j⟩:=hrel;by_cases f:k<p.IB.length
  ·have D:(k:Int)<(p.IB.length:Int):=oA;have z:=t.out oA;subst z;have m:k<(lT a b k p.IB).length:=by rw[o8];exact f
   have l:V 2=.slice (some ⟨g,0,none⟩) (lT a b k p.IB).length cap:=by rw[o8];exact h
   have c2:=bh c h;have n:=c.IU l m (show 6<7 by omega);have A:=c.JJ l (k*7+6);simp only[sd a b k p.IB f] at n;by_cases e:p.IB[k] 6=a
   ·obtain⟨w,v⟩:=c.Jf l m (show 6<7 by omega) b;have d:=hid (show di (wr.setCell ⟨g,k*7+6,none⟩ (.int .i64 b)) wb tag V {p with IB:=lT a b (k+1) p.IB} by rw[<-zw f m e];exact w);have s:=hid (j.trans v);rw[e] at n;go_wp2_with fail
    exact⟨⟨k+1,oA,by go_num,d,s⟩,by simp[intOf];omega⟩
   ·have d:=hid (show di wr wb tag V {p with IB:=lT a b (k+1) p.IB} by rw[<-wu f e];exact c);have u:(p.IB[k] 6==a)=false:=by simpa using e
    generalize p.IB[k] 6=y at n u;go_wp2_with fail
    exact⟨⟨k+1,oA,by go_num,d,j⟩,by simp[intOf];omega⟩
  ·obtain rfl:k=p.IB.length:=oA;have c2:=bh c h;have B:¬((p.IB.length:Int)<(p.IB.length:Int)):=oA;have d:=hid (show di wr wb tag V {p with IB:=hnd a b p.IB} by rw[<-zv];exact c);go_wp2_with fail
   exact aT (aI rfl _ _ _) rfl ⟨rfl,d.out,j.out⟩
def eS:Nat->Int:=fun k=>if k=6 then -1 else 0
theorem nY:(Tryz.prog.info? 80).map (·.size)=some 7:=oK
theorem rE {ops:Array Oper} {rest:List Oper} {op:Oper} {a:Act} {w:World} {Q:Exit->Act->World->Prop} (d:op.guard=none) (x y:Operand) (e:op.op=.store 80 x y)
  (b o:Nat) (g:a.eval x=.pointer (some ⟨b,o,none⟩)) (cs:List Value) (i:a.eval y=.agg cs.toArray) (hl:cs.length=7) (c:∀v∈cs,v.oneCell'=true) (f:w.there b o 7)
  (h:wpList Tryz.prog ops Q rest (a.put op.dst undef) (w.setCells b o cs)):wpList Tryz.prog ops Q (op::rest) a w:=
 wpList_store_mid d 80 x y e b o cs.toArray g i (by simpa [hl] using f) (by rw[nY];simp[hl]) (all_oneCell_toArray c) (by simpa using h)
theorem F5 {ops:Array Oper} {rest:List Oper} {op:Oper} {a:Act} {w:World} {Q:Exit->Act->World->Prop} (d:op.guard=none) (x:Operand) (e:op.op=.load 80 x)
  (b o:Nat) (f:a.eval x=.pointer (some ⟨b,o,none⟩)) (cs:List Value) (hl:cs.length=7) (c:w.rangeAt b o cs)
  (h:wpList Tryz.prog ops Q rest (a.put op.dst (.agg cs.toArray)) w):wpList Tryz.prog ops Q (op::rest) a w:=
 wpList_load_mid d 80 x e b o f cs _ c Tryz.underlying80 rfl (by rw[nY,hl]) h
def frm (p:PW) (n:Int):Bool:=p.IB.any (fun f=>f 6==n)
def clE (p:PW) (n:Int):Int:=if gI p n=0 then (if (p.IB.getD n.toNat fC) 0=1 then 0 else 3) else gI p n
def usV (p:PW) (n:Int):Int:=if frm p n=true then (p.IB.getD n.toNat fC) 3 else 0
theorem qp:(Tryz.prog.info? 78).map (·.size)=some 6:=oK
theorem EU {p:PW} {n:Int} (h:gI p n=0):∃j:Nat,n=j∧j<p.IB.length:=by
 unfold gI at h
 cases hs:fT p n with
 |false=>rw[hs] at h;cases h
 |true=>exact gr hs
def usd (p:PW) (t m:Nat):Bool:=((p.IB.drop t).take m).any (fun f=>f 0 !=0)
def fcE (p:PW) (t:Nat) (m:Int):Int:=if p.kinds.getD (t/16) 0=5 then (if dH 1 (16 - (t:Int)%16) m=true then (if usd p t m.toNat=true then 12 else 0) else 2) else 3
theorem rH (vb:Nat) (V:Nat->Value) (p:PW) (n:Int) (w:World) (c:ei w vb V p):
  Calls Tryz.prog 38 #[.pointer (some ⟨vb,0,none⟩),.int .i64 n] w fun r w'=>r=.returned (.bool (frm p n))∧w=w':=by
 have c2:=r11 2 c.r;obtain⟨E,b2,D,z,e2,s,u⟩:=c.v.IB;have B:(p.IB.length:Int)<=1000:=by have:=c.f.IB;omega
 rw[e2] at c2;have o:=hid s;have q:=hid u;go_enter Tryz.func38,Tryz.ntmps38
 go_wp2_with fail
 go_loopw [5] (fun i wr=>∃(k:Nat),k<=p.IB.length∧i=.int .i64 k∧w=wr∧Hid (∀j (a:j<p.IB.length),j<k->(p.IB[j] 6==n)=false)) (fun i _=>p.IB.length - (intOf i).toNat)
 case atStart=>exact⟨0,oA,rfl,rfl,hid (fun j _ h=>oA)⟩
 case round=>
  obtain⟨k,hk,rfl,rfl,d⟩:=hrel;by_cases g:k<p.IB.length
  ·have C:(k:Int)<(p.IB.length:Int):=oA;obtain rfl:=o.out oA;have l:=cS (q.out k g) (dm 7 _ 6 oA)
   cases h6:(p.IB[k] 6==n) with
   |true=>
    have b:=hid (show frm p n=true from List.any_eq_true.2 ⟨p.IB[k],av g,h6⟩);generalize p.IB[k] 6=y at l h6;go_wp2_with fail
    go_ret
    exact⟨by rw[b.out];rfl,rfl⟩
   |false=>
    have m:=hid (show ∀j (a:j<p.IB.length),j<k+1->(p.IB[j] 6==n)=false from fun j a h=>by
     by_cases e:j=k
     ·subst e;exact h6
     ·exact d j a oA)
    generalize p.IB[k] 6=y at l h6;go_wp2_with fail
    exact⟨⟨k+1,oA,by go_num,by first|rfl|trivial,m⟩,by simp[intOf];omega⟩
  ·obtain rfl:k=p.IB.length:=oA;have A:¬((p.IB.length:Int)<(p.IB.length:Int)):=oA;have b:=hid (show frm p n=false by
    unfold frm;rw[bR];intro x t;obtain⟨j,a,rfl⟩:=dY t;rw[d.out j a a]
    decide)
   go_wp2_with fail
   go_ret
   exact⟨by rw[b.out];rfl,rfl⟩
def zr (n:Nat) (l:List Int) (a:Nat):List Int:=if h:n=0 then l else zr (n - 1) (l.set a 0) (a+1)
theorem lD (l:List Int) (a:Nat):zr 0 l a=l:=by rw[zr,dif_pos rfl]
theorem lC (n:Nat) (l:List Int) (a:Nat):zr (n+1) l a=zr n (l.set a 0) (a+1):=by rw[zr,dif_neg (Nat.succ_ne_zero n),Nat.add_sub_cancel]
theorem ny:∀(n:Nat) (l:List Int) (a:Nat),(zr n l a).length=l.length
 |0,l,a=>by rw[lD]
 |n+1,l,a=>by rw[lC,ny n,au]
theorem yF:∀(n:Nat) (l:List Int) (a:Nat),zr (n+1) l a=(zr n l a).set (a+n) 0
 |0,l,a=>by rw[lC,lD,lD,bO]
 |n+1,l,a=>by rw[lC,yF n,lC n,show a+1+n=a+(n+1) by omega]
def shP (p:PW) (f:Nat) (k:Int):PW:={p with kinds:=p.kinds.set f k,IE:=zr 16 p.IE (f*16)}
theorem di.I8 {W:World} {wb:Nat} {tag:Nat->Nat} {V:Nat->Value} {p:PW} (h:di W wb tag V p) {g cap:Nat} (e:V 1=.slice (some ⟨g,0,none⟩) p.kinds.length cap) (o m:Nat) (b:o+m<=p.kinds.length):W.there g o m:=by
 have a:=h.o.kinds;rw[e] at a;exact a.there o m oA
theorem di.Jm {W:World} {wb:Nat} {tag:Nat->Nat} {V:Nat->Value} {p:PW} (h:di W wb tag V p) {g cap:Nat} (e:V 0=.slice (some ⟨g,0,none⟩) p.IE.length cap) (o m:Nat) (b:o+m<=p.IE.length):W.there g o m:=by
 have a:=h.o.IE;rw[e] at a;exact a.there o m oA
def jh (tag:Nat->Nat) (c k:Nat):Nat:=if k<c then tag k else 0
theorem ke {tag:Nat->Nat} {c k:Nat} (h:k<c):jh tag c k=tag k:=ah h
theorem iP {W:World} {wb:Nat} {tag:Nat->Nat} {V:Nat->Value} {p:PW} (h:di W wb tag V p):di W wb (jh tag W.heap.size) V p∧Kt tag (jh tag W.heap.size) W W:=
 ⟨h.kp (T:=fun _=>False) (aV _ _) (fun _ _ e=>e.elim) (fun _ hk=>ke hk),Kt.of (T:=fun _=>False) (aV _ _) (fun _ e=>e.elim) (fun _ hk=>ke hk)⟩
theorem Kt.JT {tag tag':Nat->Nat} {W X:World} (h:Kt tag tag' W X) {b o:Nat} (d:W.heap.size<=b) (v:Value):Kt tag tag' W (X.setCell ⟨b,o,none⟩ v):=by
 have a:=(ag 0 X).setCell (p:=⟨b,o,none⟩) (bN _) v;exact⟨⟨a.os.trans h.k.os,a.tape.trans h.k.tape,a.output.trans h.k.output,aB h.k.size a.size,fun i hi c=>(Below.heap_setCell X ⟨b,o,none⟩ v i (show i≠b by omega)).trans (h.k.block i hi c)⟩,h.t⟩
theorem Kt.there {tag tag':Nat->Nat} {W X:World} (h:Kt tag tag' W X) {b n:Nat} (c:W.there b 0 n) (a:tag b=0):X.there b 0 n:=eo c h.k (fun e=>e a)
theorem xT {W:World} {b:Nat} {f:Nat->Int} (h:W.rangeAt b 0 (cf 6 f)) (x:Int):(W.setCell ⟨b,3,none⟩ (.int .i64 x)).rangeAt b 0 (cf 6 (upd f 3 x)):=fun o v a=>by
 have g:o<6:=by
  have:=(List.getElem?_eq_some_iff.1 a).1
  rwa [az] at this
 rw[dm 6 _ o g] at a;have c:=h o _ (dm 6 f o g);have d:=h 3 _ (dm 6 f 3 oA);rw[aC] at c d ⊢;by_cases e:o=3
 ·subst e;rw[<-a];exact dC _ _ _ d
 ·rw[<-a,aQ _ _ _ _ (by intro e2;cases e2;exact e rfl),c];unfold upd;rw[ae e]
theorem hJ {ops:Array Oper} {rest:List Oper} {op:Oper} {a:Act} {w:World} {Q:Exit->Act->World->Prop} (d:op.guard=none) (x y:Operand) (e:op.op=.store 78 x y)
  (b o:Nat) (g:a.eval x=.pointer (some ⟨b,o,none⟩)) (cs:List Value) (i:a.eval y=.agg cs.toArray) (hl:cs.length=6) (c:∀v∈cs,v.oneCell'=true) (f:w.there b o 6)
  (h:wpList Tryz.prog ops Q rest (a.put op.dst undef) (w.setCells b o cs)):wpList Tryz.prog ops Q (op::rest) a w:=
 wpList_store_mid d 78 x y e b o cs.toArray g i (by simpa [hl] using f) (by rw[qp];simp[hl]) (all_oneCell_toArray c) (by simpa using h)
theorem uA {ops:Array Oper} {rest:List Oper} {op:Oper} {a:Act} {w:World} {Q:Exit->Act->World->Prop} (d:op.guard=none) (x:Operand) (e:op.op=.load 78 x)
  (b o:Nat) (f:a.eval x=.pointer (some ⟨b,o,none⟩)) (cs:List Value) (hl:cs.length=6) (c:w.rangeAt b o cs)
  (h:wpList Tryz.prog ops Q rest (a.put op.dst (.agg cs.toArray)) w):wpList Tryz.prog ops Q (op::rest) a w:=
 wpList_load_mid d 78 x e b o f cs _ c Tryz.underlying78 rfl (by rw[qp,hl]) h
theorem uc {W:World} {b o:Nat} {f:Nat->Int} (h:W.rangeAt b o (cf 7 f)):W.rangeAt b o (cf 6 f):=fun j v a=>h j v (by
 have c:j<6:=by
  have:=(List.getElem?_eq_some_iff.1 a).1
  rwa [az] at this
 rw[dm 6 f j c] at a;rw[dm 7 f j oA];exact a)
theorem di.Jg {wb:Nat} {tag:Nat->Nat} {V:Nat->Value} {g cap i:Nat} (f:Nat->Int):∀(n a:Nat) (p:PW) (W:World),a+n<=7->di W wb tag V p->V 2=.slice (some ⟨g,0,none⟩) p.IB.length cap->(hi:i<p.IB.length)->di (W.setCells g (i*7+a) ((List.range' a n).map fun k=>.int .i64 (f k))) wb tag V {p with IB:=p.IB.set i (fun k=>if a<=k∧k<a+n then f k else p.IB[i] k)}∧Kt tag tag W (W.setCells g (i*7+a) ((List.range' a n).map fun k=>.int .i64 (f k)))
 |0,a,p,W,_,h,_,hi=>by
  refine⟨?_,eO _ _⟩;have e:(fun k=>if a<=k∧k<a+0 then f k else p.IB[i] k)=p.IB[i]:=by
   funext k
   rw[ae oA]
  rw[e,cF];exact h
 |n+1,a,p,W,hn,h,e,hi=>by
  rw[List.range'_succ,aW,World.setCells];obtain⟨d,k1⟩:=h.Jf e hi (show a<7 by omega) (f a);have l:i<(p.IB.set i (upd p.IB[i] a (f a))).length:=by rw[au];exact hi
  obtain⟨j,k2⟩:=di.Jg f n (a+1) {p with IB:=p.IB.set i (upd p.IB[i] a (f a))} _ oA d (by rw[au];exact e) l;refine⟨?_,k1.trans k2⟩;have e2:(p.IB.set i (upd p.IB[i] a (f a))).set i (fun k=>if a+1<=k∧k<a+1+n then f k else (p.IB.set i (upd p.IB[i] a (f a)))[i] k)=p.IB.set i (fun k=>if a<=k∧k<a+(n+1) then f k else p.IB[i] k):=by
   rw[eC]
   congr 1
   funext k
   rw[eG];unfold upd;by_cases b:a<=k∧k<a+(n+1)
   ·rw[ah b];by_cases c:k=a
    ·rw[ae oA,ah c,c]
    ·rw[ah oA]
   ·rw[ae b,ae oA,ae oA]
  rw[<-e2];exact j
theorem di.JF {W:World} {wb:Nat} {tag:Nat->Nat} {V:Nat->Value} {p:PW} (h:di W wb tag V p) {g cap:Nat} (e:V 2=.slice (some ⟨g,0,none⟩) p.IB.length cap) {i:Nat} (hi:i<p.IB.length) (f:Nat->Int) (c:f 6=p.IB[i] 6) (d:∀k,7<=k->f k=p.IB[i] k):
  di (W.setCells g (i*7) (cf 6 f)) wb tag V {p with IB:=p.IB.set i f}∧Kt tag tag W (W.setCells g (i*7) (cf 6 f)):=by
 have a:=di.Jg (i:=i) f 6 0 p W oA h e hi;have e1:((List.range' 0 6).map fun k=>Value.int .i64 (f k))=cf 6 f:=rfl;have e2:(fun k=>if 0<=k∧k<0+6 then f k else p.IB[i] k)=f:=by
  funext k
  by_cases j:k<6
  ·rw[ah oA]
  ·rw[ae oA];by_cases b:k=6
   ·rw[b,c]
   ·rw[d k oA]
 rw[e1,e2,bO] at a;exact a
theorem di.Jc {W:World} {wb:Nat} {tag:Nat->Nat} {V:Nat->Value} {p:PW} (h:di W wb tag V p) {g cap:Nat} (e:V 2=.slice (some ⟨g,0,none⟩) p.IB.length cap) (o m:Nat) (b:o+m<=p.IB.length*7):W.there g o m:=by
 have a:=h.o.IB;rw[e] at a;exact a.there o m b
def nsl (k f n:Int):Nat->Int:=fun i=>if i=0 then k else if i=1 then f else if i=2 then 1 else if i=4 then 7 else if i=6 then n else 0
def mk1 (q:PW) (n k:Int) (b t i:Nat):PW:={shP q (b+i) k with IB:=q.IB.set (t+i) (nsl k ((b+i:Nat):Int) n)}
def mkI (p:PW) (n k:Int) (b t:Nat):Nat->PW
 |0=>p
 |i+1=>mk1 (mkI p n k b t i) n k b t i
theorem pA (p:PW) (n k:Int) (b t i:Nat):mkI p n k b t (i+1)=mk1 (mkI p n k b t i) n k b t i:=rfl
theorem xo (q:PW) (n k:Int) (b t i:Nat):(mk1 q n k b t i).kinds=q.kinds.set (b+i) k:=rfl
theorem CJ (q:PW) (n k:Int) (b t i:Nat):(mk1 q n k b t i).IE=zr 16 q.IE ((b+i)*16):=rfl
theorem qJ (q:PW) (n k:Int) (b t i:Nat):(mk1 q n k b t i).IB=q.IB.set (t+i) (nsl k ((b+i:Nat):Int) n):=rfl
theorem zO (q:PW) (n k:Int) (b t i:Nat):(mk1 q n k b t i).IA=q.IA∧(mk1 q n k b t i).lines=q.lines∧(mk1 q n k b t i).bits=q.bits∧(mk1 q n k b t i).IC=q.IC∧(mk1 q n k b t i).ready=q.ready∧(mk1 q n k b t i).ID=q.ID∧(mk1 q n k b t i).IF=q.IF:=⟨rfl,rfl,rfl,rfl,rfl,rfl,rfl⟩
theorem mR (p:PW) (n k:Int) (b t:Nat):∀i,(mkI p n k b t i).kinds.length=p.kinds.length∧(mkI p n k b t i).IE.length=p.IE.length∧(mkI p n k b t i).IB.length=p.IB.length
 |0=>⟨rfl,rfl,rfl⟩
 |i+1=>by
  have h:=mR p n k b t i;rw[pA,xo,CJ,qJ,au,ny,au];exact h
theorem tM (p:PW) (n k:Int) (b t:Nat):∀i,(mkI p n k b t i).IA=p.IA∧(mkI p n k b t i).lines=p.lines∧(mkI p n k b t i).bits=p.bits∧(mkI p n k b t i).IC=p.IC∧(mkI p n k b t i).ready=p.ready∧(mkI p n k b t i).ID=p.ID∧(mkI p n k b t i).IF=p.IF
 |0=>⟨rfl,rfl,rfl,rfl,rfl,rfl,rfl⟩
 |i+1=>by
  have h:=tM p n k b t i;obtain⟨a,c,d,r4,e,f,g⟩:=zO (mkI p n k b t i) n k b t i;rw[pA,a,c,d,r4,e,f,g];exact h
theorem zP {p:PW} (h:p.Fits) (n k:Int) (b t i:Nat):(mkI p n k b t i).Fits:=by
 obtain⟨d,e,f⟩:=mR p n k b t i;obtain⟨g,a,j,r4,c,l,m⟩:=tM p n k b t i;exact⟨by rw[e];exact h.IE,by rw[d];exact h.kinds,by rw[f];exact h.IB,by rw[g];exact h.IA,by rw[a];exact h.lines,by rw[a];exact h.line,by rw[j];exact h.bits,by rw[r4];exact h.IC,by rw[c];exact h.ready,by rw[c];exact h.next,by rw[l];exact h.ID,by rw[m];exact h.IF⟩
theorem xq (p:PW) (n k:Int) (b t j:Nat):∀i,(j<t∨t+i<=j)->(mkI p n k b t i).IB[j]? =p.IB[j]?
 |0,_=>rfl
 |i+1,h=>by
  rw[pA,qJ,cM oA];exact xq p n k b t j i oA
def mkB (p:PW) (n:Int):Nat:=((p.IB.getD n.toNat fC) 1+usV p n).toNat
def mkP (p:PW) (n k m t:Int):PW:={mkI p n k (mkB p n) t.toNat m.toNat with IB:=(mkI p n k (mkB p n) t.toNat m.toNat).IB.set n.toNat (upd (p.IB.getD n.toNat fC) 3 (usV p n+m))}
def mkE (p:PW) (n k m t:Int):Int:=if fT p t=true then (if clE p n=0 then (if dH 2 8 k=true then (if fcE p t.toNat m=0 then (if (p.IB.getD n.toNat fC) 2 - usV p n<m then 5 else 0) else fcE p t.toNat m) else 3) else clE p n) else 2
theorem BV {p:PW} (h:Snd p) {n:Int} (a:clE p n=0):∃(j:Nat) (b:j<p.IB.length),n=j∧p.IB[j] 0=1∧p.IB.getD j fC=p.IB[j]∧(0<=p.IB[j] 1∧p.IB[j] 1+p.IB[j] 2<=(p.kinds.length:Int))∧(0<=p.IB[j] 2∧p.IB[j] 2<=100)∧(0<=p.IB[j] 3∧p.IB[j] 3<=100)∧(0<=usV p n∧usV p n<=100):=by
 unfold clE at a;by_cases d:gI p n=0
 ·rw[ah d] at a;obtain⟨j,rfl,b⟩:=EU d;rw[af] at a;have e:p.IB.getD j fC=p.IB[j]:=by rw[aa,ac b];rfl
  rw[e] at a;by_cases f:p.IB[j] 0=1
  ·have c:=Bj h p.IB[j] (av b);obtain⟨k1,k2,g,_⟩:=yh h b oA;refine⟨j,b,rfl,f,e,⟨k1,g⟩,⟨oA,c.l1⟩,⟨c.m0,c.m1⟩,?_⟩;unfold usV;rw[af,e];have:=c.m0;have:=c.m1;split<;>omega
  ·rw[ae f] at a
   cases a
 ·rw[ae d] at a;exact absurd a d
theorem yA {p:PW} {t m j:Nat} (h:usd p t m=false) (b:j<p.IB.length) (a:p.IB[j] 0≠0):j<t∨t+m<=j:=by
 apply Classical.byContradiction;intro d;have c:t<=j∧j<t+m:=oA;unfold usd at h;rw[bR] at h;refine h p.IB[j] ?_ (by simpa using a);refine List.mem_iff_getElem?.2 ⟨j - t,?_⟩;rw[List.getElem?_take,ah oA,dQ,show t+(j - t)=j by omega,ac b]
