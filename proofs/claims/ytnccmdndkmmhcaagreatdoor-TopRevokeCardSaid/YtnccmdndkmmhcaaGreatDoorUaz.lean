/- Uaz -/
import Derived.ArgAppend
import Derived.Test.YtnccmdndkmmhcaaGreatDoorUaw
import Derived.Test.YtnccmdndkmmhcaaGreatDoorUax
import Derived.Test.YtnccmdndkmmhcaaGreatDoorUay
set_option maxRecDepth 100000
set_option maxHeartbeats 16000000
namespace Go.Proofs.YtnccmdndkmmhcaaGreatDoor
namespace Wd
open Go.RowKit Mem Bw Nums Mmu Rf
theorem zO (n:Nat) (l:List Value) (h:l.length=n):l=(List.range n).map fun i=>l.getD i undef:=by
 subst h;apply List.ext_getElem
 ·simp
 ·intro i a b;simp[a]
theorem Fh (t:Array Value) (h:t.size=106):∃y:Nat->Value,t=#[y 0,y 1,y 2,y 3,y 4,y 5,y 6,y 7,y 8,y 9,y 10,y 11,y 12,y 13,y 14,y 15,y 16,y 17,y 18,y 19,y 20,y 21,y 22,y 23,y 24,y 25,y 26,y 27,y 28,y 29,y 30,y 31,y 32,y 33,y 34,y 35,y 36,y 37,y 38,y 39,y 40,y 41,y 42,y 43,y 44,y 45,y 46,y 47,y 48,y 49,y 50,y 51,y 52,y 53,y 54,y 55,y 56,y 57,y 58,y 59,y 60,y 61,y 62,y 63,y 64,y 65,y 66,y 67,y 68,y 69,y 70,y 71,y 72,y 73,y 74,y 75,y 76,y 77,y 78,y 79,y 80,y 81,y 82,y 83,y 84,y 85,y 86,y 87,y 88,y 89,y 90,y 91,y 92,y 93,y 94,y 95,y 96,y 97,y 98,y 99,y 100,y 101,y 102,y 103,y 104,y 105]:=
 ⟨fun i=>t.toList.getD i undef,by
  cases t with
  |mk l=>exact dF Array.mk (zO 106 l h)⟩
theorem pB (n:Nat):madeCells (Value.cells (.int .i64 0)) (n*1)=Array.replicate n (Value.int .i64 0):=by
 apply Array.ext_getElem?;intro k;by_cases h:k<n
 ·rw[t7 _ _ _ rfl h];simp[h]
 ·rw[Array.getElem?_eq_none (by unfold madeCells;simp;omega)];simp[h]
theorem mP (n:Nat) (z:Int):dU (List.replicate n z)=List.replicate n (.int .i64 z):=by unfold dU;rw[List.map_replicate]
def mkO (w:World) (L E n:Nat) (z v:Value):Prop:=(∃g,v=.slice (some ⟨g,0,none⟩) n n)∧w.ownsRow L E 1 v n (List.replicate n z)
theorem mkO.below {w w':World} {L E n:Nat} {z v:Value} (h:mkO w L E n z v) (a:Below w.heap.size w w'):mkO w' L E n z v:=⟨h.1,fI h.2 a⟩
theorem oo (w:World) (L E n:Nat) (z:Value) (a:L<=w.heap.size) (b:n<=1000):mkO (w.alloc (.cells (Array.replicate n z) E)) L E n z (.slice (some ⟨w.heap.size,0,none⟩) n n):=
 ⟨⟨_,rfl⟩,by
  have:=World.ownsRow_lit (base:=L) (e:=E) (size:=1) w (Array.replicate n z) n a (by unfold maxLen;omega) oS;simpa using this⟩
def kH (f c:Nat) (zs:List Int):PW:={ot f c zs with IH:=[],II:=[],IJ:=[]}
structure NwX (w:World) (L:Nat) (p:PW) (X:Nat->Value):Prop where
 own:∀i,i<10->w.ownsRow L (wE i) (wS i) (X i) (wN p i) (wC p i)
 dj:∀i j,i<10->j<10->i≠j->∀k,(X i).ownBlock=some k->(X j).ownBlock≠some k
 f4:∃g,X 4=.slice (some ⟨g,0,none⟩) p.lines.length p.lines.length
 f7:∃g,X 7=.slice (some ⟨g,0,none⟩) p.ready.length p.ready.length
 f8:∃g,X 8=.slice (some ⟨g,0,none⟩) p.IK.length p.IK.length
 t:X 10=.int .i64 p.time
theorem NwX.below {w w':World} {L:Nat} {p:PW} {X:Nat->Value} (h:NwX w L p X) (a:Below w.heap.size w w'):NwX w' L p X:=⟨fun i hi=>fI (h.own i hi) a,h.dj,h.f4,h.f7,h.f8,h.t⟩
def nwO (L f c:Nat) (zs:List Int) (dv:Value):Nat->Value->World->Prop
 |0,v,_=>v=.int .i64 f
 |1,v,_=>v=.int .i64 ((f*16:Nat):Int)
 |2,v,w=>mkO w L 3 (f*16) (.int .i64 0) v
 |3,v,_=>v=.int .i64 f
 |4,v,w=>mkO w L 3 f (.int .i64 0) v
 |5,v,_=>v=.int .i64 f
 |6,v,w=>mkO w L 3 f (.int .i64 0) v
 |7,v,_=>v=.int .i64 f
 |8,v,w=>mkO w L 22 f (.slice none 0 0) v
 |9,v,_=>v=.int .i64 c
 |10,v,_=>v=.int .i64 ((c*4:Nat):Int)
 |11,v,w=>mkO w L 22 (c*4) (.slice none 0 0) v
 |12,v,_=>v=.int .i64 c
 |13,v,w=>mkO w L 38 c (.slice none 0 0) v
 |14,v,_=>∃b,v=.slice (some ⟨b,0,none⟩) 0 0
 |15,v,_=>v=dv
 |16,v,w=>w.ownsRow L 3 1 v zs.length (dU zs)
 |17,v,w=>∃X,v=.agg (de X)∧NwX w L (kH f c zs) X
 |18,v,w=>∃b,v=.pointer (some ⟨b,0,none⟩)∧L<=b∧w.there b 0 11∧∃arr,w.heap[b]? =some (.cells arr 28)
 |_,_,_=>True
def nwF (i:Nat):Bool:=[2,4,6,8,11,13,16].contains i
theorem Aa (L f c:Nat) (zs:List Int) (d:Value):∀i v w w',Below w.heap.size w w'->nwO L f c zs d i v w->nwO L f c zs d i v w':=by
 intro i v w w' a h
 match i,h with
 |0,h=>exact h
 |1,h=>exact h
 |2,h=>exact mkO.below h a
 |3,h=>exact h
 |4,h=>exact mkO.below h a
 |5,h=>exact h
 |6,h=>exact mkO.below h a
 |7,h=>exact h
 |8,h=>exact mkO.below h a
 |9,h=>exact h
 |10,h=>exact h
 |11,h=>exact mkO.below h a
 |12,h=>exact h
 |13,h=>exact mkO.below h a
 |14,h=>exact h
 |15,h=>exact h
 |16,h=>exact fI h a
 |17,h=>obtain⟨X,e,h⟩:=h;exact⟨X,e,h.below a⟩
 |18,h=>obtain⟨b,e,k,l,j,g⟩:=h;exact⟨b,e,k,cw l a,j,(a.block b (Array.getElem?_eq_some_iff.1 g).1).trans g⟩
 |_+19,_=>trivial
theorem FB (L f c:Nat) (zs:List Int) (b:Value):∀i v w,nwF i=true->nwO L f c zs b i v w->∀k,v.ownBlock=some k->k<w.heap.size:=by
 intro i v w d h k hk;have a:i∈[2,4,6,8,11,13,16]:=by simpa [nwF] using d
 simp only[bK,dA,or_false] at a;rcases a with rfl|rfl|rfl|rfl|rfl|rfl|rfl
 ·exact (h.2.lt k hk).2
 ·exact (h.2.lt k hk).2
 ·exact (h.2.lt k hk).2
 ·exact (h.2.lt k hk).2
 ·exact (h.2.lt k hk).2
 ·exact (h.2.lt k hk).2
 ·exact (World.ownsRow.lt h k hk).2
theorem gw {P:Program} {o:Oper} {a:Act} {w w2:World} {v:Value} {K:Act->World->Prop} {Q:Exit->Act->World->Prop} (h:(execOp a.eval o).run P w=.ok (.value v) w2) (hk:K (a.put o.dst v) w2):o.wp P a w K Q:=by
 unfold Oper.wp;rw[h];exact hk
def v11 (x0 x1 x2 x3 x4 x5 x6 x7 x8 x9 x10:Value):Nat->Value
 |0=>x0|1=>x1|2=>x2|3=>x3|4=>x4|5=>x5|6=>x6|7=>x7|8=>x8|9=>x9|_=>x10
def Ae:Nat->Nat
 |0=>2|1=>4|5=>6|4=>8|7=>11|8=>13|9=>16|_=>0
def Gi:Nat->Nat
 |0=>55|1=>57|5=>59|4=>61|7=>64|8=>66|9=>69|_=>0
theorem Bz {ops:Array Oper} {n1:Nat} {R:Nat->Value->World->Prop} {w0:World} {a0:Act} {g:Array Bool} {a:Act} {w:World} (hh:Hd2.Hd ops n1 nwF R w0 a0 g a w) {X:Nat->Value}
  (e:∀i,i∈[0,1,4,5,7,8,9]->(ops[Ae i]?).bind (·.dst)=some (Gi i)∧g.getD (Ae i) false=true∧X i=a.eval (.tmp (Gi i))) (f:∀i,i<10->i∉[0,1,4,5,7,8,9]->(X i).ownBlock=none):
  ∀i j,i<10->j<10->i≠j->∀k,(X i).ownBlock=some k->(X j).ownBlock≠some k:=by
 intro i j hi n m k hk b;by_cases c:i∈[0,1,4,5,7,8,9]
 ·by_cases d:j∈[0,1,4,5,7,8,9]
  ·obtain⟨a1,h,l⟩:=e i c;obtain⟨b1,b2,b3⟩:=e j d;have inj:∀i,i∈[0,1,4,5,7,8,9]->∀j,j∈[0,1,4,5,7,8,9]->i≠j->Ae i≠Ae j:=oD;have fs:∀i,i∈[0,1,4,5,7,8,9]->nwF (Ae i)=true:=oD;rw[l] at hk;rw[b3] at b
   cases ho:ops[Ae i]? with
   |none=>rw[ho] at a1;cases a1
   |some o=>
    cases ho2:ops[Ae j]? with
    |none=>rw[ho2] at b1;cases b1
    |some o2=>
     rw[ho] at a1;rw[ho2] at b1;exact hh.dj (Ae i) (Ae j) o o2 (Gi i) (Gi j) ho a1 ho2 b1 h b2 (fs i c) (fs j d) (inj i c j d m) k hk b
  ·rw[f j n d] at b;cases b
 ·rw[f i hi c] at hk;cases hk
theorem mV (W:World) (l:List Value) (a:Array Value) (e:TypeId) (b:a=l.toArray):∀(j:Nat) (x:Value),l[j]? =some x->(W.alloc (.cells a e)).cell? ((⟨W.heap.size,0,none⟩:Addr).add j)=some x:=by
 intro j x c;subst b;rw[Addr.add_mid,aC,eF _ _ _ _ rfl,aS];exact c
theorem mF (a:Act) (t:Nat):a.eval (.tmp t)=a.tmps[t]?.getD undef:=by simp[Act.eval,Array.getD_eq_getD_getElem?]
theorem _root_.Go.Proofs.YtnccmdndkmmhcaaGreatDoor.cK:type_of% @mF:= @mF
theorem yK {a b:Int} (h:a=b):Value.int .i64 a=.int .i64 b:=by rw[h]
theorem pM {w:World} {A B e s n:Nat} {v:Value} {xs:List Value} (h:w.ownsRow B e s v n xs) (hA:A<=B):w.ownsRow A e s v n xs:=by
 refine⟨h.1,?_⟩;rcases h.2 with b|⟨g,cap,a,rfl,c,d,f⟩
 ·exact .inl b
 ·exact .inr ⟨g,cap,a,rfl,aB hA c,d,f⟩
theorem DJ {P:Program} {w w':World} {o:Oper} {a:Act} {K:Act->World->Prop} {Q:Exit->Act->World->Prop} (s x:Operand) (t:TypeId)
  (c:o.op=.call {callee:=.builtin .append,args:=#[s,x],argTypes:=#[t,t]}) (v u b:Value) (e:a.eval s=v) (f:a.eval x=u) (d:(Builtin.append_ #[t,t] o.type #[v,u]).run P w=.ok b w')
  (h:K (a.put o.dst b) w'):o.wp P a w K Q:=by
 unfold Oper.wp;simp[execOp,c,resolve,invoke,builtin,e,f,d,Result.andThen];exact h
theorem Cl (f:Nat->Int):List.foldl (fun cs x=>Array.setIfInBounds cs x.snd x.fst) zT (cf 20 f).zipIdx=(cf 20 f).toArray:=oK
theorem EZ:(Tryz.prog.info? 37).map (fun i=>(i.zero,i.size,i.bytes))=some (some (.agg zT),20,160):=oK
theorem oE (n:Nat) (k:Nat) (f:Nat->Int):eX n (List.replicate k f)++cf n f=eX n (List.replicate (k+1) f):=by
 unfold eX;rw[List.replicate_succ',List.flatMap_append];simp
theorem xh (k:Nat) (z:Int):dU (List.replicate k z)++[.int .i64 z]=dU (List.replicate (k+1) z):=by
 unfold dU;rw[List.replicate_succ',eD];rfl
theorem sX {α:Type} (k:Nat) (a:α):(List.replicate k a).length+1=(List.replicate (k+1) a).length:=oS
theorem Wb.ext {W:World} {B x:Nat} {X:Nat->Value} {nn a:Nat->Nat} {c c':Nat->List Value} (h:Wb W B x X nn c) (e:∀i,i<10->nn i=a i) (d:∀i,i<10->c i=c' i):Wb W B x X a c':=
 ⟨⟨h.r.lt,fun i hi=>by rw[<-e i hi, <-d i hi];exact h.r.own i hi,h.r.dj,h.r.nx⟩,h.b,h.t⟩
structure Nb (W0:World) (x:Nat) (p:PW) (X:Nat->Value) (W:World):Prop where
 wb:Wb W W0.heap.size x X (wN p) (wC p)
 lo:W0.heap.size<=x
 f4:∃g,X 4=.slice (some ⟨g,0,none⟩) p.lines.length p.lines.length
 f7:∃g,X 7=.slice (some ⟨g,0,none⟩) p.ready.length p.ready.length
 f8:∃g,X 8=.slice (some ⟨g,0,none⟩) p.IK.length p.IK.length
 t:X 10=.int .i64 p.time
 be:Below W0.heap.size W0 W
theorem Nb.next {a W W':World} {x:Nat} {p:PW} {X:Nat->Value} (h:Nb a x p X W) (b:Below W.heap.size W W'):Nb a x p X W':=⟨h.wb.next b,h.lo,h.f4,h.f7,h.f8,h.t,btr h.be b⟩
theorem Nb.app {f W:World} {x:Nat} {p p':PW} {X:Nat->Value} (h:Nb f x p X W) {i:Nat} (hi:i=2∨i=3∨i=6) {T:TypeId} {z:Value} {bytes:Nat} (n:Tryz.prog.underlying T=some (.slice (wE i))) (q:(Tryz.prog.info? (wE i)).map (fun i=>(i.zero,i.size,i.bytes))=some (some z,wS i,bytes)) (D:z.cells.size=wS i) (A:0<wS i) (o:bytes<=1000)
  (d:Addr) (c:List Value) (hl:c.length=1*wS i) (w:∀j u,c[j]? =some u->W.cell? (d.add j)=some u) (l:∀u∈c,u.oneCell'=true) (v:wN p i+1<=1000)
  (m:∀j,j<10->ud (wN p) i (wN p i+1) j=wN p' j) (hC:∀j,j<10->ud (wC p) i (wC p i++c) j=wC p' j) (e4:p'.lines=p.lines) (e7:p'.ready=p.ready) (e8:p'.IK=p.IK) (et:p'.time=p.time):
  ∃g cap w',(Builtin.append_ #[T,T] T #[X i,.slice (some d) 1 1]).run Tryz.prog W=.ok (.slice (some ⟨g,0,none⟩) (wN p i+1) cap) w'∧w'.cell? ⟨x,i,none⟩=some (X i)∧w'.frozen? ⟨x,i,none⟩=false∧Nb f x p' (ud X i (.slice (some ⟨g,0,none⟩) (wN p i+1) cap)) (w'.setCell ⟨x,i,none⟩ (.slice (some ⟨g,0,none⟩) (wN p i+1) cap)):=by
 have a:i<10:=oA;obtain⟨g,cap,w',y,B,hk,G⟩:=h.wb.r.app h.be.size a n q D A o d 1 1 c hl w l oA v;obtain⟨p1,p2⟩:=h.wb.put a B hk;have E:=eM h.wb.b hk (h.wb.r.nx i a);have F:=eg h.wb.t hk (h.wb.r.nx i a);have C:(de X).toList[i]? =some (X i):=by rcases hi with rfl|rfl|rfl<;>rfl
 refine⟨g,cap,w',y,ai E C,by have:=(F i oA).2;rwa [aC] at this,p1.ext m hC,h.lo,?_,?_,?_,?_,?_⟩
 ·rw[ns _ _ oA,e4];exact h.f4
 ·rw[ns _ _ oA,e7];exact h.f7
 ·rw[ns _ _ oA,e8];exact h.f8
 ·rw[ns _ _ oA,et];exact h.t
 ·refine p2.below h.be h.be.size fun k hk s=>?_;rcases s with e|e
  ·have:=((h.wb.r.own i a).lt k e).1;omega
  ·have:=h.lo;omega
theorem NwX.kp {w w':World} {L:Nat} {p:PW} {X:Nat->Value} {T:Nat->Prop} (h:NwX w L p X) (hk:Kp T w w') (a:∀k,T k->k<L):NwX w' L p X:=
 ⟨fun i hi=>iy (h.own i hi) hk (fun k e hk=>by have:=((h.own i hi).lt k e).1;have:=a k hk;omega),h.dj,h.f4,h.f7,h.f8,h.t⟩
theorem jG:(Tryz.prog.info? 47).map (·.size)=some 2:=oK
theorem yZ:(#[.int .i64 0,.int .i64 (-1)]:Array Value).all (·.oneCell')=true:=by simp[Value.oneCell']
theorem nf {c:Func} {p u:Tmp} {f g:TypeId} (h:c.results=#[.cell p f,.cell u g]) {a:Array Value} {P:Program} {w:World} {b b2:Nat} {x y:Value} (d:a.getD p undef=.pointer (some ⟨b,0,none⟩)) (hl:(loadVar f ⟨b,0,none⟩).run P w=.ok x w) (e:a.getD u undef=.pointer (some ⟨b2,0,none⟩)) (i:(loadVar g ⟨b2,0,none⟩).run P w=.ok y w):
  (results c a).run P w=.ok (.tuple #[x,y]) w:=by
 rw[cV] at d e;simp only[results,h];simp[Result.andThen,asAddr,d,e,hl,i]
theorem qD (w:World):Calls Tryz.prog 71 #[] w fun e w'=>e=.returned (.agg #[.int .i64 0,.int .i64 (-1)])∧Below w.heap.size w w':=by
 go_enter Tryz.func71,Tryz.ntmps71
 go_wp2
 refine ar (v:=.agg #[.int .i64 0,.int .i64 (-1)]) (by simp[results,Tryz.results71,go_sem]) rfl ⟨rfl,?_⟩;exact bal (af _ _) _
theorem FD {w:World} {L x:Nat} {p:PW} {X:Nat->Value} (h:NwX w L p X) {b:Array Value} (c:w.heap[x]? =some (.cells b 28)):∀i,i<10->(X i).ownBlock≠some x:=fun i hi e=>by
 rcases (h.own i hi).2 with ⟨e1,_⟩|⟨g,cap,d,e1,_,a,_⟩
 ·rw[e1] at e;cases e
 ·rw[e1] at e;obtain rfl:g=x:=by simpa [Value.ownBlock] using e
  rw[c] at a;have:wE i=28:=by simp at a;exact a.2.symm
  match i,hi,this with
  |0,_,h=>exact absurd h oD
  |1,_,h=>exact absurd h oD
  |2,_,h=>exact absurd h oD
  |3,_,h=>exact absurd h oD
  |4,_,h=>exact absurd h oD
  |5,_,h=>exact absurd h oD
  |6,_,h=>exact absurd h oD
  |7,_,h=>exact absurd h oD
  |8,_,h=>exact absurd h oD
  |9,_,h=>exact absurd h oD
  |_+10,hi,_=>omega
theorem xR {w:World} {L:Nat} {p:PW} {X:Nat->Value} (h:NwX w L p X):∀x∈de X,x.oneCell'=true:=fun x a=>by
 have f:∀i,i<10->(X i).oneCell'=true:=fun i hi=>by obtain⟨q,c,e⟩:=fJ (h.own i hi);rw[e];rfl
 simp only[List.mem_toArray,bK,dA,or_false] at a;rcases a with rfl|rfl|rfl|rfl|rfl|rfl|rfl|rfl|rfl|rfl|rfl
 ·exact f 0 oA
 ·exact f 1 oA
 ·exact f 2 oA
 ·exact f 3 oA
 ·exact f 4 oA
 ·exact f 5 oA
 ·exact f 6 oA
 ·exact f 7 oA
 ·exact f 8 oA
 ·exact f 9 oA
 ·rw[h.t];rfl
theorem rl (f c:Nat) (dv:Value) (zs:List Int) (w:World) (hd:ed w dv zs) (f0:1<=f) (f1:f<=24) (c0:1<=c) (c1:c<=4) (z0:1<=zs.length) (z1:zs.length<=8) (hz:∀z∈zs,0<=z∧z<=3):
  Calls Tryz.prog 222 #[.int .i64 f,.int .i64 c,dv] w fun r w'=>∃X,r=.returned (.tuple #[.agg (de X),.agg #[.int .i64 0,.int .i64 (-1)]])∧NwX w' w.heap.size (ot f c zs) X∧Below w.heap.size w w':=by
 obtain⟨i0,a8,bb,bg,bj⟩:=fj kD;obtain⟨q,b,off,cap,rfl,hq,hi⟩:=hd;have HQ:=hid hq;have HI:=hid hi;have f2:(f:Int)<=24:=oA;have f3:1<=(f:Int):=oA;have c2:(c:Int)<=4:=oA;have c3:1<=(c:Int):=oA;have z2:(zs.length:Int)<=8:=oA;have z3:1<=(zs.length:Int):=oA;have wf:IntKind.i64.wrap ((f:Int)*16)=(f:Int)*16:=bZ _ oA oA;have wc:IntKind.i64.wrap ((c:Int)*4)=(c:Int)*4:=bZ _ oA oA;have HZ:=hid (show ∀j (C:j<zs.length),decide (zs[j]<0∨3<zs[j])=false from fun j C=>by
  have:=hz zs[j] (av C);rw[decide_eq_false_iff_not];omega)
 clear hz hq hi;have Y:=hid (bal (bal (af w.heap.size w) (.cells zW 28)) (.cells #[.int .i64 0,.int .i64 0] 47));have Z6:=hid (cw (aP w zW 28 w.heap.size 11 rfl oD) (bal (af _ _) (.cells #[.int .i64 0,.int .i64 0] 47)));have Z7:=hid (aP (w.alloc (.cells zW 28)) #[.int .i64 0,.int .i64 0] 47 (w.heap.size+1) 2 oS oD);have L:=hid (show ((w.alloc (.cells zW 28)).alloc (.cells #[.int .i64 0,.int .i64 0] 47)).heap.size=w.heap.size+2 by simp);go_enter Tryz.func222,Tryz.ntmps222
 go_wp2_with fail
 generalize World.alloc _ _=l at Y Z6 Z7 L ⊢
 go_loopw [8] (fun i wr=>∃k:Nat,k<=zs.length∧i=.int .i64 k∧Hid (l=wr)) (fun i _=>zs.length - (intOf i).toNat)
 case atStart=>exact⟨0,oA,rfl,hid rfl⟩
 case round=>
  obtain⟨k,hk,rfl,HW⟩:=hrel;obtain rfl:=HW.out;clear HW;by_cases V:k<zs.length
  ·have ah:(k:Int)<(zs.length:Int):=oA;have a9:=HQ.out oA;subst a9;have c9:=(HI.below Y) k V;have m:=hid (HZ.out k V);generalize zs[k]=z at c9 m;go_wp2_with fail
   refine (Isa.fy z 3 l).mono ?_;rintro e w1 ⟨rfl,rfl⟩;rw[m.out];go_wp2_with fail
   exact⟨⟨k+1,oA,by go_num,hid trivial⟩,by simp[intOf];omega⟩
  ·obtain rfl:k=zs.length:=oA;have U:¬((zs.length:Int)<(zs.length:Int)):=oA;go_wp2_with fail
   refine Hd2.DK (F:=nwF) (R:=nwO l.heap.size f c zs (.slice q zs.length cap)) (n1:=19) (N:=106) oK oK oS (Array.replicate 19 true++Array.replicate 1 false) rfl (show ∀i,i<20->(Array.replicate 19 true++Array.replicate 1 false).getD i false=decide (i<19) by decide) (Aa l.heap.size f c zs _) (FB l.heap.size f c zs _) ?_ ?_
   ·intro i o hi d bv a w' hh n;have G:l.heap.size<=w'.heap.size:=hh.JA.size
    match i,hi,d with
    |0,_,d=>
     simp only[aS,aW,bJ] at d;subst d;have M:a.tmps[0]?.getD undef=.int .i64 f:=(cK a 0).symm.trans (hh.Jn 0 oK);exact gw (v:=.int .i64 f) (w2:=w') (by go_simp) ⟨_,rfl,rfl,af _ _,fun h=>by cases h⟩
    |1,_,d=>
     simp only[aS,aW,aX,bJ] at d;subst d;have bo:a.tmps[53]?.getD undef=.int .i64 f:=(cK a 53)▸(hh.I5 0 53 rfl (n ⟨0,.data⟩ oS rfl):nwO l.heap.size f c zs (.slice q zs.length cap) 0 (a.eval (.tmp 53)) w');exact gw (v:=.int .i64 ((f:Int)*16)) (w2:=w') (by go_simp) ⟨_,rfl,yK oA,af _ _,fun h=>by cases h⟩
    |2,_,d=>
     simp only[aS,aW,aX,bJ] at d;subst d;have aU:a.tmps[54]?.getD undef=.int .i64 ((f*16:Nat):Int):=(cK a 54)▸(hh.I5 1 54 rfl (n ⟨1,.data⟩ oS rfl):nwO l.heap.size f c zs (.slice q zs.length cap) 1 (a.eval (.tmp 54)) w');have x:=gG (T:=22) Tryz.underlying22 kD oD oD (f*16) oA w';rw[pB] at x;rw[show ((f*16:Nat):Int)=(f:Int)*16 by omega] at x;rw[show ((f*16:Nat):Int)=(f:Int)*16 by omega] at aU;exact gw (w2:=w'.alloc (.cells (Array.replicate (f*16) (.int .i64 0)) 3)) (by go_simp) ⟨_,rfl,oo w' l.heap.size 3 (f*16) (.int .i64 0) G oA,bal (af _ _) _,fun _ k hk=>by cases hk;exact aq _⟩
    |3,_,d=>
     simp only[aS,aW,aX,bJ] at d;subst d;have M:a.tmps[0]?.getD undef=.int .i64 f:=(cK a 0).symm.trans (hh.Jn 0 oK);exact gw (v:=.int .i64 f) (w2:=w') (by go_simp) ⟨_,rfl,rfl,af _ _,fun h=>by cases h⟩
    |4,_,d=>
     simp only[aS,aW,aX,bJ] at d;subst d;have bp:a.tmps[56]?.getD undef=.int .i64 f:=(cK a 56)▸(hh.I5 3 56 rfl (n ⟨3,.data⟩ oS rfl):nwO l.heap.size f c zs (.slice q zs.length cap) 3 (a.eval (.tmp 56)) w');have x:=gG (T:=22) Tryz.underlying22 kD oD oD (f) oA w';rw[pB] at x;exact gw (w2:=w'.alloc (.cells (Array.replicate (f) (.int .i64 0)) 3)) (by go_simp) ⟨_,rfl,oo w' l.heap.size 3 (f) (.int .i64 0) G oA,bal (af _ _) _,fun _ k hk=>by cases hk;exact aq _⟩
    |5,_,d=>
     simp only[aS,aW,aX,bJ] at d;subst d;have M:a.tmps[0]?.getD undef=.int .i64 f:=(cK a 0).symm.trans (hh.Jn 0 oK);exact gw (v:=.int .i64 f) (w2:=w') (by go_simp) ⟨_,rfl,rfl,af _ _,fun h=>by cases h⟩
    |6,_,d=>
     simp only[aS,aW,aX,bJ] at d;subst d;have bq:a.tmps[58]?.getD undef=.int .i64 f:=(cK a 58)▸(hh.I5 5 58 rfl (n ⟨5,.data⟩ oS rfl):nwO l.heap.size f c zs (.slice q zs.length cap) 5 (a.eval (.tmp 58)) w');have x:=gG (T:=22) Tryz.underlying22 kD oD oD (f) oA w';rw[pB] at x;exact gw (w2:=w'.alloc (.cells (Array.replicate (f) (.int .i64 0)) 3)) (by go_simp) ⟨_,rfl,oo w' l.heap.size 3 (f) (.int .i64 0) G oA,bal (af _ _) _,fun _ k hk=>by cases hk;exact aq _⟩
    |7,_,d=>
     simp only[aS,aW,aX,bJ] at d;subst d;have M:a.tmps[0]?.getD undef=.int .i64 f:=(cK a 0).symm.trans (hh.Jn 0 oK);exact gw (v:=.int .i64 f) (w2:=w') (by go_simp) ⟨_,rfl,rfl,af _ _,fun h=>by cases h⟩
    |8,_,d=>
     simp only[aS,aW,aX,bJ] at d;subst d;have br:a.tmps[60]?.getD undef=.int .i64 f:=(cK a 60)▸(hh.I5 7 60 rfl (n ⟨7,.data⟩ oS rfl):nwO l.heap.size f c zs (.slice q zs.length cap) 7 (a.eval (.tmp 60)) w');have x:=gG (T:=25) Tryz.underlying25 zH oD oD (f) oA w';rw[iT] at x;exact gw (w2:=w'.alloc (.cells (Array.replicate (f) (.slice none 0 0)) 22)) (by go_simp) ⟨_,rfl,oo w' l.heap.size 22 (f) (.slice none 0 0) G oA,bal (af _ _) _,fun _ k hk=>by cases hk;exact aq _⟩
    |9,_,d=>
     simp only[aS,aW,aX,bJ] at d;subst d;have e1:a.tmps[1]?.getD undef=.int .i64 c:=(cK a 1).symm.trans (hh.Jn 1 oK);exact gw (v:=.int .i64 c) (w2:=w') (by go_simp) ⟨_,rfl,rfl,af _ _,fun h=>by cases h⟩
    |10,_,d=>
     simp only[aS,aW,aX,bJ] at d;subst d;have bs:a.tmps[62]?.getD undef=.int .i64 c:=(cK a 62)▸(hh.I5 9 62 rfl (n ⟨9,.data⟩ oS rfl):nwO l.heap.size f c zs (.slice q zs.length cap) 9 (a.eval (.tmp 62)) w');exact gw (v:=.int .i64 ((c:Int)*4)) (w2:=w') (by go_simp) ⟨_,rfl,yK oA,af _ _,fun h=>by cases h⟩
    |11,_,d=>
     simp only[aS,aW,aX,bJ] at d;subst d;have aY:a.tmps[63]?.getD undef=.int .i64 ((c*4:Nat):Int):=(cK a 63)▸(hh.I5 10 63 rfl (n ⟨10,.data⟩ oS rfl):nwO l.heap.size f c zs (.slice q zs.length cap) 10 (a.eval (.tmp 63)) w');have x:=gG (T:=25) Tryz.underlying25 zH oD oD (c*4) oA w';rw[iT] at x;rw[show ((c*4:Nat):Int)=(c:Int)*4 by omega] at x;rw[show ((c*4:Nat):Int)=(c:Int)*4 by omega] at aY;exact gw (w2:=w'.alloc (.cells (Array.replicate (c*4) (.slice none 0 0)) 22)) (by go_simp) ⟨_,rfl,oo w' l.heap.size 22 (c*4) (.slice none 0 0) G oA,bal (af _ _) _,fun _ k hk=>by cases hk;exact aq _⟩
    |12,_,d=>
     simp only[aS,aW,aX,bJ] at d;subst d;have e1:a.tmps[1]?.getD undef=.int .i64 c:=(cK a 1).symm.trans (hh.Jn 1 oK);exact gw (v:=.int .i64 c) (w2:=w') (by go_simp) ⟨_,rfl,rfl,af _ _,fun h=>by cases h⟩
    |13,_,d=>
     simp only[aS,aW,aX,bJ] at d;subst d;have bu:a.tmps[65]?.getD undef=.int .i64 c:=(cK a 65)▸(hh.I5 12 65 rfl (n ⟨12,.data⟩ oS rfl):nwO l.heap.size f c zs (.slice q zs.length cap) 12 (a.eval (.tmp 65)) w');have x:=gG (T:=26) Tryz.underlying26 Cp oD oD (c) oA w';rw[iT] at x;exact gw (w2:=w'.alloc (.cells (Array.replicate (c) (.slice none 0 0)) 38)) (by go_simp) ⟨_,rfl,oo w' l.heap.size 38 (c) (.slice none 0 0) G oA,bal (af _ _) _,fun _ k hk=>by cases hk;exact aq _⟩
    |14,_,d=>
     simp only[aS,aW,aX,bJ] at d;subst d;exact gw (v:=.slice (some ⟨w'.heap.size,0,none⟩) 0 0) (w2:=w'.alloc (.cells #[] 3)) (by go_simp) ⟨_,rfl,⟨w'.heap.size,rfl⟩,bal (af _ _) _,fun h=>by cases h⟩
    |15,_,d=>
     simp only[aS,aW,aX,bJ] at d;subst d;have e2:a.tmps[2]?.getD undef=.slice q zs.length cap:=(cK a 2).symm.trans (hh.Jn 2 oK);exact gw (v:=.slice q zs.length cap) (w2:=w') (by go_simp) ⟨_,rfl,rfl,af _ _,fun h=>by cases h⟩
    |16,_,d=>
     simp only[aS,aW,aX,bJ] at d;subst d;obtain⟨b0,aZ⟩:=(cK a 67)▸(hh.I5 14 67 rfl (n ⟨14,.data⟩ oS rfl):nwO l.heap.size f c zs (.slice q zs.length cap) 14 (a.eval (.tmp 67)) w');have a0:a.tmps[68]?.getD undef=.slice q zs.length cap:=(cK a 68)▸(hh.I5 15 68 rfl (n ⟨15,.data⟩ oS rfl):nwO l.heap.size f c zs (.slice q zs.length cap) 15 (a.eval (.tmp 68)) w');obtain⟨ad,a2,a4⟩:∃ad,q=some ad∧∀j u,(dU zs)[j]? =some u->w'.cell? (ad.add j)=some u:=⟨⟨b,off,none⟩,HQ.out oA,ints_at ((HI.below (btr Y (aD l 1))).below hh.JA)⟩
     subst a2;obtain⟨v',w2,ba,al,a7⟩:=run_append_arg_grows (P:=Tryz.prog) w' 22 22 3 i0 (.int .i64 0) 1 8 Tryz.underlying22 a8 bb bg bj rfl oD ⟨b0,0,none⟩ 0 0 [] rfl (fun j u h=>by simp at h) ad zs.length cap (dU zs) (ma zs) a4 oA (by unfold maxLen;omega) oA;rw[aC,eC] at al;refine gw (w2:=w2) (v:=v') ?_ ⟨_,rfl,pM al G,(af w'.heap.size w').grown a7 (aq _) (fun k hk=>by cases hk),fun _ k hk=>(al.lt k hk).1⟩;simp[execOp,resolve,invoke,builtin,mF,aZ,a0,ba,Result.andThen]
    |17,_,d=>
     simp only[aS,aW,aX,bJ] at d;subst d;have h0:nwO l.heap.size f c zs (.slice q zs.length cap) 2 (a.tmps[55]?.getD undef) w':=(cK a 55)▸hh.I5 2 55 rfl (n ⟨2,.data⟩ oS rfl);have h1:nwO l.heap.size f c zs (.slice q zs.length cap) 4 (a.tmps[57]?.getD undef) w':=(cK a 57)▸hh.I5 4 57 rfl (n ⟨4,.data⟩ oS rfl);have h5:nwO l.heap.size f c zs (.slice q zs.length cap) 6 (a.tmps[59]?.getD undef) w':=(cK a 59)▸hh.I5 6 59 rfl (n ⟨6,.data⟩ oS rfl);have h4:nwO l.heap.size f c zs (.slice q zs.length cap) 8 (a.tmps[61]?.getD undef) w':=(cK a 61)▸hh.I5 8 61 rfl (n ⟨8,.data⟩ oS rfl);have h7:nwO l.heap.size f c zs (.slice q zs.length cap) 11 (a.tmps[64]?.getD undef) w':=(cK a 64)▸hh.I5 11 64 rfl (n ⟨11,.data⟩ oS rfl);have h8:nwO l.heap.size f c zs (.slice q zs.length cap) 13 (a.tmps[66]?.getD undef) w':=(cK a 66)▸hh.I5 13 66 rfl (n ⟨13,.data⟩ oS rfl);have h9:nwO l.heap.size f c zs (.slice q zs.length cap) 16 (a.tmps[69]?.getD undef) w':=(cK a 69)▸hh.I5 16 69 rfl (n ⟨16,.data⟩ oS rfl);obtain⟨q0,k0,ax⟩:=fJ h0.2;rw[ax] at h0;obtain⟨q1,k1,az⟩:=fJ h1.2;rw[az] at h1;obtain⟨q5,k5,aA⟩:=fJ h5.2;rw[aA] at h5;obtain⟨q4,k4,aB⟩:=fJ h4.2;rw[aB] at h4;obtain⟨q7,k7,aF⟩:=fJ h7.2;rw[aF] at h7;obtain⟨q8,k8,aG⟩:=fJ h8.2;rw[aG] at h8;obtain⟨q9,k9,aH⟩:=fJ h9;rw[aH] at h9;have T:=Bz hh (X:=(v11 (.slice q0 _ k0) (.slice q1 _ k1) (.slice none 0 0) (.slice none 0 0) (.slice q4 _ k4) (.slice q5 _ k5) (.slice none 0 0) (.slice q7 _ k7) (.slice q8 _ k8) (.slice q9 _ k9) (.int .i64 0))) (fun i hi=>by
      simp only[bK,dA,or_false] at hi;rcases hi with rfl|rfl|rfl|rfl|rfl|rfl|rfl
      ·exact⟨rfl,n ⟨2,.data⟩ oS rfl,((cK a 55).trans ax).symm⟩
      ·exact⟨rfl,n ⟨4,.data⟩ oS rfl,((cK a 57).trans az).symm⟩
      ·exact⟨rfl,n ⟨8,.data⟩ oS rfl,((cK a 61).trans aB).symm⟩
      ·exact⟨rfl,n ⟨6,.data⟩ oS rfl,((cK a 59).trans aA).symm⟩
      ·exact⟨rfl,n ⟨11,.data⟩ oS rfl,((cK a 64).trans aF).symm⟩
      ·exact⟨rfl,n ⟨13,.data⟩ oS rfl,((cK a 66).trans aG).symm⟩
      ·exact⟨rfl,n ⟨16,.data⟩ oS rfl,((cK a 69).trans aH).symm⟩) (fun i hi s=>by
      match i,hi,s with
      |0,_,s=>exact absurd oD s
      |1,_,s=>exact absurd oD s
      |2,_,_=>rfl
      |3,_,_=>rfl
      |4,_,s=>exact absurd oD s
      |5,_,s=>exact absurd oD s
      |6,_,_=>rfl
      |7,_,s=>exact absurd oD s
      |8,_,s=>exact absurd oD s
      |9,_,s=>exact absurd oD s
      |_+10,hi,_=>omega)
     refine gw (w2:=w') (v:=.agg (de (v11 (.slice q0 _ k0) (.slice q1 _ k1) (.slice none 0 0) (.slice none 0 0) (.slice q4 _ k4) (.slice q5 _ k5) (.slice none 0 0) (.slice q7 _ k7) (.slice q8 _ k8) (.slice q9 _ k9) (.int .i64 0)))) (by go_simp;simp[v11]) ⟨_,rfl,⟨(v11 (.slice q0 _ k0) (.slice q1 _ k1) (.slice none 0 0) (.slice none 0 0) (.slice q4 _ k4) (.slice q5 _ k5) (.slice none 0 0) (.slice q7 _ k7) (.slice q8 _ k8) (.slice q9 _ k9) (.int .i64 0)),rfl,⟨fun i hi=>?_,T,?_,?_,?_,rfl⟩⟩,af _ _,fun h=>by cases h⟩
     ·match i,hi with
      |0,_=>rw[show wN (kH f c zs) 0=f*16 from bk,show wC (kH f c zs) 0=_ from mP _ _];exact h0.2
      |1,_=>rw[show wN (kH f c zs) 1=f from bk,show wC (kH f c zs) 1=_ from mP _ _];exact h1.2
      |2,_=>exact ct _ _ _ _
      |3,_=>exact ct _ _ _ _
      |4,_=>show w'.ownsRow _ _ _ _ (kH f c zs).lines.length (List.replicate (kH f c zs).lines.length _);rw[show (kH f c zs).lines.length=f from bk];exact h4.2
      |5,_=>rw[show wN (kH f c zs) 5=f from bk,show wC (kH f c zs) 5=_ from mP _ _];exact h5.2
      |6,_=>exact ct _ _ _ _
      |7,_=>show w'.ownsRow _ _ _ _ (kH f c zs).ready.length (List.replicate (kH f c zs).ready.length _);rw[show (kH f c zs).ready.length=c*4 from bk];exact h7.2
      |8,_=>show w'.ownsRow _ _ _ _ (kH f c zs).IK.length (List.replicate (kH f c zs).IK.length _);rw[show (kH f c zs).IK.length=c from bk];exact h8.2
      |9,_=>exact h9
      |_+10,hi=>omega
     ·obtain⟨g,e⟩:=h4.1;exact⟨g,by rw[show (kH f c zs).lines.length=f from bk];exact e⟩
     ·obtain⟨g,e⟩:=h7.1;exact⟨g,by rw[show (kH f c zs).ready.length=c*4 from bk];exact e⟩
     ·obtain⟨g,e⟩:=h8.1;exact⟨g,by rw[show (kH f c zs).IK.length=c from bk];exact e⟩
    |18,_,d=>
     simp only[aS,aW,aX,bJ] at d;subst d;exact gw (v:=.pointer (some ⟨w'.heap.size,0,none⟩)) (w2:=w'.alloc (.cells zW 28)) (by go_simp) ⟨_,rfl,⟨w'.heap.size,rfl,G,aP _ _ _ _ _ rfl oD,_,Array.getElem?_push_size⟩,bal (af _ _) _,fun h=>by cases h⟩
    |_+19,hi,_=>omega
   ·intro a w' hh;have M:a.eval (.tmp 0)=.int .i64 f:=hh.Jn 0 oK;have e1:a.eval (.tmp 1)=.int .i64 c:=hh.Jn 1 oK;have e6:a.eval (.tmp 6)=.pointer (some ⟨w.heap.size,0,none⟩):=hh.Jn 6 oK;have e7:a.eval (.tmp 7)=.pointer (some ⟨w.heap.size+1,0,none⟩):=hh.Jn 7 oK;obtain⟨b9,e9,aK,ab,bn,am⟩:nwO l.heap.size f c zs (.slice q zs.length cap) 18 (a.eval (.tmp 9)) w':=hh.I5 18 9 rfl rfl;obtain⟨X,aI,E⟩:nwO l.heap.size f c zs (.slice q zs.length cap) 17 (a.eval (.tmp 70)) w':=hh.I5 17 70 rfl rfl;have au:=hh.JA;have aQ:a.tmps.size=106:=hh.ts.trans oS;have aw:a.defers=[]:=hh.df;change wpAny _ _ _ _ (0+1) _ _ _;refine wpAny_all (rs:=[19]) oK oS ?_;intro i hi;obtain rfl:=dm.1 hi;unfold wpOp;simp only[aS,aW,aX];rw[ag oR];refine Or.inl (wp_store_mid 28 _ _ rfl b9 0 (de X) e9 aI ab fA (Array.all_eq_true'.2 (xR E)) ?_);refine wpAny_done oK ?_ _;clear hh hi;have ac:Kp (fun k=>k=b9) w' (w'.setCells b9 0 (de X).toList):=aM (T:=fun k=>k=b9) (.inl rfl) _ _ _ (aV _ _);have nx:=FD E am;have aO:b9<w'.heap.size:=(Array.getElem?_eq_some_iff.1 am).1;have bW:Below l.heap.size l w':=btr (aD l 1) au;have NB:=hid (show Nb l b9 (kH f c zs) X (w'.setCells b9 0 (de X).toList) from⟨⟨⟨aE aO ac.size,fun i hi=>iy (E.own i hi) ac (fun k e hk=>nx i hi (hk▸e)),E.dj,nx⟩,World.rangeAt_setCells_same w' b9 0 (de X).toList ab,World.there_setCells ab _ _ _⟩,aK,E.f4,E.f7,E.f8,E.t,ac.below bW bW.size (fun k hk e=>oA)⟩);generalize w'.setCells b9 0 (de X).toList=W2 at NB ⊢;clear ac nx aO bW E am ab aI au aK;obtain⟨tm,df⟩:=a;have a5:df=[]:=aw;subst a5;obtain⟨y,rfl⟩:=Fh tm aQ;have g0:y 0=.int .i64 f:=M;have g1:y 1=.int .i64 c:=e1;have g6:y 6=.pointer (some ⟨w.heap.size,0,none⟩):=e6;have g7:y 7=.pointer (some ⟨w.heap.size+1,0,none⟩):=e7;have g9:y 9=.pointer (some ⟨b9,0,none⟩):=e9;clear M e1 e6 e7 e9 aQ aw;rw[g0,g1,g6,g7,g9];clear g0 g1 g6 g7 g9 HQ HI HZ;go_wp2_with fail
    go_loopw [10] (fun i wr=>∃(k:Nat) (X:Nat->Value),k<=f*16∧i=.int .i64 k∧Hid (Nb l b9 {kH f c zs with IH:=List.replicate k sl} X wr)) (fun i _=>f*16 - (intOf i).toNat)
    case atStart=>exact⟨0,_,oA,rfl,NB⟩
    case round=>
     clear NB;obtain⟨k,X,hk,rfl,m⟩:=hrel;have D:wr.cell? ⟨b9,2,none⟩=some (X 2):=ai m.wb.b rfl;by_cases V:k<f*16
     ·have ah:(k:Int)<(f:Int)*16:=oA;obtain⟨g,aa,w2,A,Q,hf,B⟩:=(m.next (bal (af _ _) (.cells #[.int .i64 0,.int .i64 0,.int .i64 0,.int .i64 0,.int .i64 0,.int .i64 0,.int .i64 (-1)] 34))).app (p':={kH f c zs with IH:=List.replicate (k+1) sl}) (i:=2) (.inl rfl) (T:=23) Tryz.underlying23 mO rfl oD oD ⟨wr.heap.size,0,none⟩ [.int .i64 0,.int .i64 0,.int .i64 0,.int .i64 0,.int .i64 0,.int .i64 0,.int .i64 (-1)] rfl (mV _ _ _ _ rfl) (bQ 7 sl) (by show (List.replicate k sl).length+1<=1000;rw[bk];omega) (fun j C=>by match j,C with|0,_=>rfl|1,_=>rfl|2,_=>exact sX k sl|3,_=>rfl|4,_=>rfl|5,_=>rfl|6,_=>rfl|7,_=>rfl|8,_=>rfl|9,_=>rfl|_+10,h=>omega) (fun j C=>by match j,C with|0,_=>rfl|1,_=>rfl|2,_=>exact oE 7 k sl|3,_=>rfl|4,_=>rfl|5,_=>rfl|6,_=>rfl|7,_=>rfl|8,_=>rfl|9,_=>rfl|_+10,h=>omega) rfl rfl rfl rfl;obtain⟨q2,k2,e2⟩:=fJ (m.wb.r.own 2 oA);rw[show wN {kH f c zs with IH:=List.replicate k sl} 2=k from bk] at A B e2;rw[e2] at A Q D;have HR:=hid A;have I:=hid B;clear A B e2 m;go_wp2_with (first|(at_builtin;refine jQ rfl _ _ 23 rfl (.slice q2 k k2) (.slice (some ⟨wr.heap.size,0,none⟩) 1 1) (.slice (some ⟨g,0,none⟩) (k+1) aa) rfl rfl HR ?_))
      exact⟨⟨k+1,_,oA,by go_num,I⟩,by simp[intOf];omega⟩
     ·obtain rfl:f*16=k:=oA;have U:¬((f:Int)*16<(f:Int)*16):=oA;have a3:((f*16:Nat):Int)=(f:Int)*16:=oA;go_wp2_with fail
      clear U a3 D
      go_loopw [11] (fun i wr=>∃(k:Nat) (X:Nat->Value),k<=f∧i=.int .i64 k∧Hid (Nb l b9 {kH f c zs with IH:=List.replicate (f*16) sl,II:=List.replicate k bl} X wr)) (fun i _=>f - (intOf i).toNat)
      case atStart=>exact⟨0,_,oA,rfl,m⟩
      case round=>
       clear m;obtain⟨k,X,hk,rfl,m⟩:=hrel;by_cases V:k<f
       ·have ah:(k:Int)<(f:Int):=oA;have D:wr.cell? ⟨b9,3,none⟩=some (X 3):=ai m.wb.b rfl;have KR:=hid (fun W (O:Below wr.heap.size wr W)=>show W.cell? ⟨b9,3,none⟩=some (X 3) from (O.cell (aj _ _ D)).trans D);have BD:Hid (Below wr.heap.size wr wr.drew):=hid (aD wr 1);go_upto_region 16 with fail
        refine bI (R:=fun W=>W.cell? ⟨b9,3,none⟩=some (X 3)) [6] [0,1] 5 oK (KR.out _ BD) oK oK oK (fun _=>?_);clear D
        repeat (refine Rf.rs ?_ rfl oR (fun W h=>by have h1:=h;clear h;go_simp;try rfl);simp only[jj])
        refine aL ?_;refine Rf.r1 2 rfl (fun K p=>?_);rw[ag oR];go_simp
        refine (qh _).mono ?_;rintro r w2 ⟨rfl,aJ⟩;have B2:=hid (btr BD aJ);refine p _ _ trivial (fun _=>KR.out _ B2) (fun _ _=>?_);clear p K aJ
        try simp only[jj]
        have Z:=hid (show Below wr.heap.size wr (w2.alloc (.cells (cf 20 bl).toArray 37)) from btr B2 (bal (af _ _) _));have CN:=hid (mV w2 (cf 20 bl) (cf 20 bl).toArray 37 rfl);refine Rf.r1 3 rfl (fun K p=>?_);have a6:=Cl bl;go_simp
        clear a6;refine p _ (w2.alloc (.cells (cf 20 bl).toArray 37)) trivial (fun _=>KR.out _ Z) (fun _ _=>?_);clear p K
        try simp only[jj]
        generalize w2.alloc (.cells (cf 20 bl).toArray 37)=W4 at Z CN ⊢;generalize w2.heap.size=gb at CN ⊢;obtain⟨g,aa,w5,A,Q,hf,B⟩:=(m.next Z).app (p':={kH f c zs with IH:=List.replicate (f*16) sl,II:=List.replicate (k+1) bl}) (i:=3) (.inr (.inl rfl)) (T:=24) Tryz.underlying24 EZ rfl oD oD ⟨gb,0,none⟩ (cf 20 bl) (by rw[ay];rfl) CN (bQ 20 bl) (by show (List.replicate k bl).length+1<=1000;rw[bk];omega) (fun j C=>by match j,C with|0,_=>rfl|1,_=>rfl|2,_=>rfl|3,_=>exact sX k bl|4,_=>rfl|5,_=>rfl|6,_=>rfl|7,_=>rfl|8,_=>rfl|9,_=>rfl|_+10,h=>omega) (fun j C=>by match j,C with|0,_=>rfl|1,_=>rfl|2,_=>rfl|3,_=>exact oE 20 k bl|4,_=>rfl|5,_=>rfl|6,_=>rfl|7,_=>rfl|8,_=>rfl|9,_=>rfl|_+10,h=>omega) rfl rfl rfl rfl;rw[show wN {kH f c zs with IH:=List.replicate (f*16) sl,II:=List.replicate k bl} 3=k from bk] at A B;have ao:=hid A;have I:=hid B;have J:=hid Q;clear A B;refine Rf.r1 4 rfl (fun K p=>?_);refine DJ _ _ 24 rfl (X 3) (.slice (some ⟨gb,0,none⟩) 1 1) _ rfl rfl ao ?_;refine p _ _ trivial (fun _=>J.out) (fun _ _=>?_);clear p K;simp only[jj];refine bN oK _ J [5] 1 _ _ oK ?_
        repeat (refine Rf.rs ?_;simp only[jj])
        refine aL ?_;refine Rf.r1 6 rfl (fun K p=>?_);go_simp
        refine p _ _ trivial (bX oK) (fun _ _=>?_);clear p K
        try simp only[jj]
        refine bc oK ?_ _;generalize w5.setCell ⟨b9,3,none⟩ _=W6 at I ⊢;clear ao J KR BD m Z CN B2 Q hf;go_wp2_with fail
        exact⟨⟨k+1,_,oA,by go_num,I⟩,by simp[intOf];omega⟩
       ·obtain rfl:f=k:=oA;have U:¬((f:Int)<(f:Int)):=oA;go_wp2_with fail
        clear U
        go_loopw [12] (fun i wr=>∃(j:Nat) (X:Nat->Value),j<=c∧i=.int .i64 j∧Hid (Nb l b9 {kH f c zs with IH:=List.replicate (f*16) sl,II:=List.replicate f bl,IJ:=List.replicate j (-1)} X wr)) (fun i _=>c - (intOf i).toNat)
        case atStart=>exact⟨0,_,oA,rfl,m⟩
        case round=>
         clear m;obtain⟨j,X,C,rfl,m⟩:=hrel;have D:wr.cell? ⟨b9,6,none⟩=some (X 6):=ai m.wb.b rfl;by_cases V:j<c
         ·have ah:(j:Int)<(c:Int):=oA;obtain⟨g,aa,w2,A,Q,hf,B⟩:=(m.next (bal (af _ _) (.cells #[.int .i64 (-1)] 3))).app (p':={kH f c zs with IH:=List.replicate (f*16) sl,II:=List.replicate f bl,IJ:=List.replicate (j+1) (-1)}) (i:=6) (.inr (.inr rfl)) (T:=22) Tryz.underlying22 kD rfl oD oD ⟨wr.heap.size,0,none⟩ [.int .i64 (-1)] rfl (mV _ _ _ _ rfl) (Fb (-1)) (by show (List.replicate j (-1:Int)).length+1<=1000;rw[bk];omega) (fun i hi=>by match i,hi with|0,_=>rfl|1,_=>rfl|2,_=>rfl|3,_=>rfl|4,_=>rfl|5,_=>rfl|6,_=>exact sX j (-1)|7,_=>rfl|8,_=>rfl|9,_=>rfl|_+10,h=>omega) (fun i hi=>by match i,hi with|0,_=>rfl|1,_=>rfl|2,_=>rfl|3,_=>rfl|4,_=>rfl|5,_=>rfl|6,_=>exact xh j (-1)|7,_=>rfl|8,_=>rfl|9,_=>rfl|_+10,h=>omega) rfl rfl rfl rfl;obtain⟨q2,k2,e2⟩:=fJ (m.wb.r.own 6 oA);rw[show wN {kH f c zs with IH:=List.replicate (f*16) sl,II:=List.replicate f bl,IJ:=List.replicate j (-1)} 6=j from bk] at A B e2;rw[e2] at A Q D;have HR:=hid A;have I:=hid B;clear A B e2 m;go_wp2_with (first|(at_builtin;refine jQ rfl _ _ 22 rfl (.slice q2 j k2) (.slice (some ⟨wr.heap.size,0,none⟩) 1 1) (.slice (some ⟨g,0,none⟩) (j+1) aa) rfl rfl HR ?_))
          exact⟨⟨j+1,_,oA,by go_num,I⟩,by simp[intOf];omega⟩
         ·obtain rfl:c=j:=oA;have U:¬((c:Int)<(c:Int)):=oA;have NX:=hid (show NwX wr l.heap.size (ot f c zs) X from⟨m.wb.r.own,m.wb.r.dj,m.f4,m.f7,m.f8,m.t⟩);have J:=hid m.wb.b;have aR:=hid m.be;have LO:=hid m.lo;have OS:=hid (Array.all_eq_true'.2 (xR NX));go_wp2_with fail
          clear m D U;have BE:=hid (aD wr 1);refine wp_region_held_drew (S:=fun W=>W.rangeAt b9 0 (de X).toList) oK J (fun hH=>?_);refine tg 0 (.agg (de X)) rfl (yieldsIf_load_mid oR _ _ rfl _ _ rfl (de X).toList _ (fun _ h=>h) Tryz.underlying28 rfl fA) hH ?_;simp only[jj];refine wpAnyH_ready (rs:=[1]) oK oS (AllReadyH.cons rfl (fun K p=>?_) AllReadyH.nil);rw[ag oR];simp only[dc,bC,bh];go_simp
          refine (qD _).mono ?_;rintro e w6 ⟨rfl,O⟩;have B6:=hid (btr aR (btr BE O));have N6:=hid (NX.below (btr BE O));have R6:=hid (bf J (btr BE O));have ap:=hid (cw Z6 B6);have aT:=hid (cw Z7 B6);clear O;refine p _ _ R6 (fun _=>?_);clear p K;have an:Kp (fun k=>k=w.heap.size) w6 (w6.setCells w.heap.size 0 (de X).toList):=aM (T:=fun k=>k=w.heap.size) (.inl rfl) _ _ _ (aV _ _);have N7:=hid (N6.kp an (fun k e=>by have:=L.out;omega));have B7:=hid (bT (btr Y B6) (aq _) (de X).toList 0);have ae:=hid (eg aT an oA);have R7:=hid (World.rangeAt_setCells_apart R6 w.heap.size 0 (de X).toList (.inl (by have:=L.out;have:=LO.out;omega)));have Q7:=hid (World.rangeAt_setCells_same w6 w.heap.size 0 (de X).toList ap);clear an;refine wpAnyH_ready (rs:=[2]) oK oS (AllReadyH.cons rfl (fun K p=>?_) AllReadyH.nil);rw[ag oR];simp only[dc,bC,bh];refine wp_store_mid 28 _ _ rfl w.heap.size 0 (de X) rfl rfl ap fA OS ?_;generalize w6.setCells w.heap.size 0 (de X).toList=W7 at N7 B7 ae R7 Q7 ⊢;refine p _ _ R7 (fun _=>?_);clear p K;have aN:Kp (fun k=>k=w.heap.size+1) W7 (W7.setCells (w.heap.size+1) 0 [.int .i64 0,.int .i64 (-1)]):=aM (T:=fun k=>k=w.heap.size+1) (.inl rfl) _ _ _ (aV _ _);have H:=hid (N7.kp aN (fun k e=>by have:=L.out;omega));have B8:=hid (bT B7 (show w.heap.size<=w.heap.size+1 by omega) [.int .i64 0,.int .i64 (-1)] 0);have R8:=hid (World.rangeAt_setCells_apart R7 (w.heap.size+1) 0 [.int .i64 0,.int .i64 (-1)] (.inl (by have:=L.out;have:=LO.out;omega)));have Q8:=hid (World.rangeAt_setCells_apart Q7 (w.heap.size+1) 0 [.int .i64 0,.int .i64 (-1)] (.inl oA));have P8:=hid (World.rangeAt_setCells_same W7 (w.heap.size+1) 0 [.int .i64 0,.int .i64 (-1)] ae.out);clear aN;refine wpAnyH_ready (rs:=[3]) oK oS (AllReadyH.cons rfl (fun K p=>?_) AllReadyH.nil);rw[ag oR];simp only[dc,bC,bh];refine wp_store_mid 47 _ _ rfl (w.heap.size+1) 0 #[.int .i64 0,.int .i64 (-1)] rfl rfl ae jG yZ ?_;generalize W7.setCells (w.heap.size+1) 0 [.int .i64 0,.int .i64 (-1)]=W8 at H B8 R8 Q8 P8 ⊢;refine p _ _ R8 (fun _=>?_);clear p K;refine dw oK ?_ _;go_wp2_with fail
          refine ar (v:=.tuple #[.agg (de X),.agg #[.int .i64 0,.int .i64 (-1)]]) (nf rfl rfl (run_loadVar_mid _ w.heap.size 0 28 (de X).toList _ Q8 Tryz.underlying28 rfl fA) rfl (run_loadVar_mid _ (w.heap.size+1) 0 47 [.int .i64 0,.int .i64 (-1)] _ P8 Tryz.underlying47 rfl jG)) rfl ⟨X,rfl,⟨fun i hi=>pM (H.own i hi) (by have:=L.out;omega),H.dj,H.f4,H.f7,H.f8,H.t⟩,B8.out⟩
