/- Qai -/
import Derived.Deep.RegionHeld3
import Derived.Deep.Onto
import Derived.Test.YtaejnmmpddbbjaaGreatDoorQah
set_option maxRecDepth 100000
set_option maxHeartbeats 16000000
namespace Go.Proofs.YtaejnmmpddbbjaaGreatDoor
namespace Wd
open Go.RowKit Mem Bw Nums Mmu
theorem Bk {p:PW} (h:Snd p) {k:Nat} (hk:k<p.IB.length) (b:p.IB[k] 0≠0):opB p p.IB[k]=true:=by
 have a:bsB p (p.kinds.getD (k/16) 0) p.IB[k]=false:=h.b3 k hk;generalize p.IB[k]=s at b a ⊢;unfold bsB at a;rw[show zkB s=false from aw fun c=>b c.1,ae oD] at a;simp only[cQ,am] at a;exact a.1.1.2
theorem Bj {p:PW} (h:Snd p):∀s∈p.IB,KB s:=Fb (g:=fun k=>p.kinds.getD (k/16) 0) h.b3
def sAt (p:PW) (n a:Int):Int×Int:=
 if isB p n 5 then (if dH 0 255 a then (if a<16 then (n*16+a,0) else
  if (p.IB.getD (n*16+a/16).toNat (fun _=>0)) 0=5 then ((p.IB.getD (n*16+a/16).toNat (fun _=>0)) 1*16+a%16,0) else (0,3)) else (0,2)) else (0,3)
def fC:Nat->Int:=fun _=>0
theorem yh {p:PW} (h:Snd p) {k:Nat} (hk:k<p.IB.length) (b:p.IB[k] 0≠0):0<=p.IB[k] 1∧1<=p.IB[k] 2∧p.IB[k] 1+p.IB[k] 2<=(p.kinds.length:Int)∧0<=p.IB[k] 4∧p.IB[k] 4<=7:=by
 have a:=Bk h hk b;generalize p.IB[k]=s at b a ⊢;unfold opB at a;simp only[am,bH,bp] at a;obtain⟨b0,b1,l0,l1,c,d⟩:=n9 a.1.1 b;exact⟨b0,l0,a.1.2,c,d⟩
theorem FP {p:PW} (h:Snd p) {n a:Int} (b:(sAt p n a).2=0):0<=(sAt p n a).1∧(sAt p n a).1<(p.IB.length:Int):=by
 unfold sAt at b ⊢;have hl:=h.lf.IB
 cases hi:isB p n 5 with
 |false=>rw[hi] at b;simp at b
 |true=>
  obtain⟨j,rfl,f⟩:=jU hi;rw[hi] at b;rw[ah rfl] at b ⊢
  cases hw:dH 0 255 a with
  |false=>rw[hw] at b;simp at b
  |true=>
   have e:=ay hw;rw[hw] at b;rw[ah rfl] at b ⊢;by_cases c:a<16
   ·rw[ah c];simp only;omega
   ·rw[ae c] at b ⊢;have d:((j:Int)*16+a/16).toNat<p.IB.length:=oA;rw[aa,ac d] at b ⊢;simp only[aG] at b ⊢;split at b
    ·rename_i h5;rw[ah h5];have:=yh h d oA;simp only;omega
    ·simp at b
theorem jN (vb:Nat) (V:Nat->Value) (p:PW) (n a:Int) (w:World) (g:ei w vb V p) (t:Snd p):
  Calls Tryz.prog 140 #[.pointer (some ⟨vb,0,none⟩),.int .i64 n,.int .i64 a] w fun r w'=>r=.returned (.tuple #[.int .i64 (sAt p n a).1,.int .i64 (sAt p n a).2])∧Below w.heap.size w w':=by
 have l:=hid g;have F:=hid t;have B:=hid g.r;have E:=r11 2 g.r;obtain⟨q2,b2,ad,P,e2,J,N⟩:=g.v.IB;have Z:(p.IB.length:Int)<=1000:=by have:=g.f.IB;omega
 have Y:(p.kinds.length:Int)<=1000:=by have:=g.f.kinds;omega
 have K:=t.lf.IB;have W:=t.lf.k1;obtain rfl:=J oA;have H:=hid N;have G:=hid K
 cases hi:isB p n 5 with
 |false=>
  have b:=hid (show sAt p n a=(0,3) by unfold sAt;rw[hi];rfl);have D:¬(fI p n).getD (-1)=5:=fun e=>by
   rw[tx oD,e] at hi;simp at hi
  have h:=hid (oa V p n w l.v l.f);generalize (fI p n).getD (-1)=O at D h;have X:(O !=5)=true:=by simpa using D
  go_enter Tryz.func140,Tryz.ntmps140
  go_wp2_with (first|((with_reducible refine gld 28 ?_);refine hU oR _ rfl _ rfl V B ?_))
  refine h.mono ?_;rintro r w1 ⟨rfl,o⟩;have c:=hid o;go_wp2_with fail
  go_ret2
  exact⟨by rw[b.out];rfl,c.out⟩
 |true=>
  obtain⟨j,rfl,T⟩:=jU hi;have q:=hid hi;have h:=hid (oa V p j w l.v l.f);rw[show (fI p j).getD (-1)=5 by simpa [tx (p:=p) (f:=(j:Int)) (k:=5) oD] using hi] at h;have U:(j:Int)<(p.kinds.length:Int):=oA;go_enter Tryz.func140,Tryz.ntmps140
  go_wp2_with (first|((with_reducible refine gld 28 ?_);refine hU oR _ rfl _ rfl V B ?_))
  refine h.mono ?_;rintro r w1 ⟨rfl,o⟩;have c:=hid o;have Q:=(o.cell (p:=⟨vb,2,none⟩) (aj _ _ E)).trans E;go_wp2_with fail
  refine (Is a 255 _).mono ?_;rintro r w2 ⟨rfl,rfl⟩
  cases hw:dH 0 255 a with
  |false=>
   have b:=hid (show sAt p j a=(0,2) by unfold sAt;rw[q.out,hw];rfl);go_wp2_with fail
   go_ret2
   exact⟨by rw[b.out];rfl,c.out⟩
  |true=>
   have L:=ay hw;obtain⟨m,rfl⟩:∃m:Nat,a=m:=⟨a.toNat,oA⟩
   have hm:=L.2;have A:=hid hw;by_cases C:(m:Int)<16
   ·have b:=hid (show sAt p j m=((j:Int)*16+m,0) by unfold sAt;rw[q.out,A.out,ah rfl,ah rfl,ah C]);go_wp2_with fail
    go_ret2
    exact⟨by rw[b.out];rfl,c.out⟩
   ·have u:j*16+m/16<p.IB.length:=by have:=G.out;omega
    have M:((j:Int)*16+(m:Int)/16)=((j*16+m/16:Nat):Int):=oA;have d:=dN (H.out (j*16+m/16) u) c;have b:=hid (show sAt p j m=if p.IB[j*16+m/16] 0=5 then (p.IB[j*16+m/16] 1*16+(m:Int)%16,0) else (0,3) by
     unfold sAt;rw[q.out,A.out,ah rfl,ah rfl,ae C,M,af,aa,ac u];rfl)
    have z:=hid (Bj F _ (av u));generalize hy:j*16+m/16=y at*;have ab:(y:Int)<(p.IB.length:Int):=oA;have x0:=iN d (dm 7 _ 0 oA);have x1:=cS d (dm 7 _ 1 oA);have x2:=cS d (dm 7 _ 2 oA);have x3:=cS d (dm 7 _ 3 oA);have x4:=cS d (dm 7 _ 4 oA);have x5:=cS d (dm 7 _ 5 oA);generalize p.IB[y]=s at*;have R:=z.b0;have S:=z.b1;have x:=hid (bal c (.cells #[.int .i64 (s 0),.int .i64 (s 1),.int .i64 (s 2),.int .i64 (s 3),.int .i64 (s 4),.int .i64 (s 5)] 78));by_cases i:s 0=5
    ·have I:(s 0 !=5)=false:=by simpa using i
     rw[ah i] at b;clear i;go_wp2_with fail
     go_ret2
     exact⟨by rw[b.out];rfl,x.out⟩
    ·have I:(s 0 !=5)=true:=by simpa using i
     rw[ae i] at b;go_wp2_with fail
     go_ret2
     exact⟨by rw[b.out];rfl,x.out⟩
def kOf (s:Nat->Int) (k r:Int):(Nat->Int)×Int:=
 if s 0=0 then (fC,6) else if s 0=k then (if bits .and .i64 (s 4) r=r then (s,0) else (fC,4)) else (fC,3)
def kAt (p:PW) (n a k r:Int):(Nat->Int)×Int:=
 if (sAt p n a).2=0 then kOf (p.IB.getD (sAt p n a).1.toNat fC) k r else (fC,(sAt p n a).2)
theorem m6 {W:World} {B:Nat} {v0 v1 v2 v3 v4 v5 a b c d e f:Value} (h:∀o,W.cell? ⟨B,o,none⟩=(#[a,b,c,d,e,f]:Array Value)[o]?):
  ∀o,((((((W.setCell ⟨B,0,none⟩ v0).setCell ⟨B,1,none⟩ v1).setCell ⟨B,2,none⟩ v2).setCell ⟨B,3,none⟩ v3).setCell ⟨B,4,none⟩ v4).setCell ⟨B,5,none⟩ v5).cell? ⟨B,o,none⟩=(#[v0,v1,v2,v3,v4,v5]:Array Value)[o]? :=
 fU (fU (fU (fU (fU (fU h 0 oS v0) 1 oS v1) 2 oS v2) 3 oS v3) 4 oS v4) 5 oS v5
theorem vE {w W:World} {v0 v1 v2 v3 v4 v5:Value} (h:Below w.heap.size w W):Below w.heap.size w ((((((W.setCell ⟨w.heap.size,0,none⟩ v0).setCell ⟨w.heap.size,1,none⟩ v1).setCell ⟨w.heap.size,2,none⟩ v2).setCell ⟨w.heap.size,3,none⟩ v3).setCell ⟨w.heap.size,4,none⟩ v4).setCell ⟨w.heap.size,5,none⟩ v5):=
 iA (iA (iA (iA (iA (iA h (aq _) _) (aq _) _) (aq _) _) (aq _) _) (aq _) _) (aq _) _
theorem fH (vb:Nat) (V:Nat->Value) (p:PW) (n a k r:Int) (w:World) (l:ei w vb V p) (G:Snd p):
  Calls Tryz.prog 135 #[.pointer (some ⟨vb,0,none⟩),.int .i64 n,.int .i64 a,.int .i64 k,.int .i64 r] w fun x w'=>x=.returned (.tuple #[.agg (kv (kAt p n a k r).1),.int .i64 (kAt p n a k r).2])∧Below w.heap.size w w':=by
 have D:=hid l;have I:=hid G;have ab:=hid l.r;have M:=r11 2 l.r;obtain⟨q2,b2,ao,ad,e2,S,U⟩:=l.v.IB;have an:(p.IB.length:Int)<=1000:=by have:=l.f.IB;omega
 have am:(p.kinds.length:Int)<=1000:=by have:=l.f.kinds;omega
 have T:=G.lf.IB;have al:=G.lf.k1;obtain rfl:=S oA;have O:=hid U;have Z:=hid T;have K:=hid (show ∀W:World,Below W.heap.size W (W.alloc (.cells zK 78)) from fun W=>bal (ag _ _) _);have E:=hid (fun W (g:Below w.heap.size w W)=>jN vb V p n a W ⟨bj D.r g,D.v.below g,D.f⟩ I);have C:=hid (fun h=>FP I (n:=n) (a:=a) h);have A:=hid (show kAt p n a k r=if (sAt p n a).2=0 then kOf (p.IB.getD (sAt p n a).1.toNat fC) k r else (fC,(sAt p n a).2) from rfl);generalize (sAt p n a).1=t at E C A;generalize (sAt p n a).2=e at E C A;go_enter Tryz.func135,Tryz.ntmps135
 go_wp2_with fail
 refine (E.out _ (K.out w)).mono ?_;rintro r1 w1 ⟨rfl,g⟩;have m:=hid (btr (K.out w) g);have H:=cZ (bM w zK 78) oS g;have N:∀o,w1.frozen? ⟨w.heap.size,o,none⟩=false:=fun o=>(g.frozen (p:=⟨w.heap.size,o,none⟩) oS).trans (World.frozen?_alloc_at _ _ _ _ rfl);have J:=hid (show w.heap.size<w1.heap.size by have:=g.size;simp at this;omega);have g2:=(m.cell (p:=⟨vb,2,none⟩) (aj _ _ M)).trans M;by_cases F:e=0
 rotate_left
 ·have ai:(e !=0)=true:=by simpa using F
  have b:=hid (show kAt p n a k r=(fC,e) by rw[A.out,ae F]);go_wp2_with fail
  have q:=m6 (v0:=.int .i64 0) (v1:=.int .i64 0) (v2:=.int .i64 0) (v3:=.int .i64 0) (v4:=.int .i64 0) (v5:=.int .i64 0) H;exact ar (v:=.tuple #[.agg (kv fC),.int .i64 e]) (by simp[results,Tryz.results135,go_sem,kv,fC,q 0,q 1,q 2,q 3,q 4,q 5]) rfl ⟨by rw[b.out],vE m⟩
 subst F;obtain⟨t0,t1⟩:=C.out rfl;obtain⟨y,rfl⟩:∃y:Nat,t=y:=⟨t.toNat,oA⟩
 have L:y<p.IB.length:=oA;have i:=dN (O.out y L) m;have B:=hid (show kAt p n a k r=kOf p.IB[y] k r by rw[A.out,ah rfl,af,aa,ac L];rfl);have x0:=iN i (dm 7 _ 0 oA);have x1:=cS i (dm 7 _ 1 oA);have x2:=cS i (dm 7 _ 2 oA);have x3:=cS i (dm 7 _ 3 oA);have x4:=cS i (dm 7 _ 4 oA);have x5:=cS i (dm 7 _ 5 oA);generalize p.IB[y]=s at*;have X:=bM w1 #[.int .i64 (s 0),.int .i64 (s 1),.int .i64 (s 2),.int .i64 (s 3),.int .i64 (s 4),.int .i64 (s 5)] 78;have z:=gx H J (.cells #[.int .i64 (s 0),.int .i64 (s 1),.int .i64 (s 2),.int .i64 (s 3),.int .i64 (s 4),.int .i64 (s 5)] 78);have Y:=uN N J (.cells #[.int .i64 (s 0),.int .i64 (s 1),.int .i64 (s 2),.int .i64 (s 3),.int .i64 (s 4),.int .i64 (s 5)] 78);have u:=hid (bal m (.cells #[.int .i64 (s 0),.int .i64 (s 1),.int .i64 (s 2),.int .i64 (s 3),.int .i64 (s 4),.int .i64 (s 5)] 78));by_cases c:s 0=0
 ·have P:(s 0==0)=true:=by simpa using c
  have b:=hid (show kAt p n a k r=(fC,6) by rw[B.out];unfold kOf;rw[ah c]);clear c;go_wp2_with fail
  have q:=m6 (v0:=.int .i64 0) (v1:=.int .i64 0) (v2:=.int .i64 0) (v3:=.int .i64 0) (v4:=.int .i64 0) (v5:=.int .i64 0) z;exact ar (v:=.tuple #[.agg (kv fC),.int .i64 6]) (by simp[results,Tryz.results135,go_sem,kv,fC,q 0,q 1,q 2,q 3,q 4,q 5]) rfl ⟨by rw[b.out],vE u⟩
 have P:(s 0==0)=false:=by simpa using c
 by_cases d:s 0=k
 rotate_left
 ·have Q:(s 0 !=k)=true:=by simpa using d
  have b:=hid (show kAt p n a k r=(fC,3) by rw[B.out];unfold kOf;rw[ae c,ae d]);go_wp2_with fail
  have q:=m6 (v0:=.int .i64 0) (v1:=.int .i64 0) (v2:=.int .i64 0) (v3:=.int .i64 0) (v4:=.int .i64 0) (v5:=.int .i64 0) z;exact ar (v:=.tuple #[.agg (kv fC),.int .i64 3]) (by simp[results,Tryz.results135,go_sem,kv,fC,q 0,q 1,q 2,q 3,q 4,q 5]) rfl ⟨by rw[b.out],vE u⟩
 have Q:(s 0 !=k)=false:=by simpa using d
 by_cases j:bits .and .i64 (s 4) r=r
 rotate_left
 ·have R:(bits .and .i64 (s 4) r !=r)=true:=by simpa using j
  have b:=hid (show kAt p n a k r=(fC,4) by rw[B.out];unfold kOf;rw[ae c,ah d,ae j]);clear c d j;go_wp2_with fail
  have q:=m6 (v0:=.int .i64 0) (v1:=.int .i64 0) (v2:=.int .i64 0) (v3:=.int .i64 0) (v4:=.int .i64 0) (v5:=.int .i64 0) z;exact ar (v:=.tuple #[.agg (kv fC),.int .i64 4]) (by simp[results,Tryz.results135,go_sem,kv,fC,q 0,q 1,q 2,q 3,q 4,q 5]) rfl ⟨by rw[b.out],vE u⟩
 have R:(bits .and .i64 (s 4) r !=r)=false:=by simpa using j
 have b:=hid (show kAt p n a k r=(s,0) by rw[B.out];unfold kOf;rw[ae c,ah d,ah j]);clear c d j;go_wp2_with fail
 have q:=m6 (v0:=.int .i64 (s 0)) (v1:=.int .i64 (s 1)) (v2:=.int .i64 (s 2)) (v3:=.int .i64 (s 3)) (v4:=.int .i64 (s 4)) (v5:=.int .i64 (s 5)) z;exact ar (v:=.tuple #[.agg (kv s),.int .i64 0]) (by simp[results,Tryz.results135,go_sem,kv,q 0,q 1,q 2,q 3,q 4,q 5]) rfl ⟨by rw[b.out],vE u⟩
end Wd
namespace Mem
open Go.RowKit
section
variable {P : Program} {md : Region.Mode} {ops : Array Oper} {Q : Exit -> Act -> World -> Prop} {n1 N : Nat} {R : Nat -> Value -> World -> Prop} {w0 : World} {a0 : Act}
end
end Mem
namespace Wd
open Go.RowKit Mem Bw Nums Mmu
theorem tE (z:Value) (n k:Nat) (a:z.cells=#[z]) (h:k<n):(madeCells z.cells (n*1))[k]? =some z:=by
 unfold madeCells;rw[a];simp[h,Nat.mod_one]
theorem zB:(Tryz.prog.info? 22).map (fun i=>(i.zero,i.size,i.bytes))=some (some (.slice none 0 0),1,24):=oK
theorem Cr:(Tryz.prog.info? 31).map (fun i=>(i.zero,i.size,i.bytes))=some (some (.slice none 0 0),1,24):=oK
theorem jH (w:World):ed w (.slice none 0 0) []:=⟨none,0,0,0,rfl,fun e=>by simp at e,fun j a=>by simp at a⟩
theorem tX {w:World} {B:Nat} {v:Value} {zs:List Int} (h:w.ownsRow B 3 1 v zs.length (d6 zs)):ed w v zs:=by
 rcases h.2 with ⟨rfl,a⟩|⟨g,cap,c,rfl,a,_⟩
 ·rw[List.length_eq_zero_iff.1 a];exact jH w
 ·refine⟨some ⟨g,0,none⟩,g,0,cap,rfl,fun _=>rfl,fun j b=>?_⟩;rw[aC,h.cellAt j oA];unfold d6;rw[cW,ac b];rfl
theorem _root_.Go.Proofs.YtaejnmmpddbbjaaGreatDoor.dS:type_of% @tX:= @tX
theorem ma (zs:List Int):(d6 zs).length=zs.length*1:=by simp[d6]
theorem pd (zs:List Int):∀u∈d6 zs,u.oneCell'=true:=by
 intro u a;obtain⟨z,_,rfl⟩:=List.mem_map.1 a;rfl
theorem ints_at {w:World} {b off:Nat} {zs:List Int} (h:gj w b off zs):∀(j:Nat) (u:Value),(d6 zs)[j]? =some u->w.cell? ((⟨b,off,none⟩:Addr).add j)=some u:=by
 intro j u a;have c:j<zs.length:=by have:=(List.getElem?_eq_some_iff.1 a).1;simpa [d6] using this
 rw[Addr.add_mid,h j c, <-a];simp[d6,c]
theorem ie (v:Value) (zs:List Int) (w:World) (F:ed w v zs) (hl:zs.length<=1000):
  Calls Tryz.prog 115 #[v] w fun r w'=>∃u,r=.returned u∧w'.ownsRow w.heap.size 3 1 u zs.length (d6 zs)∧Below w.heap.size w w':=by
 obtain⟨i0,hi,H,I,J⟩:=fj j0;have L:∀(w:World) (a:Option Addr) (n c g f:Nat),(binOp .eql 22 (.slice a n c) (.slice none g f)).run Tryz.prog w=.ok (.bool a.isNone) w:=fun w a n c g f=>Lib.run_eql_slice_nil w _ _ a n c g f Tryz.underlying22;obtain⟨q,b,off,cap,rfl,E,G⟩:=F;have i:=hid E;have B:=hid G
 cases q with
 |none=>
  have d:zs=[]:=by
   cases zs with
   |nil=>rfl
   |cons x l=>have:=i.out oS;cases this
  subst d;go_enter Tryz.func115,Tryz.ntmps115
  go_wp2_with fail
  go_ret
  exact⟨_,rfl,cO _ _ _ _,ag _ _⟩
 |some ad=>
  have A:=hid (show ∀(W:World),Below w.heap.size w W->∀(j:Nat) (u:Value),(d6 zs)[j]? =some u->W.cell? (ad.add j)=some u from fun W D=>by
   by_cases d:0<zs.length
   ·have:=i.out d
    cases this
    exact ints_at (B.below D)
   ·intro j u p;have:zs=[]:=by
     cases zs with
     |nil=>rfl
     |cons x l=>simp at d
    rw[this] at p;simp[d6] at p)
  have z:=hid (ma zs);have y:=hid (pd zs);have K:zs.length<=maxLen:=by unfold maxLen;omega
  have h:=hid (bal (ag w.heap.size w) (.cells #[] 3));have m:=hid (du (base:=w.heap.size) (e:=3) (size:=1) w #[] 0 (aq _) (bN _) oS);generalize d6 zs=cs at*;go_enter Tryz.func115,Tryz.ntmps115
  go_wp2_with (at_builtin;refine bg _ rfl _ _ 22 rfl w.heap.size 3 i0 (.int .i64 0) 1 8 Tryz.underlying22 hi H I J rfl oD _ _ _ rfl m ad zs.length cap cs rfl z (A.out _ h) y oA oA oS ?_;intro M N s o _;have t:=hid (h.grown o oS (fun k hk=>(m.lt k hk).1));have C:=hid s;clear s o)
  go_ret
  refine⟨_,rfl,?_,t.out⟩;have:=C.out;rw[aC,eI] at this;exact this
def noP:PW:={IE:=[],kinds:=[],IB:=[],IA:=[],lines:=[],bits:=[],IC:=[],ready:=[],ID:=[],IF:=[],time:=0}
def iw (k:Nat):Value:=if k=10 then .int .i64 0 else .slice none 0 0
theorem gT (w:World):fy w iw noP:=
 ⟨jH w,jH w,⟨none,0,0,0,rfl,fun e=>by simp[noP] at e,fun j a=>by simp[noP] at a⟩,⟨none,0,0,0,rfl,fun e=>by simp[noP] at e,fun j a=>by simp[noP] at a⟩,⟨none,0,0,0,rfl,fun e=>by simp[noP] at e,fun j a=>by simp[noP] at a⟩,jH w,jH w,⟨none,0,0,0,rfl,fun e=>by simp[noP] at e,fun j a=>by simp[noP] at a⟩,⟨none,0,0,0,rfl,fun e=>by simp[noP] at e,fun j a=>by simp[noP] at a⟩,jH w,rfl⟩
def fo (n:Nat) (fs:List (Nat->Int)):List Value:=fs.flatMap (cf n)
theorem gF (n:Nat):∀fs,(fo n fs).length=fs.length*n
 |[]=>by simp[fo]
 |f::r=>by
  have:=gF n r;unfold fo at this ⊢;rw[List.flatMap_cons,ax,az,this,eh,Nat.succ_mul];omega
theorem kM (n:Nat) (fs:List (Nat->Int)):∀u∈fo n fs,u.oneCell'=true:=by
 intro u a;obtain⟨f,_,h⟩:=List.mem_flatMap.1 a;exact cC n f u h
theorem qT (n:Nat):∀(fs:List (Nat->Int)) (j:Nat) (u:Value),(fo n fs)[j]? =some u->∃(i k:Nat) (h:i<fs.length),k<n∧j=i*n+k∧u=.int .i64 (fs[i] k)
 |[],j,u,h=>by simp[fo] at h
 |f::r,j,u,h=>by
  have e:fo n (f::r)=cf n f++fo n r:=by unfold fo;rw[List.flatMap_cons]
  rw[e] at h;by_cases a:j<n
  ·rw[List.getElem?_append_left (by rw[az];exact a),dm n f j a] at h;exact⟨0,j,oS,a,oS,(aL h).symm⟩
  ·rw[dV (by rw[az];omega),az] at h;obtain⟨i,k,hi,hk,c,b⟩:=qT n r (j - n) u h;exact⟨i+1,k,by simpa using hi,hk,by rw[Nat.succ_mul];omega,by simpa using b⟩
theorem i6 (n:Nat):∀(fs:List (Nat->Int)) (i k:Nat) (h:i<fs.length),k<n->(fo n fs)[i*n+k]? =some (.int .i64 (fs[i] k))
 |[],_,_,h,_=>by simp at h
 |f::r,i,k,h,hk=>by
  have e:fo n (f::r)=cf n f++fo n r:=by unfold fo;rw[List.flatMap_cons]
  rw[e]
  match i,h with
  |0,_=>
   rw[List.getElem?_append_left (by rw[az];omega),Nat.zero_mul,aC,dm n f k hk];rfl
  |i+1,h=>
   rw[dV (by rw[az,Nat.succ_mul];omega),az,show (i+1)*n+k - n=i*n+k by rw[Nat.succ_mul];omega,i6 n r i k (by simpa using h) hk];rfl
theorem j6 {n b off:Nat} {W:World} {fs:List (Nat->Int)} (h:∀j (c:j<fs.length),W.rangeAt b (off+j*n) (cf n fs[j])):∀(j:Nat) (u:Value),(fo n fs)[j]? =some u->W.cell? ((⟨b,off,none⟩:Addr).add j)=some u:=by
 intro j u a;obtain⟨i,k,hi,hk,rfl,rfl⟩:=qT n fs j u a;rw[Addr.add_mid, <-Nat.add_assoc];exact h i hi k _ (dm n _ k hk)
theorem kI {n E B:Nat} {w:World} {v:Value} {fs:List (Nat->Int)} (h:w.ownsRow B E n v fs.length (fo n fs)):RowsIn n w v fs:=by
 rcases h.2 with ⟨rfl,c⟩|⟨g,cap,d,rfl,c,_⟩
 ·exact⟨none,0,0,0,by rw[c],fun h=>oA,fun j a=>oA⟩
 ·refine⟨some ⟨g,0,none⟩,g,0,cap,rfl,fun _=>rfl,fun j a k u b=>?_⟩;have hk:k<n:=by
   have:=(List.getElem?_eq_some_iff.1 b).1
   rwa [az] at this
  rw[dm n _ k hk] at b;rw[aC,h.cellAt (j*n+k) (by
   have:(j+1)*n<=fs.length*n:=Nat.mul_le_mul_right n a;rw[Nat.succ_mul] at this;omega),i6 n fs j k a hk]
  exact b
theorem mK:(Tryz.prog.info? 80).map (fun i=>(i.zero,i.size,i.bytes))=some (some (.agg zV),7,56):=oK
theorem rQ (v:Value) (fs:List (Nat->Int)) (w:World) (F:RowsIn 7 w v fs) (hl:fs.length<=1000):
  Calls Tryz.prog 116 #[v] w fun r w'=>∃u,r=.returned u∧w'.ownsRow w.heap.size 80 7 u fs.length (fo 7 fs)∧Below w.heap.size w w':=by
 obtain⟨i0,hi,H,I,J⟩:=fj mK;have L:∀(w:World) (a:Option Addr) (n c h g:Nat),(binOp .eql 23 (.slice a n c) (.slice none h g)).run Tryz.prog w=.ok (.bool a.isNone) w:=fun w a n c h g=>Lib.run_eql_slice_nil w _ _ a n c h g Tryz.underlying23;obtain⟨q,b,off,cap,rfl,E,G⟩:=F;have m:=hid E;have B:=hid G
 cases q with
 |none=>
  have d:fs=[]:=by
   cases fs with
   |nil=>rfl
   |cons x l=>have:=m.out oS;cases this
  subst d;go_enter Tryz.func116,Tryz.ntmps116
  go_wp2_with fail
  go_ret
  exact⟨_,rfl,cO _ _ _ _,ag _ _⟩
 |some ad=>
  have A:=hid (show ∀(W:World),Below w.heap.size w W->∀(j:Nat) (u:Value),(fo 7 fs)[j]? =some u->W.cell? (ad.add j)=some u from fun W D=>by
   by_cases d:0<fs.length
   ·have:=m.out d
    cases this
    exact j6 fun j f=>dN (B.out j f) D
   ·intro j u f;have:fs=[]:=by
     cases fs with
     |nil=>rfl
     |cons x l=>simp at d
    rw[this] at f;simp[fo] at f)
  have z:=hid (gF 7 fs);have y:=hid (kM 7 fs);have K:fs.length<=maxLen:=by unfold maxLen;omega
  have i:=hid (bal (ag w.heap.size w) (.cells #[] 80));have o:=hid (du (base:=w.heap.size) (e:=80) (size:=7) w #[] 0 (aq _) (bN _) oS);generalize fo 7 fs=cs at*;go_enter Tryz.func116,Tryz.ntmps116
  go_wp2_with (at_builtin;refine bg _ rfl _ _ 23 rfl w.heap.size 80 i0 (.agg zV) 7 56 Tryz.underlying23 hi H I J rfl oD _ _ _ rfl o ad fs.length cap cs rfl z (A.out _ i) y oA oA oS ?_;intro M N s p _;have t:=hid (i.grown p oS (fun k hk=>(o.lt k hk).1));have C:=hid s;clear s p)
  go_ret
  refine⟨_,rfl,?_,t.out⟩;have:=C.out;rw[aC,eI] at this;exact this
theorem qt:(Tryz.prog.info? 45).map (fun i=>(i.zero,i.size,i.bytes))=some (some (.agg zT),20,160):=oK
theorem rR (v:Value) (fs:List (Nat->Int)) (w:World) (F:RowsIn 20 w v fs) (hl:fs.length<=1000):
  Calls Tryz.prog 117 #[v] w fun r w'=>∃u,r=.returned u∧w'.ownsRow w.heap.size 45 20 u fs.length (fo 20 fs)∧Below w.heap.size w w':=by
 obtain⟨i0,hi,H,I,J⟩:=fj qt;have L:∀(w:World) (a:Option Addr) (n c h g:Nat),(binOp .eql 24 (.slice a n c) (.slice none h g)).run Tryz.prog w=.ok (.bool a.isNone) w:=fun w a n c h g=>Lib.run_eql_slice_nil w _ _ a n c h g Tryz.underlying24;obtain⟨q,b,off,cap,rfl,E,G⟩:=F;have m:=hid E;have B:=hid G
 cases q with
 |none=>
  have d:fs=[]:=by
   cases fs with
   |nil=>rfl
   |cons x l=>have:=m.out oS;cases this
  subst d;go_enter Tryz.func117,Tryz.ntmps117
  go_wp2_with fail
  go_ret
  exact⟨_,rfl,cO _ _ _ _,ag _ _⟩
 |some ad=>
  have A:=hid (show ∀(W:World),Below w.heap.size w W->∀(j:Nat) (u:Value),(fo 20 fs)[j]? =some u->W.cell? (ad.add j)=some u from fun W D=>by
   by_cases d:0<fs.length
   ·have:=m.out d
    cases this
    exact j6 fun j f=>dN (B.out j f) D
   ·intro j u f;have:fs=[]:=by
     cases fs with
     |nil=>rfl
     |cons x l=>simp at d
    rw[this] at f;simp[fo] at f)
  have z:=hid (gF 20 fs);have y:=hid (kM 20 fs);have K:fs.length<=maxLen:=by unfold maxLen;omega
  have i:=hid (bal (ag w.heap.size w) (.cells #[] 45));have o:=hid (du (base:=w.heap.size) (e:=45) (size:=20) w #[] 0 (aq _) (bN _) oS);generalize fo 20 fs=cs at*;go_enter Tryz.func117,Tryz.ntmps117
  go_wp2_with (at_builtin;refine bg _ rfl _ _ 24 rfl w.heap.size 45 i0 (.agg zT) 20 160 Tryz.underlying24 hi H I J rfl oD _ _ _ rfl o ad fs.length cap cs rfl z (A.out _ i) y oA oA oS ?_;intro M N s p _;have t:=hid (i.grown p oS (fun k hk=>(o.lt k hk).1));have C:=hid s;clear s p)
  go_ret
  refine⟨_,rfl,?_,t.out⟩;have:=C.out;rw[aC,eI] at this;exact this
def InO (w:World) (lo hi I s:Nat) (u:Value) (c:Nat×List Value):Prop:=w.ownsRow lo I s u c.1 c.2∧∀k,u.ownBlock=some k->k<hi
theorem InO.below {w w':World} {lo hi I s:Nat} {u:Value} {c:Nat×List Value} (h:InO w lo hi I s u c) (a:Below w.heap.size w w'):InO w' lo hi I s u c:=⟨fO h.1 a,h.2⟩
theorem _root_.Go.Proofs.YtaejnmmpddbbjaaGreatDoor.bY:type_of% @InO.below:= @InO.below
theorem InO.set {w:World} {lo hi I s:Nat} {u:Value} {c:Nat×List Value} (h:InO w lo hi I s u c) {a:Addr} (b:a.block<lo) (x:Value):InO (w.setCell a x) lo hi I s u c:=⟨ownsRow_setCell_below h.1 b x,h.2⟩
structure mj (w:World) (g n O I s:Nat) (cc:Nat->Nat×List Value) (k:Nat) (us:List Value) (m:Nat->Nat):Prop where
 len:us.length=k
 row:w.ownsRow g O 1 (.slice (some ⟨g,0,none⟩) n n) n (us++List.replicate (n - k) (.slice none 0 0))
 lo:∀j,j<=k->g<m j
 hi:m k<=w.heap.size
 each:∀j (h:j<us.length),InO w (m j) (m (j+1)) I s us[j] (cc j)
theorem mj.below {w w':World} {g n O I s k:Nat} {b:Nat->Nat×List Value} {us:List Value} {m:Nat->Nat} (h:mj w g n O I s b k us m) (a:Below w.heap.size w w'):mj w' g n O I s b k us m:=
 ⟨h.len,fO h.row a,h.lo,aB h.hi a.size,fun j c=>(h.each j c).below a⟩
theorem mj.cell {w:World} {g n O I s k:Nat} {a:Nat->Nat×List Value} {us:List Value} {m:Nat->Nat} (h:mj w g n O I s a k us m) (hk:k<n):w.cell? ⟨g,k,none⟩=some (.slice none 0 0):=by
 rw[h.row.cellAt k oA,dV (by rw[h.len];exact aq _),h.len,Nat.sub_self,List.getElem?_replicate,ah oA]
theorem mj.more {w w1:World} {g n O I s k:Nat} {a:Nat->Nat×List Value} {us:List Value} {m:Nat->Nat} (h:mj w g n O I s a k us m) (hk:k<n) (f:Below w.heap.size w w1) {u:Value} (d:w1.ownsRow w.heap.size I s u (a k).1 (a k).2):
  mj (w1.setCell ⟨g,k,none⟩ u) g n O I s a (k+1) (us++[u]) (fun j=>if j<=k then m j else w1.heap.size):=by
 have b:=h.below f;refine⟨by simp[h.len],?_,fun j c=>?_,?_,fun j c=>?_⟩
 ·have:=(b.row.stored k u).1;have e:(us++List.replicate (n - k) (Value.slice none 0 0)).set k u=us++[u]++List.replicate (n - (k+1)) (.slice none 0 0):=by
   rw[List.set_append_right _ _ (by rw[h.len];exact aq _),h.len,Nat.sub_self,show n - k=(n - (k+1))+1 by omega,List.replicate_succ,List.set_cons_zero,List.append_assoc];rfl
  rwa [e] at this
 ·by_cases e:j<=k
  ·rw[ah e];exact h.lo j e
  ·rw[ae e];exact aF (h.lo k (aq _)) b.hi
 ·rw[ae oA];simp
 ·by_cases e:j<k
  ·rw[List.getElem_append_left (by rw[h.len];exact e),ah oA,ah oA];exact (b.each j (by rw[h.len];exact e)).set (h.lo j oA) u
  ·have i:j=k:=by simp[h.len] at c;omega
   subst i;rw[List.getElem_append_right (by rw[h.len];exact aq _),ah (aq _),ae oA];simp only[h.len,Nat.sub_self,aS];exact (show InO w1 (m j) w1.heap.size I s u (a j) from⟨d.mono h.hi,fun x l=>(d.lt x l).2⟩).set (h.lo j (aq _)) u
theorem mj.start (w:World) (n O I s:Nat) (b:Nat->Nat×List Value) (f:n<=maxLen) (a:Array Value) (c:a=Array.replicate n (.slice none 0 0)):mj (w.alloc (.cells a O)) w.heap.size n O I s b 0 [] (fun _=>w.heap.size+1):=by
 subst c;refine⟨rfl,?_,fun _ _=>Nat.lt_succ_self _,oS,fun j d=>by simp at d⟩;have:=World.ownsRow_lit (base:=w.heap.size) (e:=O) (size:=1) w (Array.replicate n (.slice none 0 0)) n (aq _) f oS;simpa using this
def iG (w:World) (lo hi O I s n:Nat) (v:Value) (cc:Nat->Nat×List Value):Prop:=∃g us m,v=.slice (some ⟨g,0,none⟩) n n∧lo<=g∧m n<=hi∧(∀j,j<n->m j<=m (j+1))∧mj w g n O I s cc n us m
def ci (ls:List (List Int)) (j:Nat):Nat×List Value:=((ls.getD j []).length,d6 (ls.getD j []))
def ce (ls:List (List Ent)) (j:Nat):Nat×List Value:=((ls.getD j []).length,fx (ls.getD j []))
theorem iZ (n:Nat):madeCells (Value.cells (.slice none 0 0)) (n*1)=Array.replicate n (Value.slice none 0 0):=by
 apply Array.ext_getElem?;intro k;by_cases h:k<n
 ·rw[tE _ _ _ rfl h];simp[h]
 ·rw[Array.getElem?_eq_none (by unfold madeCells;simp;omega)];simp[h]
theorem tW {B e size n:Nat} {w:World} {v:Value} {xs:List Value} (h:w.ownsRow B e size v n xs):∃q c,v=.slice q n c:=by
 rcases h.2 with ⟨rfl,rfl⟩|⟨g,cap,a,rfl,_⟩
 ·exact⟨_,_,rfl⟩
 ·exact⟨_,_,rfl⟩
theorem _root_.Go.Proofs.YtaejnmmpddbbjaaGreatDoor.eN:type_of% @tW:= @tW
theorem rA (v:Value) (ls:List (List Int)) (w:World) (O:gA w v ls) (hl:ls.length<=1000) (L:∀l∈ls,l.length<=1000):
  Calls Tryz.prog 118 #[v] w fun r w'=>∃u,r=.returned u∧iG w' w.heap.size w'.heap.size 22 3 1 ls.length u (ci ls)∧Below w.heap.size w w':=by
 obtain⟨q,b,off,cap,rfl,M,Q⟩:=O;have G:=hid M;have I:=hid Q;have H:=hid L;have W:(ls.length:Int)<=1000:=oA;have mk:=gU Tryz.underlying25 zB oD oD ls.length hl w;rw[iZ] at mk;have t:=hid (mj.start w ls.length 22 3 1 (ci ls) (by unfold maxLen;omega) _ rfl);have p:=hid (bal (ag w.heap.size w) (.cells (Array.replicate ls.length (Value.slice none 0 0)) 22));have J:=hid (show (w.alloc (.cells (Array.replicate ls.length (Value.slice none 0 0)) 22)).heap.size=w.heap.size+1 by simp);go_enter Tryz.func118,Tryz.ntmps118
 go_wp2_with fail
 generalize World.alloc _ _=R at t p J ⊢
 go_loopw [11] (fun i wr=>∃(k:Nat),k<=ls.length∧i=.int .i64 k∧Hid (∃us m,mj wr w.heap.size ls.length 22 3 1 (ci ls) k us m∧∀j,j<k->m j<=m (j+1))∧Hid (Below w.heap.size w wr)) (fun i _=>ls.length - (intOf i).toNat)
 case atStart=>exact⟨0,oA,rfl,hid ⟨[],_,t.out,fun j K=>oA⟩,p⟩
 case round=>
  obtain⟨k,hk,rfl,s,f⟩:=hrel;by_cases d:k<ls.length
  ·have X:(k:Int)<(ls.length:Int):=oA;obtain⟨us,m,n,h⟩:=s.out;have N:=G.out oA;subst N;obtain⟨x,z,P⟩:=I.out k d;have T:=(f.cell (aj _ _ z)).trans z;have C:=hid (ie x ls[k] wr (P.below f) (H.out _ (av d)));have E:=hid (show (ci ls) k=(ls[k].length,d6 ls[k]) by unfold ci;rw[aa,ac d];rfl);have a:=hid n;have g:=hid h;go_wp2_with fail
   refine C.mono ?_;rintro r w1 ⟨u,rfl,y,c⟩;obtain⟨A,cu,rfl⟩:=eN y;have S:=(a.below c).cell d;have U:=(a.below c).row.frozenAt k;have F:=hid (a.more d c (u:=.slice A ls[k].length cu) (by rw[E.out];exact y));have B:=hid (iA (btr f c) (o:=k) (aq _) (.slice A ls[k].length cu));have D:=hid (aB a.hi c.size);go_wp2_with fail
   refine⟨⟨k+1,oA,by go_num,hid ⟨_,_,F.out,fun j K=>?_⟩,B⟩,by simp[intOf];omega⟩;by_cases e:j<k
   ·rw[ah oA,ah oA];exact g j e
   ·rw[ah oA,ae oA,show j=k by omega];exact D
  ·obtain rfl:k=ls.length:=oA;have V:¬((ls.length:Int)<(ls.length:Int)):=oA;obtain⟨us,m,n,h⟩:=s.out;have a:=hid n;have g:=hid h;go_wp2_with fail
   go_ret
   exact⟨_,rfl,⟨w.heap.size,us,m,rfl,aq _,a.hi,g.out,a.out⟩,f.out⟩
theorem yx (v:Value) (ls:List (List Ent)) (w:World) (L:iI w v ls) (hl:ls.length<=1000):
  Calls Tryz.prog 119 #[v] w fun r w'=>∃u,r=.returned u∧iG w' w.heap.size w'.heap.size 31 56 4 ls.length u (ce ls)∧Below w.heap.size w w':=by
 obtain⟨q,b,off,cap,rfl,J,N⟩:=L;have F:=hid J;have G:=hid N;have T:(ls.length:Int)<=1000:=oA;have mk:=gU Tryz.underlying26 Cr oD oD ls.length hl w;rw[iZ] at mk;have s:=hid (mj.start w ls.length 31 56 4 (ce ls) (by unfold maxLen;omega) _ rfl);have n:=hid (bal (ag w.heap.size w) (.cells (Array.replicate ls.length (Value.slice none 0 0)) 31));have H:=hid (show (w.alloc (.cells (Array.replicate ls.length (Value.slice none 0 0)) 31)).heap.size=w.heap.size+1 by simp);go_enter Tryz.func119,Tryz.ntmps119
 go_wp2_with fail
 generalize World.alloc _ _=O at s n H ⊢
 go_loopw [11] (fun i wr=>∃(k:Nat),k<=ls.length∧i=.int .i64 k∧Hid (∃us m,mj wr w.heap.size ls.length 31 56 4 (ce ls) k us m∧∀j,j<k->m j<=m (j+1))∧Hid (Below w.heap.size w wr)) (fun i _=>ls.length - (intOf i).toNat)
 case atStart=>exact⟨0,oA,rfl,hid ⟨[],_,s.out,fun j I=>oA⟩,n⟩
 case round=>
  obtain⟨k,hk,rfl,p,d⟩:=hrel;by_cases f:k<ls.length
  ·have U:(k:Int)<(ls.length:Int):=oA;obtain⟨us,m,l,h⟩:=p.out;have K:=F.out oA;subst K;obtain⟨x,y,M⟩:=G.out k f;have Q:=(d.cell (aj _ _ y)).trans y;have B:=hid (vH x ls[k] wr (M.1.below d));have D:=hid (show (ce ls) k=(ls[k].length,fx ls[k]) by unfold ce;rw[aa,ac f];rfl);have a:=hid l;have g:=hid h;go_wp2_with fail
   refine B.mono ?_;rintro r w1 ⟨u,rfl,t,c⟩;obtain⟨z,cu,rfl⟩:=eN t;have P:=(a.below c).cell f;have R:=(a.below c).row.frozenAt k;have E:=hid (a.more f c (u:=.slice z ls[k].length cu) (by rw[D.out];exact t));have A:=hid (iA (btr d c) (o:=k) (aq _) (.slice z ls[k].length cu));have C:=hid (aB a.hi c.size);go_wp2_with fail
   refine⟨⟨k+1,oA,by go_num,hid ⟨_,_,E.out,fun j I=>?_⟩,A⟩,by simp[intOf];omega⟩;by_cases e:j<k
   ·rw[ah oA,ah oA];exact g j e
   ·rw[ah oA,ae oA,show j=k by omega];exact C
  ·obtain rfl:k=ls.length:=oA;have S:¬((ls.length:Int)<(ls.length:Int)):=oA;obtain⟨us,m,l,h⟩:=p.out;have a:=hid l;have g:=hid h;go_wp2_with fail
   go_ret
   exact⟨_,rfl,⟨w.heap.size,us,m,rfl,aq _,a.hi,g.out,a.out⟩,d.out⟩
theorem InO.IX {lo hi I s:Nat} {u:Value} {c:Nat×List Value} {B:Nat} (hB:B<lo):∀(b:List Value) (o:Nat) (w:World),InO w lo hi I s u c->InO (w.setCells B o b) lo hi I s u c
 |[],_,_,h=>h
 |v::r,o,w,h=>by
  rw[World.setCells];exact InO.IX hB r (o+1) _ (h.set (a:=⟨B,o,none⟩) hB v)
theorem mj.set {w:World} {g n O I s k:Nat} {b:Nat->Nat×List Value} {us:List Value} {m:Nat->Nat} (h:mj w g n O I s b k us m) {a:Addr} (c:a.block<g) (x:Value):mj (w.setCell a x) g n O I s b k us m:=
 ⟨h.len,ownsRow_setCell_below h.row c x,h.lo,by simpa using h.hi,fun j d=>(h.each j d).set (Nat.lt_trans c (h.lo j (by rw[<-h.len];omega))) x⟩
theorem iG.below {w w':World} {lo hi O I s n:Nat} {v:Value} {cc:Nat->Nat×List Value} (h:iG w lo hi O I s n v cc) (f:Below w.heap.size w w'):iG w' lo hi O I s n v cc:=by
 obtain⟨g,us,m,a,b,c,d,e⟩:=h;exact⟨g,us,m,a,b,c,d,e.below f⟩
theorem iG.set {w:World} {lo hi O I s n:Nat} {v:Value} {cc:Nat->Nat×List Value} (h:iG w lo hi O I s n v cc) {a:Addr} (i:a.block<lo) (x:Value):iG (w.setCell a x) lo hi O I s n v cc:=by
 obtain⟨g,us,m,c,b,d,e,f⟩:=h;exact⟨g,us,m,c,b,d,e,f.set (aF i b) x⟩
theorem iG.IX {lo hi O I s n:Nat} {v:Value} {b:Nat->Nat×List Value} {B:Nat} (hB:B<lo):∀(c:List Value) (o:Nat) (w:World),iG w lo hi O I s n v b->iG (w.setCells B o c) lo hi O I s n v b
 |[],_,_,h=>h
 |x::r,o,w,h=>by
  rw[World.setCells];exact iG.IX hB r (o+1) _ (h.set (a:=⟨B,o,none⟩) hB x)
structure gB (w:World) (L:Nat->Nat) (v:Nat->Value) (p:PW):Prop where
 mono:∀j,j<10->L j<=L (j+1)
 IE:InO w (L 0) (L 1) 3 1 (v 0) (p.IE.length,d6 p.IE)
 kinds:InO w (L 1) (L 2) 3 1 (v 1) (p.kinds.length,d6 p.kinds)
 IB:InO w (L 2) (L 3) 80 7 (v 2) (p.IB.length,fo 7 p.IB)
 IA:InO w (L 3) (L 4) 45 20 (v 3) (p.IA.length,fo 20 p.IA)
 lines:iG w (L 4) (L 5) 22 3 1 p.lines.length (v 4) (ci p.lines)
 bits:InO w (L 5) (L 6) 3 1 (v 5) (p.bits.length,d6 p.bits)
 IC:InO w (L 6) (L 7) 3 1 (v 6) (p.IC.length,d6 p.IC)
 ready:iG w (L 7) (L 8) 22 3 1 p.ready.length (v 7) (ci p.ready)
 ID:iG w (L 8) (L 9) 31 56 4 p.ID.length (v 8) (ce p.ID)
 IF:InO w (L 9) (L 10) 3 1 (v 9) (p.IF.length,d6 p.IF)
 time:v 10=.int .i64 p.time
theorem gB.le {w:World} {L:Nat->Nat} {v:Nat->Value} {p:PW} (h:gB w L v p):∀j,j<=10->L 0<=L j
 |0,_=>aq _
 |j+1,hj=>aB (h.le j oA) (h.mono j oA)
theorem gB.below {w w':World} {L:Nat->Nat} {v:Nat->Value} {p:PW} (h:gB w L v p) (a:Below w.heap.size w w'):gB w' L v p:=
 ⟨h.mono,h.IE.below a,h.kinds.below a,h.IB.below a,h.IA.below a,h.lines.below a,h.bits.below a,h.IC.below a,h.ready.below a,h.ID.below a,h.IF.below a,h.time⟩
theorem gB.IX {w:World} {L:Nat->Nat} {v:Nat->Value} {p:PW} (h:gB w L v p) {B:Nat} (hB:B<L 0) (a:List Value) (o:Nat):gB (w.setCells B o a) L v p:=
 ⟨h.mono,InO.IX (aF hB (h.le 0 oA)) a o w h.IE,InO.IX (aF hB (h.le 1 oA)) a o w h.kinds,InO.IX (aF hB (h.le 2 oA)) a o w h.IB,InO.IX (aF hB (h.le 3 oA)) a o w h.IA,iG.IX (aF hB (h.le 4 oA)) a o w h.lines,InO.IX (aF hB (h.le 5 oA)) a o w h.bits,InO.IX (aF hB (h.le 6 oA)) a o w h.IC,iG.IX (aF hB (h.le 7 oA)) a o w h.ready,iG.IX (aF hB (h.le 8 oA)) a o w h.ID,InO.IX (aF hB (h.le 9 oA)) a o w h.IF,h.time⟩
theorem InO.ints {w:World} {lo hi:Nat} {u:Value} {zs:List Int} (h:InO w lo hi 3 1 u (zs.length,d6 zs)):ed w u zs:=dS h.1
theorem iG.lists {w:World} {lo hi O:Nat} {v:Value} {ls:List (List Int)} (h:iG w lo hi O 3 1 ls.length v (ci ls)):gA w v ls:=by
 obtain⟨g,us,m,rfl,_,_,_,a⟩:=h;refine⟨some ⟨g,0,none⟩,g,0,ls.length,rfl,fun _=>rfl,fun j c=>?_⟩;have b:j<us.length:=by rw[a.len];exact c
 have d:=a.row.cellAt j oA;rw[List.getElem?_append_left b,ac b] at d;refine⟨us[j],by rw[aC];exact d,?_⟩;have:=(a.each j b).1;unfold ci at this;rw[aa,ac c] at this;exact dS this
theorem xL {w:World} {B:Nat} {v:Value} {l:List Ent} (h:w.ownsRow B 56 4 v l.length (fx l)) (hl:l.length<=100):jk w v l∧vx v:=by
 rcases h.2 with ⟨rfl,b⟩|⟨g,cap,f,rfl,b,i,d,_⟩
 ·rw[List.length_eq_zero_iff.1 b];exact⟨⟨none,0,0,0,rfl,fun e=>by simp at e,fun j a=>by simp at a,oS⟩,aq _⟩
 ·refine⟨⟨some ⟨g,0,none⟩,g,0,cap,rfl,fun _=>rfl,fun j a=>?_,hl⟩,d⟩;obtain⟨c0,c1,c2,c⟩:=mr l j a;simp only[aC];exact⟨(h.cellAt (j*4) oA).trans c0,(h.cellAt (j*4+1) oA).trans c1,(h.cellAt (j*4+2) oA).trans c2,(h.cellAt (j*4+3) oA).trans c⟩
theorem iG.ID {w:World} {lo hi O:Nat} {v:Value} {ls:List (List Ent)} (h:iG w lo hi O 56 4 ls.length v (ce ls)) (hl:∀l∈ls,l.length<=100):iI w v ls:=by
 obtain⟨g,us,m,rfl,_,_,_,a⟩:=h;refine⟨some ⟨g,0,none⟩,g,0,ls.length,rfl,fun _=>rfl,fun j b=>?_⟩;have c:j<us.length:=by rw[a.len];exact b
 have d:=a.row.cellAt j oA;rw[List.getElem?_append_left c,ac c] at d;refine⟨us[j],by rw[aC];exact d,?_⟩;have:=(a.each j c).1;unfold ce at this;rw[aa,ac b] at this;exact xL this (hl _ (av b))
theorem gB.v {w:World} {L:Nat->Nat} {v:Nat->Value} {p:PW} (h:gB w L v p) (hl:∀l∈p.ID,l.length<=100):fy w v p:=
 ⟨h.IE.ints,h.kinds.ints,kI h.IB.1,kI h.IA.1,h.lines.lists,h.bits.ints,h.IC.ints,h.ready.lists,h.ID.ID hl,h.IF.ints,h.time⟩
theorem sH {w:World} {v:Value} {ls:List (List Ent)} (h:iI w v ls):∀l∈ls,l.length<=100:=by
 intro l hl;obtain⟨_,b,off,_,_,_,a⟩:=h;obtain⟨j,d,rfl⟩:=List.mem_iff_getElem.1 hl;obtain⟨x,_,⟨_,_,_,_,_,_,_,c⟩,_⟩:=a j d;exact c
