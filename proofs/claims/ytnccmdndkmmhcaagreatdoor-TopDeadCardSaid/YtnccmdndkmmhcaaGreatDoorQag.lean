/- Qag -/
import Derived.Deep.RegionHeld3
import Derived.Deep.Onto
import Derived.Test.YtnccmdndkmmhcaaGreatDoorQaf
set_option maxRecDepth 100000
set_option maxHeartbeats 16000000
namespace Go.Proofs.YtnccmdndkmmhcaaGreatDoor
namespace Wd
open Go.RowKit Mem Bw Nums Mmu
theorem Bh {p:PW} (h:Snd p) {k:Nat} (hk:k<p.IA.length) (h0:p.IA[k] 0≠0):opB p p.IA[k]=true:=by
 have a:bsB p (p.kinds.getD (k/16) 0) p.IA[k]=false:=h.b3 k hk;generalize p.IA[k]=s at h0 a ⊢;unfold bsB at a;rw[show zkB s=false from aw fun b=>h0 b.1,ae oD] at a;simp only[cS,am] at a;exact a.1.1.2
theorem Bg {p:PW} (h:Snd p):∀s∈p.IA,KB s:=Fb (g:=fun k=>p.kinds.getD (k/16) 0) h.b3
def sAt (p:PW) (n a:Int):Int×Int:=
 if isB p n 5 then (if ek 0 255 a then (if a<16 then (n*16+a,0) else
  if (p.IA.getD (n*16+a/16).toNat (fun _=>0)) 0=5 then ((p.IA.getD (n*16+a/16).toNat (fun _=>0)) 1*16+a%16,0) else (0,3)) else (0,2)) else (0,3)
def fv:Nat->Int:=fun _=>0
theorem yt {p:PW} (h:Snd p) {k:Nat} (hk:k<p.IA.length) (h0:p.IA[k] 0≠0):0<=p.IA[k] 1∧1<=p.IA[k] 2∧p.IA[k] 1+p.IA[k] 2<=(p.kinds.length:Int)∧0<=p.IA[k] 4∧p.IA[k] 4<=7:=by
 have a:=Bh h hk h0;generalize p.IA[k]=s at h0 a ⊢;unfold opB at a;simp only[am,bu,bf] at a;obtain⟨b0,b1,l0,l1,b,c⟩:=nU a.1.1 h0;exact⟨b0,l0,a.1.2,b,c⟩
theorem FQ {p:PW} (h:Snd p) {n a:Int} (h0:(sAt p n a).2=0):0<=(sAt p n a).1∧(sAt p n a).1<(p.IA.length:Int):=by
 unfold sAt at h0 ⊢;have hl:=h.lf.IA
 cases hi:isB p n 5 with
 |false=>rw[hi] at h0;simp at h0
 |true=>
  obtain⟨j,rfl,e⟩:=jP hi;rw[hi] at h0;rw[ag rfl] at h0 ⊢
  cases hw:ek 0 255 a with
  |false=>rw[hw] at h0;simp at h0
  |true=>
   have d:=aA hw;rw[hw] at h0;rw[ag rfl] at h0 ⊢;by_cases b:a<16
   ·rw[ag b];simp only;omega
   ·rw[ae b] at h0 ⊢;have c:((j:Int)*16+a/16).toNat<p.IA.length:=oA;rw[aa,ac c] at h0 ⊢;simp only[aR] at h0 ⊢;split at h0
    ·rename_i h5;rw[ag h5];have:=yt h c oA;simp only;omega
    ·simp at h0
theorem jG (vb:Nat) (V:Nat->Value) (p:PW) (n a:Int) (w:World) (hv:ec w vb V p) (q:Snd p):
  Calls Tryz.prog 236 #[.pointer (some ⟨vb,0,none⟩),.int .i64 n,.int .i64 a] w fun r w'=>r=.returned (.tuple #[.int .i64 (sAt p n a).1,.int .i64 (sAt p n a).2])∧Below w.heap.size w w':=by
 have i:=hid hv;have E:=hid q;have A:=hid hv.r;have D:=r11 2 hv.r;obtain⟨q2,b2,ad,O,e2,I,M⟩:=hv.v.IA;have Y:(p.IA.length:Int)<=1000:=by have:=hv.f.IA;omega
 have X:(p.kinds.length:Int)<=1000:=by have:=hv.f.kinds;omega
 have J:=q.lf.IA;have U:=q.lf.k1;obtain rfl:=I oA;have G:=hid M;have F:=hid J
 cases hi:isB p n 5 with
 |false=>
  have b:=hid (show sAt p n a=(0,3) by unfold sAt;rw[hi];rfl);have C:¬(fI p n).getD (-1)=5:=fun e=>by
   rw[tR oD,e] at hi;simp at hi
  have g:=hid (nV V p n w i.v i.f);generalize (fI p n).getD (-1)=N at C g;have W:(N !=5)=true:=by simpa using C
  go_enter Tryz.func236,Tryz.ntmps236
  go_wp2_with (first|((with_reducible refine gld 28 ?_);refine iA oR _ rfl _ rfl V A ?_))
  refine g.mono ?_;rintro r w1 ⟨rfl,l⟩;have c:=hid l;go_wp2_with fail
  go_ret2
  exact⟨by rw[b.out];rfl,c.out⟩
 |true=>
  obtain⟨j,rfl,S⟩:=jP hi;have o:=hid hi;have g:=hid (nV V p j w i.v i.f);rw[show (fI p j).getD (-1)=5 by simpa [tR (p:=p) (f:=(j:Int)) (k:=5) oD] using hi] at g;have T:(j:Int)<(p.kinds.length:Int):=oA;go_enter Tryz.func236,Tryz.ntmps236
  go_wp2_with (first|((with_reducible refine gld 28 ?_);refine iA oR _ rfl _ rfl V A ?_))
  refine g.mono ?_;rintro r w1 ⟨rfl,l⟩;have c:=hid l;have P:=(l.cell (p:=⟨vb,2,none⟩) (aj _ _ D)).trans D;go_wp2_with fail
  refine (Iq a 255 _).mono ?_;rintro r w2 ⟨rfl,rfl⟩
  cases hw:ek 0 255 a with
  |false=>
   have b:=hid (show sAt p j a=(0,2) by unfold sAt;rw[o.out,hw];rfl);go_wp2_with fail
   go_ret2
   exact⟨by rw[b.out];rfl,c.out⟩
  |true=>
   have K:=aA hw;obtain⟨m,rfl⟩:∃m:Nat,a=m:=⟨a.toNat,oA⟩
   have Z:=K.2;have z:=hid hw;by_cases B:(m:Int)<16
   ·have b:=hid (show sAt p j m=((j:Int)*16+m,0) by unfold sAt;rw[o.out,z.out,ag rfl,ag rfl,ag B]);go_wp2_with fail
    go_ret2
    exact⟨by rw[b.out];rfl,c.out⟩
   ·have t:j*16+m/16<p.IA.length:=by have:=F.out;omega
    have L:((j:Int)*16+(m:Int)/16)=((j*16+m/16:Nat):Int):=oA;have d:=cW (G.out (j*16+m/16) t) c;have b:=hid (show sAt p j m=if p.IA[j*16+m/16] 0=5 then (p.IA[j*16+m/16] 1*16+(m:Int)%16,0) else (0,3) by
     unfold sAt;rw[o.out,z.out,ag rfl,ag rfl,ae B,L,ah,aa,ac t];rfl)
    have x:=hid (Bg E _ (av t));generalize hy:j*16+m/16=y at*;have ab:(y:Int)<(p.IA.length:Int):=oA;have x0:=hY d (dk 7 _ 0 oA);have x1:=cF d (dk 7 _ 1 oA);have x2:=cF d (dk 7 _ 2 oA);have x3:=cF d (dk 7 _ 3 oA);have x4:=cF d (dk 7 _ 4 oA);have x5:=cF d (dk 7 _ 5 oA);generalize p.IA[y]=s at*;have Q:=x.b0;have R:=x.b1;have u:=hid (bal c (.cells #[.int .i64 (s 0),.int .i64 (s 1),.int .i64 (s 2),.int .i64 (s 3),.int .i64 (s 4),.int .i64 (s 5)] 32));by_cases h:s 0=5
    ·have H:(s 0 !=5)=false:=by simpa using h
     rw[ag h] at b;clear h;go_wp2_with fail
     go_ret2
     exact⟨by rw[b.out];rfl,u.out⟩
    ·have H:(s 0 !=5)=true:=by simpa using h
     rw[ae h] at b;go_wp2_with fail
     go_ret2
     exact⟨by rw[b.out];rfl,u.out⟩
def kOf (s:Nat->Int) (k r:Int):(Nat->Int)×Int:=
 if s 0=0 then (fv,6) else if s 0=k then (if bits .and .i64 (s 4) r=r then (s,0) else (fv,4)) else (fv,3)
def kAt (p:PW) (n a k r:Int):(Nat->Int)×Int:=
 if (sAt p n a).2=0 then kOf (p.IA.getD (sAt p n a).1.toNat fv) k r else (fv,(sAt p n a).2)
theorem mX {W:World} {B:Nat} {v0 v1 v2 v3 v4 v5 a x1 x2 x3 x4 b:Value} (h:∀o,W.cell? ⟨B,o,none⟩=(#[a,x1,x2,x3,x4,b]:Array Value)[o]?):
  ∀o,((((((W.setCell ⟨B,0,none⟩ v0).setCell ⟨B,1,none⟩ v1).setCell ⟨B,2,none⟩ v2).setCell ⟨B,3,none⟩ v3).setCell ⟨B,4,none⟩ v4).setCell ⟨B,5,none⟩ v5).cell? ⟨B,o,none⟩=(#[v0,v1,v2,v3,v4,v5]:Array Value)[o]? :=
 fP (fP (fP (fP (fP (fP h 0 oS v0) 1 oS v1) 2 oS v2) 3 oS v3) 4 oS v4) 5 oS v5
theorem vT {w W:World} {v0 v1 v2 v3 v4 v5:Value} (h:Below w.heap.size w W):Below w.heap.size w ((((((W.setCell ⟨w.heap.size,0,none⟩ v0).setCell ⟨w.heap.size,1,none⟩ v1).setCell ⟨w.heap.size,2,none⟩ v2).setCell ⟨w.heap.size,3,none⟩ v3).setCell ⟨w.heap.size,4,none⟩ v4).setCell ⟨w.heap.size,5,none⟩ v5):=
 im (im (im (im (im (im h (aq _) _) (aq _) _) (aq _) _) (aq _) _) (aq _) _) (aq _) _
theorem fE (vb:Nat) (V:Nat->Value) (p:PW) (n a k r:Int) (w:World) (hv:ec w vb V p) (E:Snd p):
  Calls Tryz.prog 231 #[.pointer (some ⟨vb,0,none⟩),.int .i64 n,.int .i64 a,.int .i64 k,.int .i64 r] w fun x w'=>x=.returned (.tuple #[.agg (kv (kAt p n a k r).1),.int .i64 (kAt p n a k r).2])∧Below w.heap.size w w':=by
 have B:=hid hv;have G:=hid E;have Y:=hid hv.r;have K:=r11 2 hv.r;obtain⟨q2,b2,am,Z,e2,Q,S⟩:=hv.v.IA;have al:(p.IA.length:Int)<=1000:=by have:=hv.f.IA;omega
 have ai:(p.kinds.length:Int)<=1000:=by have:=hv.f.kinds;omega
 have R:=E.lf.IA;have ad:=E.lf.k1;obtain rfl:=Q oA;have M:=hid S;have X:=hid R;have I:=hid (show ∀W:World,Below W.heap.size W (W.alloc (.cells zK 32)) from fun W=>bal (af _ _) _);have C:=hid (fun W (d:Below w.heap.size w W)=>jG vb V p n a W ⟨bK B.r d,B.v.below d,B.f⟩ G);have A:=hid (fun h=>FQ G (n:=n) (a:=a) h);have u:=hid (show kAt p n a k r=if (sAt p n a).2=0 then kOf (p.IA.getD (sAt p n a).1.toNat fv) k r else (fv,(sAt p n a).2) from rfl);generalize (sAt p n a).1=t at C A u;generalize (sAt p n a).2=e at C A u;go_enter Tryz.func231,Tryz.ntmps231
 go_wp2_with fail
 refine (C.out _ (I.out w)).mono ?_;rintro r1 w1 ⟨rfl,d⟩;have j:=hid (btr (I.out w) d);have F:=cR (cq w zK 32) oS d;have L:∀o,w1.frozen? ⟨w.heap.size,o,none⟩=false:=fun o=>(d.frozen (p:=⟨w.heap.size,o,none⟩) oS).trans (World.frozen?_alloc_at _ _ _ _ rfl);have H:=hid (show w.heap.size<w1.heap.size by have:=d.size;simp at this;omega);have g2:=(j.cell (p:=⟨vb,2,none⟩) (aj _ _ K)).trans K;by_cases D:e=0
 rotate_left
 ·have ab:(e !=0)=true:=by simpa using D
  have b:=hid (show kAt p n a k r=(fv,e) by rw[u.out,ae D]);go_wp2_with fail
  have q:=mX (v0:=.int .i64 0) (v1:=.int .i64 0) (v2:=.int .i64 0) (v3:=.int .i64 0) (v4:=.int .i64 0) (v5:=.int .i64 0) F;exact ar (v:=.tuple #[.agg (kv fv),.int .i64 e]) (by simp[results,Tryz.results231,go_sem,kv,fv,q 0,q 1,q 2,q 3,q 4,q 5]) rfl ⟨by rw[b.out],vT j⟩
 subst D;obtain⟨t0,t1⟩:=A.out rfl;obtain⟨y,rfl⟩:∃y:Nat,t=y:=⟨t.toNat,oA⟩
 have J:y<p.IA.length:=oA;have g:=cW (M.out y J) j;have z:=hid (show kAt p n a k r=kOf p.IA[y] k r by rw[u.out,ag rfl,ah,aa,ac J];rfl);have x0:=hY g (dk 7 _ 0 oA);have x1:=cF g (dk 7 _ 1 oA);have x2:=cF g (dk 7 _ 2 oA);have x3:=cF g (dk 7 _ 3 oA);have x4:=cF g (dk 7 _ 4 oA);have x5:=cF g (dk 7 _ 5 oA);generalize p.IA[y]=s at*;have T:=cq w1 #[.int .i64 (s 0),.int .i64 (s 1),.int .i64 (s 2),.int .i64 (s 3),.int .i64 (s 4),.int .i64 (s 5)] 32;have m:=fh F H (.cells #[.int .i64 (s 0),.int .i64 (s 1),.int .i64 (s 2),.int .i64 (s 3),.int .i64 (s 4),.int .i64 (s 5)] 32);have U:=vf L H (.cells #[.int .i64 (s 0),.int .i64 (s 1),.int .i64 (s 2),.int .i64 (s 3),.int .i64 (s 4),.int .i64 (s 5)] 32);have l:=hid (bal j (.cells #[.int .i64 (s 0),.int .i64 (s 1),.int .i64 (s 2),.int .i64 (s 3),.int .i64 (s 4),.int .i64 (s 5)] 32));by_cases h0:s 0=0
 ·have N:(s 0==0)=true:=by simpa using h0
  have b:=hid (show kAt p n a k r=(fv,6) by rw[z.out];unfold kOf;rw[ag h0]);clear h0;go_wp2_with fail
  have q:=mX (v0:=.int .i64 0) (v1:=.int .i64 0) (v2:=.int .i64 0) (v3:=.int .i64 0) (v4:=.int .i64 0) (v5:=.int .i64 0) m;exact ar (v:=.tuple #[.agg (kv fv),.int .i64 6]) (by simp[results,Tryz.results231,go_sem,kv,fv,q 0,q 1,q 2,q 3,q 4,q 5]) rfl ⟨by rw[b.out],vT l⟩
 have N:(s 0==0)=false:=by simpa using h0
 by_cases c:s 0=k
 rotate_left
 ·have O:(s 0 !=k)=true:=by simpa using c
  have b:=hid (show kAt p n a k r=(fv,3) by rw[z.out];unfold kOf;rw[ae h0,ae c]);go_wp2_with fail
  have q:=mX (v0:=.int .i64 0) (v1:=.int .i64 0) (v2:=.int .i64 0) (v3:=.int .i64 0) (v4:=.int .i64 0) (v5:=.int .i64 0) m;exact ar (v:=.tuple #[.agg (kv fv),.int .i64 3]) (by simp[results,Tryz.results231,go_sem,kv,fv,q 0,q 1,q 2,q 3,q 4,q 5]) rfl ⟨by rw[b.out],vT l⟩
 have O:(s 0 !=k)=false:=by simpa using c
 by_cases i:bits .and .i64 (s 4) r=r
 rotate_left
 ·have P:(bits .and .i64 (s 4) r !=r)=true:=by simpa using i
  have b:=hid (show kAt p n a k r=(fv,4) by rw[z.out];unfold kOf;rw[ae h0,ag c,ae i]);clear h0 c i;go_wp2_with fail
  have q:=mX (v0:=.int .i64 0) (v1:=.int .i64 0) (v2:=.int .i64 0) (v3:=.int .i64 0) (v4:=.int .i64 0) (v5:=.int .i64 0) m;exact ar (v:=.tuple #[.agg (kv fv),.int .i64 4]) (by simp[results,Tryz.results231,go_sem,kv,fv,q 0,q 1,q 2,q 3,q 4,q 5]) rfl ⟨by rw[b.out],vT l⟩
 have P:(bits .and .i64 (s 4) r !=r)=false:=by simpa using i
 have b:=hid (show kAt p n a k r=(s,0) by rw[z.out];unfold kOf;rw[ae h0,ag c,ag i]);clear h0 c i;go_wp2_with fail
 have q:=mX (v0:=.int .i64 (s 0)) (v1:=.int .i64 (s 1)) (v2:=.int .i64 (s 2)) (v3:=.int .i64 (s 3)) (v4:=.int .i64 (s 4)) (v5:=.int .i64 (s 5)) m;exact ar (v:=.tuple #[.agg (kv s),.int .i64 0]) (by simp[results,Tryz.results231,go_sem,kv,q 0,q 1,q 2,q 3,q 4,q 5]) rfl ⟨by rw[b.out],vT l⟩
end Wd
namespace Mem
open Go.RowKit
section
variable {P : Program} {md : Region.Mode} {ops : Array Oper} {Q : Exit -> Act -> World -> Prop} {n1 N : Nat} {R : Nat -> Value -> World -> Prop} {w0 : World} {a0 : Act}
end
end Mem
namespace Wd
open Go.RowKit Mem Bw Nums Mmu
theorem tU (z:Value) (n k:Nat) (a:z.cells=#[z]) (h:k<n):(madeCells z.cells (n*1))[k]? =some z:=by
 unfold madeCells;rw[a];simp[h,Nat.mod_one]
theorem zI:(Tryz.prog.info? 22).map (fun i=>(i.zero,i.size,i.bytes))=some (some (.slice none 0 0),1,24):=oK
theorem Cn:(Tryz.prog.info? 38).map (fun i=>(i.zero,i.size,i.bytes))=some (some (.slice none 0 0),1,24):=oK
theorem jy (w:World):ei w (.slice none 0 0) []:=⟨none,0,0,0,rfl,fun e=>by simp at e,fun j a=>by simp at a⟩
theorem uh {w:World} {B:Nat} {v:Value} {zs:List Int} (h:w.ownsRow B 3 1 v zs.length (d6 zs)):ei w v zs:=by
 rcases h.2 with ⟨rfl,a⟩|⟨g,cap,c,rfl,a,_⟩
 ·rw[List.length_eq_zero_iff.1 a];exact jy w
 ·refine⟨some ⟨g,0,none⟩,g,0,cap,rfl,fun _=>rfl,fun j b=>?_⟩;rw[aC,h.cellAt j oA];unfold d6;rw[cZ,ac b];rfl
theorem _root_.Go.Proofs.YtnccmdndkmmhcaaGreatDoor.dM:type_of% @uh:= @uh
theorem lU (zs:List Int):(d6 zs).length=zs.length*1:=by simp[d6]
theorem o3 (zs:List Int):∀u∈d6 zs,u.oneCell'=true:=by
 intro u a;obtain⟨z,_,rfl⟩:=List.mem_map.1 a;rfl
theorem ints_at {w:World} {b off:Nat} {zs:List Int} (h:fY w b off zs):∀(j:Nat) (u:Value),(d6 zs)[j]? =some u->w.cell? ((⟨b,off,none⟩:Addr).add j)=some u:=by
 intro j u a;have c:j<zs.length:=by have:=(List.getElem?_eq_some_iff.1 a).1;simpa [d6] using this
 rw[Addr.add_mid,h j c, <-a];simp[d6,c]
theorem hJ (v:Value) (zs:List Int) (w:World) (hv:ei w v zs) (hl:zs.length<=1000):
  Calls Tryz.prog 203 #[v] w fun r w'=>∃u,r=.returned u∧w'.ownsRow w.heap.size 3 1 u zs.length (d6 zs)∧Below w.heap.size w w':=by
 obtain⟨i0,hi,F,G,H⟩:=fm kA;have J:∀(w:World) (a:Option Addr) (n c f d:Nat),(binOp .eql 22 (.slice a n c) (.slice none f d)).run Tryz.prog w=.ok (.bool a.isNone) w:=fun w a n c f d=>Lib.run_eql_slice_nil w _ _ a n c f d Tryz.underlying22;obtain⟨q,b,off,cap,rfl,D,E⟩:=hv;have h:=hid D;have A:=hid E
 cases q with
 |none=>
  have h0:zs=[]:=by
   cases zs with
   |nil=>rfl
   |cons x l=>have:=h.out oS;cases this
  subst h0;go_enter Tryz.func203,Tryz.ntmps203
  go_wp2_with fail
  go_ret
  exact⟨_,rfl,cH _ _ _ _,af _ _⟩
 |some ad=>
  have z:=hid (show ∀(W:World),Below w.heap.size w W->∀(j:Nat) (u:Value),(d6 zs)[j]? =some u->W.cell? (ad.add j)=some u from fun W C=>by
   by_cases h0:0<zs.length
   ·have:=h.out h0
    cases this
    exact ints_at (A.below C)
   ·intro j u o;have:zs=[]:=by
     cases zs with
     |nil=>rfl
     |cons x l=>simp at h0
    rw[this] at o;simp[d6] at o)
  have y:=hid (lU zs);have t:=hid (o3 zs);have I:zs.length<=maxLen:=by unfold maxLen;omega
  have g:=hid (bal (af w.heap.size w) (.cells #[] 3));have i:=hid (dt (base:=w.heap.size) (e:=3) (size:=1) w #[] 0 (aq _) (bN _) oS);generalize d6 zs=cs at*;go_enter Tryz.func203,Tryz.ntmps203
  go_wp2_with (at_builtin;refine aY _ rfl _ _ 22 rfl w.heap.size 3 i0 (.int .i64 0) 1 8 Tryz.underlying22 hi F G H rfl oD _ _ _ rfl i ad zs.length cap cs rfl y (z.out _ g) t oA oA oS ?_;intro K L p m _;have s:=hid (g.grown m oS (fun k hk=>(i.lt k hk).1));have B:=hid p;clear p m)
  go_ret
  refine⟨_,rfl,?_,s.out⟩;have:=B.out;rw[aC,ey] at this;exact this
def noP:PW:={IE:=[],kinds:=[],IA:=[],IB:=[],lines:=[],bits:=[],IC:=[],ready:=[],ID:=[],IG:=[],time:=0}
def tc (k:Nat):Value:=if k=10 then .int .i64 0 else .slice none 0 0
theorem lj (w:World):fp w tc noP:=
 ⟨jy w,jy w,⟨none,0,0,0,rfl,fun e=>by simp[noP] at e,fun j a=>by simp[noP] at a⟩,⟨none,0,0,0,rfl,fun e=>by simp[noP] at e,fun j a=>by simp[noP] at a⟩,⟨none,0,0,0,rfl,fun e=>by simp[noP] at e,fun j a=>by simp[noP] at a⟩,jy w,jy w,⟨none,0,0,0,rfl,fun e=>by simp[noP] at e,fun j a=>by simp[noP] at a⟩,⟨none,0,0,0,rfl,fun e=>by simp[noP] at e,fun j a=>by simp[noP] at a⟩,jy w,rfl⟩
def fe (n:Nat) (fs:List (Nat->Int)):List Value:=fs.flatMap (cf n)
theorem gv (n:Nat):∀fs,(fe n fs).length=fs.length*n
 |[]=>by simp[fe]
 |f::r=>by
  have:=gv n r;unfold fe at this ⊢;rw[List.flatMap_cons,ax,ay,this,dX,Nat.succ_mul];omega
theorem kI (n:Nat) (fs:List (Nat->Int)):∀u∈fe n fs,u.oneCell'=true:=by
 intro u a;obtain⟨f,_,h⟩:=List.mem_flatMap.1 a;exact bQ n f u h
theorem qW (n:Nat):∀(fs:List (Nat->Int)) (j:Nat) (u:Value),(fe n fs)[j]? =some u->∃(i k:Nat) (h:i<fs.length),k<n∧j=i*n+k∧u=.int .i64 (fs[i] k)
 |[],j,u,h=>by simp[fe] at h
 |f::r,j,u,h=>by
  have e:fe n (f::r)=cf n f++fe n r:=by unfold fe;rw[List.flatMap_cons]
  rw[e] at h;by_cases a:j<n
  ·rw[List.getElem?_append_left (by rw[ay];exact a),dk n f j a] at h;exact⟨0,j,oS,a,oS,(aL h).symm⟩
  ·rw[dQ (by rw[ay];omega),ay] at h;obtain⟨i,k,hi,hk,c,b⟩:=qW n r (j - n) u h;exact⟨i+1,k,by simpa using hi,hk,by rw[Nat.succ_mul];omega,by simpa using b⟩
theorem iV (n:Nat):∀(fs:List (Nat->Int)) (i k:Nat) (h:i<fs.length),k<n->(fe n fs)[i*n+k]? =some (.int .i64 (fs[i] k))
 |[],_,_,h,_=>by simp at h
 |f::r,i,k,h,hk=>by
  have e:fe n (f::r)=cf n f++fe n r:=by unfold fe;rw[List.flatMap_cons]
  rw[e]
  match i,h with
  |0,_=>
   rw[List.getElem?_append_left (by rw[ay];omega),Nat.zero_mul,aC,dk n f k hk];rfl
  |i+1,h=>
   rw[dQ (by rw[ay,Nat.succ_mul];omega),ay,show (i+1)*n+k - n=i*n+k by rw[Nat.succ_mul];omega,iV n r i k (by simpa using h) hk];rfl
theorem jY {n b off:Nat} {W:World} {fs:List (Nat->Int)} (h:∀j (c:j<fs.length),W.rangeAt b (off+j*n) (cf n fs[j])):∀(j:Nat) (u:Value),(fe n fs)[j]? =some u->W.cell? ((⟨b,off,none⟩:Addr).add j)=some u:=by
 intro j u a;obtain⟨i,k,hi,hk,rfl,rfl⟩:=qW n fs j u a;rw[Addr.add_mid, <-Nat.add_assoc];exact h i hi k _ (dk n _ k hk)
theorem jm {n E B:Nat} {w:World} {v:Value} {fs:List (Nat->Int)} (h:w.ownsRow B E n v fs.length (fe n fs)):RowsIn n w v fs:=by
 rcases h.2 with ⟨rfl,c⟩|⟨g,cap,d,rfl,c,_⟩
 ·exact⟨none,0,0,0,by rw[c],fun h=>oA,fun j a=>oA⟩
 ·refine⟨some ⟨g,0,none⟩,g,0,cap,rfl,fun _=>rfl,fun j a k u b=>?_⟩;have hk:k<n:=by
   have:=(List.getElem?_eq_some_iff.1 b).1
   rwa [ay] at this
  rw[dk n _ k hk] at b;rw[aC,h.cellAt (j*n+k) (by
   have:(j+1)*n<=fs.length*n:=Nat.mul_le_mul_right n a;rw[Nat.succ_mul] at this;omega),iV n fs j k a hk]
  exact b
theorem mF:(Tryz.prog.info? 34).map (fun i=>(i.zero,i.size,i.bytes))=some (some (.agg zV),7,56):=oK
theorem rU (v:Value) (fs:List (Nat->Int)) (w:World) (hv:RowsIn 7 w v fs) (hl:fs.length<=1000):
  Calls Tryz.prog 204 #[v] w fun r w'=>∃u,r=.returned u∧w'.ownsRow w.heap.size 34 7 u fs.length (fe 7 fs)∧Below w.heap.size w w':=by
 obtain⟨i0,hi,F,G,H⟩:=fm mF;have J:∀(w:World) (a:Option Addr) (n c g f:Nat),(binOp .eql 23 (.slice a n c) (.slice none g f)).run Tryz.prog w=.ok (.bool a.isNone) w:=fun w a n c g f=>Lib.run_eql_slice_nil w _ _ a n c g f Tryz.underlying23;obtain⟨q,b,off,cap,rfl,D,E⟩:=hv;have i:=hid D;have A:=hid E
 cases q with
 |none=>
  have h0:fs=[]:=by
   cases fs with
   |nil=>rfl
   |cons x l=>have:=i.out oS;cases this
  subst h0;go_enter Tryz.func204,Tryz.ntmps204
  go_wp2_with fail
  go_ret
  exact⟨_,rfl,cH _ _ _ _,af _ _⟩
 |some ad=>
  have z:=hid (show ∀(W:World),Below w.heap.size w W->∀(j:Nat) (u:Value),(fe 7 fs)[j]? =some u->W.cell? (ad.add j)=some u from fun W C=>by
   by_cases h0:0<fs.length
   ·have:=i.out h0
    cases this
    exact jY fun j d=>cW (A.out j d) C
   ·intro j u d;have:fs=[]:=by
     cases fs with
     |nil=>rfl
     |cons x l=>simp at h0
    rw[this] at d;simp[fe] at d)
  have y:=hid (gv 7 fs);have t:=hid (kI 7 fs);have I:fs.length<=maxLen:=by unfold maxLen;omega
  have h:=hid (bal (af w.heap.size w) (.cells #[] 34));have m:=hid (dt (base:=w.heap.size) (e:=34) (size:=7) w #[] 0 (aq _) (bN _) oS);generalize fe 7 fs=cs at*;go_enter Tryz.func204,Tryz.ntmps204
  go_wp2_with (at_builtin;refine aY _ rfl _ _ 23 rfl w.heap.size 34 i0 (.agg zV) 7 56 Tryz.underlying23 hi F G H rfl oD _ _ _ rfl m ad fs.length cap cs rfl y (z.out _ h) t oA oA oS ?_;intro K L p o _;have s:=hid (h.grown o oS (fun k hk=>(m.lt k hk).1));have B:=hid p;clear p o)
  go_ret
  refine⟨_,rfl,?_,s.out⟩;have:=B.out;rw[aC,ey] at this;exact this
theorem qz:(Tryz.prog.info? 37).map (fun i=>(i.zero,i.size,i.bytes))=some (some (.agg zT),20,160):=oK
theorem rV (v:Value) (fs:List (Nat->Int)) (w:World) (hv:RowsIn 20 w v fs) (hl:fs.length<=1000):
  Calls Tryz.prog 205 #[v] w fun r w'=>∃u,r=.returned u∧w'.ownsRow w.heap.size 37 20 u fs.length (fe 20 fs)∧Below w.heap.size w w':=by
 obtain⟨i0,hi,F,G,H⟩:=fm qz;have J:∀(w:World) (a:Option Addr) (n c g f:Nat),(binOp .eql 24 (.slice a n c) (.slice none g f)).run Tryz.prog w=.ok (.bool a.isNone) w:=fun w a n c g f=>Lib.run_eql_slice_nil w _ _ a n c g f Tryz.underlying24;obtain⟨q,b,off,cap,rfl,D,E⟩:=hv;have i:=hid D;have A:=hid E
 cases q with
 |none=>
  have h0:fs=[]:=by
   cases fs with
   |nil=>rfl
   |cons x l=>have:=i.out oS;cases this
  subst h0;go_enter Tryz.func205,Tryz.ntmps205
  go_wp2_with fail
  go_ret
  exact⟨_,rfl,cH _ _ _ _,af _ _⟩
 |some ad=>
  have z:=hid (show ∀(W:World),Below w.heap.size w W->∀(j:Nat) (u:Value),(fe 20 fs)[j]? =some u->W.cell? (ad.add j)=some u from fun W C=>by
   by_cases h0:0<fs.length
   ·have:=i.out h0
    cases this
    exact jY fun j d=>cW (A.out j d) C
   ·intro j u d;have:fs=[]:=by
     cases fs with
     |nil=>rfl
     |cons x l=>simp at h0
    rw[this] at d;simp[fe] at d)
  have y:=hid (gv 20 fs);have t:=hid (kI 20 fs);have I:fs.length<=maxLen:=by unfold maxLen;omega
  have h:=hid (bal (af w.heap.size w) (.cells #[] 37));have m:=hid (dt (base:=w.heap.size) (e:=37) (size:=20) w #[] 0 (aq _) (bN _) oS);generalize fe 20 fs=cs at*;go_enter Tryz.func205,Tryz.ntmps205
  go_wp2_with (at_builtin;refine aY _ rfl _ _ 24 rfl w.heap.size 37 i0 (.agg zT) 20 160 Tryz.underlying24 hi F G H rfl oD _ _ _ rfl m ad fs.length cap cs rfl y (z.out _ h) t oA oA oS ?_;intro K L p o _;have s:=hid (h.grown o oS (fun k hk=>(m.lt k hk).1));have B:=hid p;clear p o)
  go_ret
  refine⟨_,rfl,?_,s.out⟩;have:=B.out;rw[aC,ey] at this;exact this
def InO (w:World) (lo hi I s:Nat) (u:Value) (c:Nat×List Value):Prop:=w.ownsRow lo I s u c.1 c.2∧∀k,u.ownBlock=some k->k<hi
theorem InO.below {w w':World} {lo hi I s:Nat} {u:Value} {c:Nat×List Value} (h:InO w lo hi I s u c) (a:Below w.heap.size w w'):InO w' lo hi I s u c:=⟨fJ h.1 a,h.2⟩
theorem _root_.Go.Proofs.YtnccmdndkmmhcaaGreatDoor.bU:type_of% @InO.below:= @InO.below
theorem InO.set {w:World} {lo hi I s:Nat} {u:Value} {c:Nat×List Value} (h:InO w lo hi I s u c) {a:Addr} (b:a.block<lo) (x:Value):InO (w.setCell a x) lo hi I s u c:=⟨ownsRow_setCell_below h.1 b x,h.2⟩
structure mb (w:World) (g n O I s:Nat) (cc:Nat->Nat×List Value) (k:Nat) (us:List Value) (m:Nat->Nat):Prop where
 len:us.length=k
 row:w.ownsRow g O 1 (.slice (some ⟨g,0,none⟩) n n) n (us++List.replicate (n - k) (.slice none 0 0))
 lo:∀j,j<=k->g<m j
 hi:m k<=w.heap.size
 each:∀j (h:j<us.length),InO w (m j) (m (j+1)) I s us[j] (cc j)
theorem mb.below {w w':World} {g n O I s k:Nat} {b:Nat->Nat×List Value} {us:List Value} {m:Nat->Nat} (h:mb w g n O I s b k us m) (a:Below w.heap.size w w'):mb w' g n O I s b k us m:=
 ⟨h.len,fJ h.row a,h.lo,aD h.hi a.size,fun j c=>(h.each j c).below a⟩
theorem mb.cell {w:World} {g n O I s k:Nat} {a:Nat->Nat×List Value} {us:List Value} {m:Nat->Nat} (h:mb w g n O I s a k us m) (hk:k<n):w.cell? ⟨g,k,none⟩=some (.slice none 0 0):=by
 rw[h.row.cellAt k oA,dQ (by rw[h.len];exact aq _),h.len,Nat.sub_self,List.getElem?_replicate,ag oA]
theorem mb.more {w w1:World} {g n O I s k:Nat} {a:Nat->Nat×List Value} {us:List Value} {m:Nat->Nat} (h:mb w g n O I s a k us m) (hk:k<n) (f:Below w.heap.size w w1) {u:Value} (d:w1.ownsRow w.heap.size I s u (a k).1 (a k).2):
  mb (w1.setCell ⟨g,k,none⟩ u) g n O I s a (k+1) (us++[u]) (fun j=>if j<=k then m j else w1.heap.size):=by
 have b:=h.below f;refine⟨by simp[h.len],?_,fun j c=>?_,?_,fun j c=>?_⟩
 ·have:=(b.row.stored k u).1;have e:(us++List.replicate (n - k) (Value.slice none 0 0)).set k u=us++[u]++List.replicate (n - (k+1)) (.slice none 0 0):=by
   rw[List.set_append_right _ _ (by rw[h.len];exact aq _),h.len,Nat.sub_self,show n - k=(n - (k+1))+1 by omega,List.replicate_succ,List.set_cons_zero,List.append_assoc];rfl
  rwa [e] at this
 ·by_cases e:j<=k
  ·rw[ag e];exact h.lo j e
  ·rw[ae e];exact aE (h.lo k (aq _)) b.hi
 ·rw[ae oA];simp
 ·by_cases e:j<k
  ·rw[List.getElem_append_left (by rw[h.len];exact e),ag oA,ag oA];exact (b.each j (by rw[h.len];exact e)).set (h.lo j oA) u
  ·have i:j=k:=by simp[h.len] at c;omega
   subst i;rw[List.getElem_append_right (by rw[h.len];exact aq _),ag (aq _),ae oA];simp only[h.len,Nat.sub_self,bg];exact (show InO w1 (m j) w1.heap.size I s u (a j) from⟨d.mono h.hi,fun x l=>(d.lt x l).2⟩).set (h.lo j (aq _)) u
theorem mb.start (w:World) (n O I s:Nat) (b:Nat->Nat×List Value) (f:n<=maxLen) (a:Array Value) (c:a=Array.replicate n (.slice none 0 0)):mb (w.alloc (.cells a O)) w.heap.size n O I s b 0 [] (fun _=>w.heap.size+1):=by
 subst c;refine⟨rfl,?_,fun _ _=>dL _,oS,fun j d=>by simp at d⟩;have:=World.ownsRow_lit (base:=w.heap.size) (e:=O) (size:=1) w (Array.replicate n (.slice none 0 0)) n (aq _) f oS;simpa using this
def iB (w:World) (lo hi O I s n:Nat) (v:Value) (cc:Nat->Nat×List Value):Prop:=∃g us m,v=.slice (some ⟨g,0,none⟩) n n∧lo<=g∧m n<=hi∧(∀j,j<n->m j<=m (j+1))∧mb w g n O I s cc n us m
def ci (ls:List (List Int)) (j:Nat):Nat×List Value:=((ls.getD j []).length,d6 (ls.getD j []))
def ce (ls:List (List Ent)) (j:Nat):Nat×List Value:=((ls.getD j []).length,fq (ls.getD j []))
theorem iS (n:Nat):madeCells (Value.cells (.slice none 0 0)) (n*1)=Array.replicate n (Value.slice none 0 0):=by
 apply Array.ext_getElem?;intro k;by_cases h:k<n
 ·rw[tU _ _ _ rfl h];simp[h]
 ·rw[Array.getElem?_eq_none (by unfold madeCells;simp;omega)];simp[h]
theorem ug {B e size n:Nat} {w:World} {v:Value} {xs:List Value} (h:w.ownsRow B e size v n xs):∃q c,v=.slice q n c:=by
 rcases h.2 with ⟨rfl,rfl⟩|⟨g,cap,a,rfl,_⟩
 ·exact⟨_,_,rfl⟩
 ·exact⟨_,_,rfl⟩
theorem _root_.Go.Proofs.YtnccmdndkmmhcaaGreatDoor.eK:type_of% @ug:= @ug
theorem rG (v:Value) (ls:List (List Int)) (w:World) (hv:gj w v ls) (hl:ls.length<=1000) (L:∀l∈ls,l.length<=1000):
  Calls Tryz.prog 206 #[v] w fun r w'=>∃u,r=.returned u∧iB w' w.heap.size w'.heap.size 22 3 1 ls.length u (ci ls)∧Below w.heap.size w w':=by
 obtain⟨q,b,off,cap,rfl,M,P⟩:=hv;have G:=hid M;have I:=hid P;have H:=hid L;have V:(ls.length:Int)<=1000:=oA;have mk:=gI Tryz.underlying25 zI oD oD ls.length hl w;rw[iS] at mk;have t:=hid (mb.start w ls.length 22 3 1 (ci ls) (by unfold maxLen;omega) _ rfl);have p:=hid (bal (af w.heap.size w) (.cells (Array.replicate ls.length (Value.slice none 0 0)) 22));have J:=hid (show (w.alloc (.cells (Array.replicate ls.length (Value.slice none 0 0)) 22)).heap.size=w.heap.size+1 by simp);go_enter Tryz.func206,Tryz.ntmps206
 go_wp2_with fail
 generalize World.alloc _ _=Q at t p J ⊢
 go_loopw [11] (fun i wr=>∃(k:Nat),k<=ls.length∧i=.int .i64 k∧Hid (∃us m,mb wr w.heap.size ls.length 22 3 1 (ci ls) k us m∧∀j,j<k->m j<=m (j+1))∧Hid (Below w.heap.size w wr)) (fun i _=>ls.length - (intOf i).toNat)
 case atStart=>exact⟨0,oA,rfl,hid ⟨[],_,t.out,fun j K=>oA⟩,p⟩
 case round=>
  obtain⟨k,hk,rfl,s,f⟩:=hrel;by_cases d:k<ls.length
  ·have W:(k:Int)<(ls.length:Int):=oA;obtain⟨us,m,n,h⟩:=s.out;have N:=G.out oA;subst N;obtain⟨x,z,O⟩:=I.out k d;have S:=(f.cell (aj _ _ z)).trans z;have C:=hid (hJ x ls[k] wr (O.below f) (H.out _ (av d)));have E:=hid (show (ci ls) k=(ls[k].length,d6 ls[k]) by unfold ci;rw[aa,ac d];rfl);have a:=hid n;have g:=hid h;go_wp2_with fail
   refine C.mono ?_;rintro r w1 ⟨u,rfl,y,c⟩;obtain⟨A,cu,rfl⟩:=eK y;have R:=(a.below c).cell d;have T:=(a.below c).row.frozenAt k;have F:=hid (a.more d c (u:=.slice A ls[k].length cu) (by rw[E.out];exact y));have B:=hid (im (btr f c) (o:=k) (aq _) (.slice A ls[k].length cu));have D:=hid (aD a.hi c.size);go_wp2_with fail
   refine⟨⟨k+1,oA,by go_num,hid ⟨_,_,F.out,fun j K=>?_⟩,B⟩,by simp[intOf];omega⟩;by_cases e:j<k
   ·rw[ag oA,ag oA];exact g j e
   ·rw[ag oA,ae oA,show j=k by omega];exact D
  ·obtain rfl:k=ls.length:=oA;have U:¬((ls.length:Int)<(ls.length:Int)):=oA;obtain⟨us,m,n,h⟩:=s.out;have a:=hid n;have g:=hid h;go_wp2_with fail
   go_ret
   exact⟨_,rfl,⟨w.heap.size,us,m,rfl,aq _,a.hi,g.out,a.out⟩,f.out⟩
theorem yG (v:Value) (ls:List (List Ent)) (w:World) (hv:iD w v ls) (hl:ls.length<=1000):
  Calls Tryz.prog 207 #[v] w fun r w'=>∃u,r=.returned u∧iB w' w.heap.size w'.heap.size 38 40 4 ls.length u (ce ls)∧Below w.heap.size w w':=by
 obtain⟨q,b,off,cap,rfl,J,M⟩:=hv;have F:=hid J;have G:=hid M;have S:(ls.length:Int)<=1000:=oA;have mk:=gI Tryz.underlying26 Cn oD oD ls.length hl w;rw[iS] at mk;have s:=hid (mb.start w ls.length 38 40 4 (ce ls) (by unfold maxLen;omega) _ rfl);have n:=hid (bal (af w.heap.size w) (.cells (Array.replicate ls.length (Value.slice none 0 0)) 38));have H:=hid (show (w.alloc (.cells (Array.replicate ls.length (Value.slice none 0 0)) 38)).heap.size=w.heap.size+1 by simp);go_enter Tryz.func207,Tryz.ntmps207
 go_wp2_with fail
 generalize World.alloc _ _=N at s n H ⊢
 go_loopw [11] (fun i wr=>∃(k:Nat),k<=ls.length∧i=.int .i64 k∧Hid (∃us m,mb wr w.heap.size ls.length 38 40 4 (ce ls) k us m∧∀j,j<k->m j<=m (j+1))∧Hid (Below w.heap.size w wr)) (fun i _=>ls.length - (intOf i).toNat)
 case atStart=>exact⟨0,oA,rfl,hid ⟨[],_,s.out,fun j I=>oA⟩,n⟩
 case round=>
  obtain⟨k,hk,rfl,p,d⟩:=hrel;by_cases f:k<ls.length
  ·have T:(k:Int)<(ls.length:Int):=oA;obtain⟨us,m,l,h⟩:=p.out;have K:=F.out oA;subst K;obtain⟨x,y,L⟩:=G.out k f;have P:=(d.cell (aj _ _ y)).trans y;have B:=hid (vW x ls[k] wr (L.1.below d));have D:=hid (show (ce ls) k=(ls[k].length,fq ls[k]) by unfold ce;rw[aa,ac f];rfl);have a:=hid l;have g:=hid h;go_wp2_with fail
   refine B.mono ?_;rintro r w1 ⟨u,rfl,t,c⟩;obtain⟨z,cu,rfl⟩:=eK t;have O:=(a.below c).cell f;have Q:=(a.below c).row.frozenAt k;have E:=hid (a.more f c (u:=.slice z ls[k].length cu) (by rw[D.out];exact t));have A:=hid (im (btr d c) (o:=k) (aq _) (.slice z ls[k].length cu));have C:=hid (aD a.hi c.size);go_wp2_with fail
   refine⟨⟨k+1,oA,by go_num,hid ⟨_,_,E.out,fun j I=>?_⟩,A⟩,by simp[intOf];omega⟩;by_cases e:j<k
   ·rw[ag oA,ag oA];exact g j e
   ·rw[ag oA,ae oA,show j=k by omega];exact C
  ·obtain rfl:k=ls.length:=oA;have R:¬((ls.length:Int)<(ls.length:Int)):=oA;obtain⟨us,m,l,h⟩:=p.out;have a:=hid l;have g:=hid h;go_wp2_with fail
   go_ret
   exact⟨_,rfl,⟨w.heap.size,us,m,rfl,aq _,a.hi,g.out,a.out⟩,d.out⟩
theorem InO.IY {lo hi I s:Nat} {u:Value} {c:Nat×List Value} {B:Nat} (hB:B<lo):∀(b:List Value) (o:Nat) (w:World),InO w lo hi I s u c->InO (w.setCells B o b) lo hi I s u c
 |[],_,_,h=>h
 |v::r,o,w,h=>by
  rw[World.setCells];exact InO.IY hB r (o+1) _ (h.set (a:=⟨B,o,none⟩) hB v)
theorem mb.set {w:World} {g n O I s k:Nat} {b:Nat->Nat×List Value} {us:List Value} {m:Nat->Nat} (h:mb w g n O I s b k us m) {a:Addr} (c:a.block<g) (x:Value):mb (w.setCell a x) g n O I s b k us m:=
 ⟨h.len,ownsRow_setCell_below h.row c x,h.lo,by simpa using h.hi,fun j d=>(h.each j d).set (Nat.lt_trans c (h.lo j (by rw[<-h.len];omega))) x⟩
theorem iB.below {w w':World} {lo hi O I s n:Nat} {v:Value} {cc:Nat->Nat×List Value} (h:iB w lo hi O I s n v cc) (f:Below w.heap.size w w'):iB w' lo hi O I s n v cc:=by
 obtain⟨g,us,m,a,b,c,d,e⟩:=h;exact⟨g,us,m,a,b,c,d,e.below f⟩
theorem iB.set {w:World} {lo hi O I s n:Nat} {v:Value} {cc:Nat->Nat×List Value} (h:iB w lo hi O I s n v cc) {a:Addr} (i:a.block<lo) (x:Value):iB (w.setCell a x) lo hi O I s n v cc:=by
 obtain⟨g,us,m,c,b,d,e,f⟩:=h;exact⟨g,us,m,c,b,d,e,f.set (aE i b) x⟩
theorem iB.IY {lo hi O I s n:Nat} {v:Value} {b:Nat->Nat×List Value} {B:Nat} (hB:B<lo):∀(c:List Value) (o:Nat) (w:World),iB w lo hi O I s n v b->iB (w.setCells B o c) lo hi O I s n v b
 |[],_,_,h=>h
 |x::r,o,w,h=>by
  rw[World.setCells];exact iB.IY hB r (o+1) _ (h.set (a:=⟨B,o,none⟩) hB x)
structure gl (w:World) (L:Nat->Nat) (v:Nat->Value) (p:PW):Prop where
 mono:∀j,j<10->L j<=L (j+1)
 IE:InO w (L 0) (L 1) 3 1 (v 0) (p.IE.length,d6 p.IE)
 kinds:InO w (L 1) (L 2) 3 1 (v 1) (p.kinds.length,d6 p.kinds)
 IA:InO w (L 2) (L 3) 34 7 (v 2) (p.IA.length,fe 7 p.IA)
 IB:InO w (L 3) (L 4) 37 20 (v 3) (p.IB.length,fe 20 p.IB)
 lines:iB w (L 4) (L 5) 22 3 1 p.lines.length (v 4) (ci p.lines)
 bits:InO w (L 5) (L 6) 3 1 (v 5) (p.bits.length,d6 p.bits)
 IC:InO w (L 6) (L 7) 3 1 (v 6) (p.IC.length,d6 p.IC)
 ready:iB w (L 7) (L 8) 22 3 1 p.ready.length (v 7) (ci p.ready)
 ID:iB w (L 8) (L 9) 38 40 4 p.ID.length (v 8) (ce p.ID)
 IG:InO w (L 9) (L 10) 3 1 (v 9) (p.IG.length,d6 p.IG)
 time:v 10=.int .i64 p.time
theorem gl.le {w:World} {L:Nat->Nat} {v:Nat->Value} {p:PW} (h:gl w L v p):∀j,j<=10->L 0<=L j
 |0,_=>aq _
 |j+1,hj=>aD (h.le j oA) (h.mono j oA)
theorem gl.below {w w':World} {L:Nat->Nat} {v:Nat->Value} {p:PW} (h:gl w L v p) (a:Below w.heap.size w w'):gl w' L v p:=
 ⟨h.mono,h.IE.below a,h.kinds.below a,h.IA.below a,h.IB.below a,h.lines.below a,h.bits.below a,h.IC.below a,h.ready.below a,h.ID.below a,h.IG.below a,h.time⟩
theorem gl.IY {w:World} {L:Nat->Nat} {v:Nat->Value} {p:PW} (h:gl w L v p) {B:Nat} (hB:B<L 0) (a:List Value) (o:Nat):gl (w.setCells B o a) L v p:=
 ⟨h.mono,InO.IY (aE hB (h.le 0 oA)) a o w h.IE,InO.IY (aE hB (h.le 1 oA)) a o w h.kinds,InO.IY (aE hB (h.le 2 oA)) a o w h.IA,InO.IY (aE hB (h.le 3 oA)) a o w h.IB,iB.IY (aE hB (h.le 4 oA)) a o w h.lines,InO.IY (aE hB (h.le 5 oA)) a o w h.bits,InO.IY (aE hB (h.le 6 oA)) a o w h.IC,iB.IY (aE hB (h.le 7 oA)) a o w h.ready,iB.IY (aE hB (h.le 8 oA)) a o w h.ID,InO.IY (aE hB (h.le 9 oA)) a o w h.IG,h.time⟩
theorem InO.ints {w:World} {lo hi:Nat} {u:Value} {zs:List Int} (h:InO w lo hi 3 1 u (zs.length,d6 zs)):ei w u zs:=dM h.1
theorem iB.lists {w:World} {lo hi O:Nat} {v:Value} {ls:List (List Int)} (h:iB w lo hi O 3 1 ls.length v (ci ls)):gj w v ls:=by
 obtain⟨g,us,m,rfl,_,_,_,a⟩:=h;refine⟨some ⟨g,0,none⟩,g,0,ls.length,rfl,fun _=>rfl,fun j c=>?_⟩;have b:j<us.length:=by rw[a.len];exact c
 have d:=a.row.cellAt j oA;rw[List.getElem?_append_left b,ac b] at d;refine⟨us[j],by rw[aC];exact d,?_⟩;have:=(a.each j b).1;unfold ci at this;rw[aa,ac c] at this;exact dM this
theorem xV {w:World} {B:Nat} {v:Value} {l:List Ent} (h:w.ownsRow B 40 4 v l.length (fq l)) (hl:l.length<=100):i9 w v l∧vM v:=by
 rcases h.2 with ⟨rfl,b⟩|⟨g,cap,f,rfl,b,i,d,_⟩
 ·rw[List.length_eq_zero_iff.1 b];exact⟨⟨none,0,0,0,rfl,fun e=>by simp at e,fun j a=>by simp at a,oS⟩,aq _⟩
 ·refine⟨⟨some ⟨g,0,none⟩,g,0,cap,rfl,fun _=>rfl,fun j a=>?_,hl⟩,d⟩;obtain⟨c0,c1,c2,c⟩:=ki l j a;simp only[aC];exact⟨(h.cellAt (j*4) oA).trans c0,(h.cellAt (j*4+1) oA).trans c1,(h.cellAt (j*4+2) oA).trans c2,(h.cellAt (j*4+3) oA).trans c⟩
theorem iB.ID {w:World} {lo hi O:Nat} {v:Value} {ls:List (List Ent)} (h:iB w lo hi O 40 4 ls.length v (ce ls)) (hl:∀l∈ls,l.length<=100):iD w v ls:=by
 obtain⟨g,us,m,rfl,_,_,_,a⟩:=h;refine⟨some ⟨g,0,none⟩,g,0,ls.length,rfl,fun _=>rfl,fun j b=>?_⟩;have c:j<us.length:=by rw[a.len];exact b
 have d:=a.row.cellAt j oA;rw[List.getElem?_append_left c,ac c] at d;refine⟨us[j],by rw[aC];exact d,?_⟩;have:=(a.each j c).1;unfold ce at this;rw[aa,ac b] at this;exact xV this (hl _ (av b))
theorem gl.v {w:World} {L:Nat->Nat} {v:Nat->Value} {p:PW} (h:gl w L v p) (hl:∀l∈p.ID,l.length<=100):fp w v p:=
 ⟨h.IE.ints,h.kinds.ints,jm h.IA.1,jm h.IB.1,h.lines.lists,h.bits.ints,h.IC.ints,h.ready.lists,h.ID.ID hl,h.IG.ints,h.time⟩
theorem sT {w:World} {v:Value} {ls:List (List Ent)} (h:iD w v ls):∀l∈ls,l.length<=100:=by
 intro l hl;obtain⟨_,b,off,_,_,_,a⟩:=h;obtain⟨j,d,rfl⟩:=List.mem_iff_getElem.1 hl;obtain⟨x,_,⟨_,_,_,_,_,_,_,c⟩,_⟩:=a j d;exact c
