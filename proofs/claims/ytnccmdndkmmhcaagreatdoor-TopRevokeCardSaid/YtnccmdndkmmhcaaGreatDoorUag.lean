/- Uag -/
import Derived.Deep.RegionHeld3
import Derived.Deep.Onto
import Derived.Test.YtnccmdndkmmhcaaGreatDoorUaf
set_option maxRecDepth 100000
set_option maxHeartbeats 16000000
namespace Go.Proofs.YtnccmdndkmmhcaaGreatDoor
namespace Wd
open Go.RowKit Mem Bw Nums Mmu
theorem Bi {p:PW} (h:Snd p) {k:Nat} (hk:k<p.IH.length) (b:p.IH[k] 0≠0):opB p p.IH[k]=true:=by
 have a:bsB p (p.kinds.getD (k/16) 0) p.IH[k]=false:=h.b3 k hk;generalize p.IH[k]=s at b a ⊢;unfold bsB at a;rw[show zkB s=false from aw fun c=>b c.1,ae oD] at a;simp only[cU,am] at a;exact a.1.1.2
theorem Bh {p:PW} (h:Snd p):∀s∈p.IH,KB s:=Ff (g:=fun k=>p.kinds.getD (k/16) 0) h.b3
def sAt (p:PW) (n a:Int):Int×Int:=
 if isB p n 5 then (if ek 0 255 a then (if a<16 then (n*16+a,0) else
  if (p.IH.getD (n*16+a/16).toNat (fun _=>0)) 0=5 then ((p.IH.getD (n*16+a/16).toNat (fun _=>0)) 1*16+a%16,0) else (0,3)) else (0,2)) else (0,3)
def ft:Nat->Int:=fun _=>0
theorem yv {p:PW} (h:Snd p) {k:Nat} (hk:k<p.IH.length) (b:p.IH[k] 0≠0):0<=p.IH[k] 1∧1<=p.IH[k] 2∧p.IH[k] 1+p.IH[k] 2<=(p.kinds.length:Int)∧0<=p.IH[k] 4∧p.IH[k] 4<=7:=by
 have a:=Bi h hk b;generalize p.IH[k]=s at b a ⊢;unfold opB at a;simp only[am,bz,bg] at a;obtain⟨b0,b1,l0,l1,c,d⟩:=oc a.1.1 b;exact⟨b0,l0,a.1.2,c,d⟩
theorem FX {p:PW} (h:Snd p) {n a:Int} (b:(sAt p n a).2=0):0<=(sAt p n a).1∧(sAt p n a).1<(p.IH.length:Int):=by
 unfold sAt at b ⊢;have hl:=h.lf.IH
 cases hi:isB p n 5 with
 |false=>rw[hi] at b;simp at b
 |true=>
  obtain⟨j,rfl,f⟩:=jV hi;rw[hi] at b;rw[ag rfl] at b ⊢
  cases hw:ek 0 255 a with
  |false=>rw[hw] at b;simp at b
  |true=>
   have e:=aA hw;rw[hw] at b;rw[ag rfl] at b ⊢;by_cases c:a<16
   ·rw[ag c];simp only;omega
   ·rw[ae c] at b ⊢;have d:((j:Int)*16+a/16).toNat<p.IH.length:=oA;rw[aa,ac d] at b ⊢;simp only[aT] at b ⊢;split at b
    ·rename_i h5;rw[ag h5];have:=yv h d oA;simp only;omega
    ·simp at b
theorem jM (vb:Nat) (V:Nat->Value) (p:PW) (n a:Int) (w:World) (hv:d6 w vb V p) (q:Snd p):
  Calls Tryz.prog 236 #[.pointer (some ⟨vb,0,none⟩),.int .i64 n,.int .i64 a] w fun r w'=>r=.returned (.tuple #[.int .i64 (sAt p n a).1,.int .i64 (sAt p n a).2])∧Below w.heap.size w w':=by
 have i:=hid hv;have E:=hid q;have A:=hid hv.r;have D:=r11 2 hv.r;obtain⟨q2,b2,ad,O,e2,I,M⟩:=hv.v.IH;have Y:(p.IH.length:Int)<=1000:=by have:=hv.f.IH;omega
 have X:(p.kinds.length:Int)<=1000:=by have:=hv.f.kinds;omega
 have J:=q.lf.IH;have U:=q.lf.k1;obtain rfl:=I oA;have G:=hid M;have F:=hid J
 cases hi:isB p n 5 with
 |false=>
  have b:=hid (show sAt p n a=(0,3) by unfold sAt;rw[hi];rfl);have C:¬(fH p n).getD (-1)=5:=fun e=>by
   rw[tZ oD,e] at hi;simp at hi
  have g:=hid (od V p n w i.v i.f);generalize (fH p n).getD (-1)=N at C g;have W:(N !=5)=true:=by simpa using C
  go_enter Tryz.func236,Tryz.ntmps236
  go_wp2_with (first|((with_reducible refine gld 28 ?_);refine gg oR _ rfl _ rfl V A ?_))
  refine g.mono ?_;rintro r w1 ⟨rfl,l⟩;have c:=hid l;go_wp2_with fail
  go_ret2
  exact⟨by rw[b.out];rfl,c.out⟩
 |true=>
  obtain⟨j,rfl,S⟩:=jV hi;have o:=hid hi;have g:=hid (od V p j w i.v i.f);rw[show (fH p j).getD (-1)=5 by simpa [tZ (p:=p) (f:=(j:Int)) (k:=5) oD] using hi] at g;have T:(j:Int)<(p.kinds.length:Int):=oA;go_enter Tryz.func236,Tryz.ntmps236
  go_wp2_with (first|((with_reducible refine gld 28 ?_);refine gg oR _ rfl _ rfl V A ?_))
  refine g.mono ?_;rintro r w1 ⟨rfl,l⟩;have c:=hid l;have P:=(l.cell (p:=⟨vb,2,none⟩) (aj _ _ D)).trans D;go_wp2_with fail
  refine (Ix a 255 _).mono ?_;rintro r w2 ⟨rfl,rfl⟩
  cases hw:ek 0 255 a with
  |false=>
   have b:=hid (show sAt p j a=(0,2) by unfold sAt;rw[o.out,hw];rfl);go_wp2_with fail
   go_ret2
   exact⟨by rw[b.out];rfl,c.out⟩
  |true=>
   have K:=aA hw;obtain⟨m,rfl⟩:∃m:Nat,a=m:=⟨a.toNat,oA⟩
   have Z:=K.2;have z:=hid hw;by_cases B:(m:Int)<16
   ·have b:=hid (show sAt p j m=((j:Int)*16+m,0) by unfold sAt;rw[o.out,z.out,ag rfl,ag rfl,ag B]);go_wp2_with fail
    go_ret2
    exact⟨by rw[b.out];rfl,c.out⟩
   ·have t:j*16+m/16<p.IH.length:=by have:=F.out;omega
    have L:((j:Int)*16+(m:Int)/16)=((j*16+m/16:Nat):Int):=oA;have d:=cS (G.out (j*16+m/16) t) c;have b:=hid (show sAt p j m=if p.IH[j*16+m/16] 0=5 then (p.IH[j*16+m/16] 1*16+(m:Int)%16,0) else (0,3) by
     unfold sAt;rw[o.out,z.out,ag rfl,ag rfl,ae B,L,ah,aa,ac t];rfl)
    have x:=hid (Bh E _ (av t));generalize hy:j*16+m/16=y at*;have ab:(y:Int)<(p.IH.length:Int):=oA;have x0:=hV d (dk 7 _ 0 oA);have x1:=cC d (dk 7 _ 1 oA);have x2:=cC d (dk 7 _ 2 oA);have x3:=cC d (dk 7 _ 3 oA);have x4:=cC d (dk 7 _ 4 oA);have x5:=cC d (dk 7 _ 5 oA);generalize p.IH[y]=s at*;have Q:=x.b0;have R:=x.b1;have u:=hid (bal c (.cells #[.int .i64 (s 0),.int .i64 (s 1),.int .i64 (s 2),.int .i64 (s 3),.int .i64 (s 4),.int .i64 (s 5)] 32));by_cases h:s 0=5
    ·have H:(s 0 !=5)=false:=by simpa using h
     rw[ag h] at b;clear h;go_wp2_with fail
     go_ret2
     exact⟨by rw[b.out];rfl,u.out⟩
    ·have H:(s 0 !=5)=true:=by simpa using h
     rw[ae h] at b;go_wp2_with fail
     go_ret2
     exact⟨by rw[b.out];rfl,u.out⟩
def kOf (s:Nat->Int) (k r:Int):(Nat->Int)×Int:=
 if s 0=0 then (ft,6) else if s 0=k then (if bits .and .i64 (s 4) r=r then (s,0) else (ft,4)) else (ft,3)
def kAt (p:PW) (n a k r:Int):(Nat->Int)×Int:=
 if (sAt p n a).2=0 then kOf (p.IH.getD (sAt p n a).1.toNat ft) k r else (ft,(sAt p n a).2)
theorem ni {W:World} {B:Nat} {v0 v1 v2 v3 v4 v5 a x1 x2 x3 x4 b:Value} (h:∀o,W.cell? ⟨B,o,none⟩=(#[a,x1,x2,x3,x4,b]:Array Value)[o]?):
  ∀o,((((((W.setCell ⟨B,0,none⟩ v0).setCell ⟨B,1,none⟩ v1).setCell ⟨B,2,none⟩ v2).setCell ⟨B,3,none⟩ v3).setCell ⟨B,4,none⟩ v4).setCell ⟨B,5,none⟩ v5).cell? ⟨B,o,none⟩=(#[v0,v1,v2,v3,v4,v5]:Array Value)[o]? :=
 fM (fM (fM (fM (fM (fM h 0 oS v0) 1 oS v1) 2 oS v2) 3 oS v3) 4 oS v4) 5 oS v5
theorem vW {w W:World} {v0 v1 v2 v3 v4 v5:Value} (h:Below w.heap.size w W):Below w.heap.size w ((((((W.setCell ⟨w.heap.size,0,none⟩ v0).setCell ⟨w.heap.size,1,none⟩ v1).setCell ⟨w.heap.size,2,none⟩ v2).setCell ⟨w.heap.size,3,none⟩ v3).setCell ⟨w.heap.size,4,none⟩ v4).setCell ⟨w.heap.size,5,none⟩ v5):=
 iq (iq (iq (iq (iq (iq h (aq _) _) (aq _) _) (aq _) _) (aq _) _) (aq _) _) (aq _) _
theorem fC (vb:Nat) (V:Nat->Value) (p:PW) (n a k r:Int) (w:World) (hv:d6 w vb V p) (F:Snd p):
  Calls Tryz.prog 231 #[.pointer (some ⟨vb,0,none⟩),.int .i64 n,.int .i64 a,.int .i64 k,.int .i64 r] w fun x w'=>x=.returned (.tuple #[.agg (kv (kAt p n a k r).1),.int .i64 (kAt p n a k r).2])∧Below w.heap.size w w':=by
 have C:=hid hv;have H:=hid F;have Z:=hid hv.r;have L:=r11 2 hv.r;obtain⟨q2,b2,an,ab,e2,R,T⟩:=hv.v.IH;have am:(p.IH.length:Int)<=1000:=by have:=hv.f.IH;omega
 have al:(p.kinds.length:Int)<=1000:=by have:=hv.f.kinds;omega
 have S:=F.lf.IH;have ai:=F.lf.k1;obtain rfl:=R oA;have N:=hid T;have Y:=hid S;have J:=hid (show ∀W:World,Below W.heap.size W (W.alloc (.cells zK 32)) from fun W=>bal (af _ _) _);have D:=hid (fun W (g:Below w.heap.size w W)=>jM vb V p n a W ⟨bf C.r g,C.v.below g,C.f⟩ H);have B:=hid (fun h=>FX H (n:=n) (a:=a) h);have z:=hid (show kAt p n a k r=if (sAt p n a).2=0 then kOf (p.IH.getD (sAt p n a).1.toNat ft) k r else (ft,(sAt p n a).2) from rfl);generalize (sAt p n a).1=t at D B z;generalize (sAt p n a).2=e at D B z;go_enter Tryz.func231,Tryz.ntmps231
 go_wp2_with fail
 refine (D.out _ (J.out w)).mono ?_;rintro r1 w1 ⟨rfl,g⟩;have l:=hid (btr (J.out w) g);have G:=cT (cq w zK 32) oS g;have M:∀o,w1.frozen? ⟨w.heap.size,o,none⟩=false:=fun o=>(g.frozen (p:=⟨w.heap.size,o,none⟩) oS).trans (World.frozen?_alloc_at _ _ _ _ rfl);have I:=hid (show w.heap.size<w1.heap.size by have:=g.size;simp at this;omega);have g2:=(l.cell (p:=⟨vb,2,none⟩) (aj _ _ L)).trans L;by_cases E:e=0
 rotate_left
 ·have ad:(e !=0)=true:=by simpa using E
  have b:=hid (show kAt p n a k r=(ft,e) by rw[z.out,ae E]);go_wp2_with fail
  have q:=ni (v0:=.int .i64 0) (v1:=.int .i64 0) (v2:=.int .i64 0) (v3:=.int .i64 0) (v4:=.int .i64 0) (v5:=.int .i64 0) G;exact ar (v:=.tuple #[.agg (kv ft),.int .i64 e]) (by simp[results,Tryz.results231,go_sem,kv,ft,q 0,q 1,q 2,q 3,q 4,q 5]) rfl ⟨by rw[b.out],vW l⟩
 subst E;obtain⟨t0,t1⟩:=B.out rfl;obtain⟨y,rfl⟩:∃y:Nat,t=y:=⟨t.toNat,oA⟩
 have K:y<p.IH.length:=oA;have i:=cS (N.out y K) l;have A:=hid (show kAt p n a k r=kOf p.IH[y] k r by rw[z.out,ag rfl,ah,aa,ac K];rfl);have x0:=hV i (dk 7 _ 0 oA);have x1:=cC i (dk 7 _ 1 oA);have x2:=cC i (dk 7 _ 2 oA);have x3:=cC i (dk 7 _ 3 oA);have x4:=cC i (dk 7 _ 4 oA);have x5:=cC i (dk 7 _ 5 oA);generalize p.IH[y]=s at*;have U:=cq w1 #[.int .i64 (s 0),.int .i64 (s 1),.int .i64 (s 2),.int .i64 (s 3),.int .i64 (s 4),.int .i64 (s 5)] 32;have u:=fe G I (.cells #[.int .i64 (s 0),.int .i64 (s 1),.int .i64 (s 2),.int .i64 (s 3),.int .i64 (s 4),.int .i64 (s 5)] 32);have X:=vg M I (.cells #[.int .i64 (s 0),.int .i64 (s 1),.int .i64 (s 2),.int .i64 (s 3),.int .i64 (s 4),.int .i64 (s 5)] 32);have m:=hid (bal l (.cells #[.int .i64 (s 0),.int .i64 (s 1),.int .i64 (s 2),.int .i64 (s 3),.int .i64 (s 4),.int .i64 (s 5)] 32));by_cases c:s 0=0
 ·have O:(s 0==0)=true:=by simpa using c
  have b:=hid (show kAt p n a k r=(ft,6) by rw[A.out];unfold kOf;rw[ag c]);clear c;go_wp2_with fail
  have q:=ni (v0:=.int .i64 0) (v1:=.int .i64 0) (v2:=.int .i64 0) (v3:=.int .i64 0) (v4:=.int .i64 0) (v5:=.int .i64 0) u;exact ar (v:=.tuple #[.agg (kv ft),.int .i64 6]) (by simp[results,Tryz.results231,go_sem,kv,ft,q 0,q 1,q 2,q 3,q 4,q 5]) rfl ⟨by rw[b.out],vW m⟩
 have O:(s 0==0)=false:=by simpa using c
 by_cases d:s 0=k
 rotate_left
 ·have P:(s 0 !=k)=true:=by simpa using d
  have b:=hid (show kAt p n a k r=(ft,3) by rw[A.out];unfold kOf;rw[ae c,ae d]);go_wp2_with fail
  have q:=ni (v0:=.int .i64 0) (v1:=.int .i64 0) (v2:=.int .i64 0) (v3:=.int .i64 0) (v4:=.int .i64 0) (v5:=.int .i64 0) u;exact ar (v:=.tuple #[.agg (kv ft),.int .i64 3]) (by simp[results,Tryz.results231,go_sem,kv,ft,q 0,q 1,q 2,q 3,q 4,q 5]) rfl ⟨by rw[b.out],vW m⟩
 have P:(s 0 !=k)=false:=by simpa using d
 by_cases j:bits .and .i64 (s 4) r=r
 rotate_left
 ·have Q:(bits .and .i64 (s 4) r !=r)=true:=by simpa using j
  have b:=hid (show kAt p n a k r=(ft,4) by rw[A.out];unfold kOf;rw[ae c,ag d,ae j]);clear c d j;go_wp2_with fail
  have q:=ni (v0:=.int .i64 0) (v1:=.int .i64 0) (v2:=.int .i64 0) (v3:=.int .i64 0) (v4:=.int .i64 0) (v5:=.int .i64 0) u;exact ar (v:=.tuple #[.agg (kv ft),.int .i64 4]) (by simp[results,Tryz.results231,go_sem,kv,ft,q 0,q 1,q 2,q 3,q 4,q 5]) rfl ⟨by rw[b.out],vW m⟩
 have Q:(bits .and .i64 (s 4) r !=r)=false:=by simpa using j
 have b:=hid (show kAt p n a k r=(s,0) by rw[A.out];unfold kOf;rw[ae c,ag d,ag j]);clear c d j;go_wp2_with fail
 have q:=ni (v0:=.int .i64 (s 0)) (v1:=.int .i64 (s 1)) (v2:=.int .i64 (s 2)) (v3:=.int .i64 (s 3)) (v4:=.int .i64 (s 4)) (v5:=.int .i64 (s 5)) u;exact ar (v:=.tuple #[.agg (kv s),.int .i64 0]) (by simp[results,Tryz.results231,go_sem,kv,q 0,q 1,q 2,q 3,q 4,q 5]) rfl ⟨by rw[b.out],vW m⟩
end Wd
namespace Mem
open Go.RowKit
section
variable {P : Program} {md : Region.Mode} {ops : Array Oper} {Q : Exit -> Act -> World -> Prop} {n1 N : Nat} {R : Nat -> Value -> World -> Prop} {w0 : World} {a0 : Act}
end
end Mem
namespace Wd
open Go.RowKit Mem Bw Nums Mmu
theorem t7 (z:Value) (n k:Nat) (a:z.cells=#[z]) (h:k<n):(madeCells z.cells (n*1))[k]? =some z:=by
 unfold madeCells;rw[a];simp[h,Nat.mod_one]
theorem zH:(Tryz.prog.info? 22).map (fun i=>(i.zero,i.size,i.bytes))=some (some (.slice none 0 0),1,24):=oK
theorem Cp:(Tryz.prog.info? 38).map (fun i=>(i.zero,i.size,i.bytes))=some (some (.slice none 0 0),1,24):=oK
theorem jH (w:World):ed w (.slice none 0 0) []:=⟨none,0,0,0,rfl,fun e=>by simp at e,fun j a=>by simp at a⟩
theorem uq {w:World} {B:Nat} {v:Value} {zs:List Int} (h:w.ownsRow B 3 1 v zs.length (dU zs)):ed w v zs:=by
 rcases h.2 with ⟨rfl,a⟩|⟨g,cap,c,rfl,a,_⟩
 ·rw[List.length_eq_zero_iff.1 a];exact jH w
 ·refine⟨some ⟨g,0,none⟩,g,0,cap,rfl,fun _=>rfl,fun j b=>?_⟩;rw[aC,h.cellAt j oA];unfold dU;rw[db,ac b];rfl
theorem _root_.Go.Proofs.YtnccmdndkmmhcaaGreatDoor.dN:type_of% @uq:= @uq
theorem ma (zs:List Int):(dU zs).length=zs.length*1:=by simp[dU]
theorem pk (zs:List Int):∀u∈dU zs,u.oneCell'=true:=by
 intro u a;obtain⟨z,_,rfl⟩:=List.mem_map.1 a;rfl
theorem ints_at {w:World} {b off:Nat} {zs:List Int} (h:fW w b off zs):∀(j:Nat) (u:Value),(dU zs)[j]? =some u->w.cell? ((⟨b,off,none⟩:Addr).add j)=some u:=by
 intro j u a;have c:j<zs.length:=by have:=(List.getElem?_eq_some_iff.1 a).1;simpa [dU] using this
 rw[Addr.add_mid,h j c, <-a];simp[dU,c]
theorem hD (v:Value) (zs:List Int) (w:World) (hv:ed w v zs) (hl:zs.length<=1000):
  Calls Tryz.prog 203 #[v] w fun r w'=>∃u,r=.returned u∧w'.ownsRow w.heap.size 3 1 u zs.length (dU zs)∧Below w.heap.size w w':=by
 obtain⟨i0,hi,G,H,I⟩:=fj kD;have K:∀(w:World) (a:Option Addr) (n c g f:Nat),(binOp .eql 22 (.slice a n c) (.slice none g f)).run Tryz.prog w=.ok (.bool a.isNone) w:=fun w a n c g f=>Lib.run_eql_slice_nil w _ _ a n c g f Tryz.underlying22;obtain⟨q,b,off,cap,rfl,E,F⟩:=hv;have i:=hid E;have B:=hid F
 cases q with
 |none=>
  have d:zs=[]:=by
   cases zs with
   |nil=>rfl
   |cons x l=>have:=i.out oS;cases this
  subst d;go_enter Tryz.func203,Tryz.ntmps203
  go_wp2_with fail
  go_ret
  exact⟨_,rfl,ct _ _ _ _,af _ _⟩
 |some ad=>
  have A:=hid (show ∀(W:World),Below w.heap.size w W->∀(j:Nat) (u:Value),(dU zs)[j]? =some u->W.cell? (ad.add j)=some u from fun W D=>by
   by_cases d:0<zs.length
   ·have:=i.out d
    cases this
    exact ints_at (B.below D)
   ·intro j u p;have:zs=[]:=by
     cases zs with
     |nil=>rfl
     |cons x l=>simp at d
    rw[this] at p;simp[dU] at p)
  have z:=hid (ma zs);have y:=hid (pk zs);have J:zs.length<=maxLen:=by unfold maxLen;omega
  have h:=hid (bal (af w.heap.size w) (.cells #[] 3));have m:=hid (dy (base:=w.heap.size) (e:=3) (size:=1) w #[] 0 (aq _) (bP _) oS);generalize dU zs=cs at*;go_enter Tryz.func203,Tryz.ntmps203
  go_wp2_with (at_builtin;refine aY _ rfl _ _ 22 rfl w.heap.size 3 i0 (.int .i64 0) 1 8 Tryz.underlying22 hi G H I rfl oD _ _ _ rfl m ad zs.length cap cs rfl z (A.out _ h) y oA oA oS ?_;intro L M s o _;have t:=hid (h.grown o oS (fun k hk=>(m.lt k hk).1));have C:=hid s;clear s o)
  go_ret
  refine⟨_,rfl,?_,t.out⟩;have:=C.out;rw[aC,eC] at this;exact this
def noP:PW:={IL:=[],kinds:=[],IH:=[],II:=[],lines:=[],bits:=[],IJ:=[],ready:=[],IK:=[],IQ:=[],time:=0}
def tD (k:Nat):Value:=if k=10 then .int .i64 0 else .slice none 0 0
theorem ly (w:World):eu w tD noP:=
 ⟨jH w,jH w,⟨none,0,0,0,rfl,fun e=>by simp[noP] at e,fun j a=>by simp[noP] at a⟩,⟨none,0,0,0,rfl,fun e=>by simp[noP] at e,fun j a=>by simp[noP] at a⟩,⟨none,0,0,0,rfl,fun e=>by simp[noP] at e,fun j a=>by simp[noP] at a⟩,jH w,jH w,⟨none,0,0,0,rfl,fun e=>by simp[noP] at e,fun j a=>by simp[noP] at a⟩,⟨none,0,0,0,rfl,fun e=>by simp[noP] at e,fun j a=>by simp[noP] at a⟩,jH w,rfl⟩
def eX (n:Nat) (fs:List (Nat->Int)):List Value:=fs.flatMap (cf n)
theorem gr (n:Nat):∀fs,(eX n fs).length=fs.length*n
 |[]=>by simp[eX]
 |f::r=>by
  have:=gr n r;unfold eX at this ⊢;rw[List.flatMap_cons,ax,ay,this,dY,Nat.succ_mul];omega
theorem kL (n:Nat) (fs:List (Nat->Int)):∀u∈eX n fs,u.oneCell'=true:=by
 intro u a;obtain⟨f,_,h⟩:=List.mem_flatMap.1 a;exact bQ n f u h
theorem rD (n:Nat):∀(fs:List (Nat->Int)) (j:Nat) (u:Value),(eX n fs)[j]? =some u->∃(i k:Nat) (h:i<fs.length),k<n∧j=i*n+k∧u=.int .i64 (fs[i] k)
 |[],j,u,h=>by simp[eX] at h
 |f::r,j,u,h=>by
  have e:eX n (f::r)=cf n f++eX n r:=by unfold eX;rw[List.flatMap_cons]
  rw[e] at h;by_cases a:j<n
  ·rw[List.getElem?_append_left (by rw[ay];exact a),dk n f j a] at h;exact⟨0,j,oS,a,oS,(aK h).symm⟩
  ·rw[dS (by rw[ay];omega),ay] at h;obtain⟨i,k,hi,hk,c,b⟩:=rD n r (j - n) u h;exact⟨i+1,k,by simpa using hi,hk,by rw[Nat.succ_mul];omega,by simpa using b⟩
theorem iW (n:Nat):∀(fs:List (Nat->Int)) (i k:Nat) (h:i<fs.length),k<n->(eX n fs)[i*n+k]? =some (.int .i64 (fs[i] k))
 |[],_,_,h,_=>by simp at h
 |f::r,i,k,h,hk=>by
  have e:eX n (f::r)=cf n f++eX n r:=by unfold eX;rw[List.flatMap_cons]
  rw[e]
  match i,h with
  |0,_=>
   rw[List.getElem?_append_left (by rw[ay];omega),Nat.zero_mul,aC,dk n f k hk];rfl
  |i+1,h=>
   rw[dS (by rw[ay,Nat.succ_mul];omega),ay,show (i+1)*n+k - n=i*n+k by rw[Nat.succ_mul];omega,iW n r i k (by simpa using h) hk];rfl
theorem j4 {n b off:Nat} {W:World} {fs:List (Nat->Int)} (h:∀j (c:j<fs.length),W.rangeAt b (off+j*n) (cf n fs[j])):∀(j:Nat) (u:Value),(eX n fs)[j]? =some u->W.cell? ((⟨b,off,none⟩:Addr).add j)=some u:=by
 intro j u a;obtain⟨i,k,hi,hk,rfl,rfl⟩:=rD n fs j u a;rw[Addr.add_mid, <-Nat.add_assoc];exact h i hi k _ (dk n _ k hk)
theorem jr {n E B:Nat} {w:World} {v:Value} {fs:List (Nat->Int)} (h:w.ownsRow B E n v fs.length (eX n fs)):RowsIn n w v fs:=by
 rcases h.2 with ⟨rfl,c⟩|⟨g,cap,d,rfl,c,_⟩
 ·exact⟨none,0,0,0,by rw[c],fun h=>oA,fun j a=>oA⟩
 ·refine⟨some ⟨g,0,none⟩,g,0,cap,rfl,fun _=>rfl,fun j a k u b=>?_⟩;have hk:k<n:=by
   have:=(List.getElem?_eq_some_iff.1 b).1
   rwa [ay] at this
  rw[dk n _ k hk] at b;rw[aC,h.cellAt (j*n+k) (by
   have:(j+1)*n<=fs.length*n:=Nat.mul_le_mul_right n a;rw[Nat.succ_mul] at this;omega),iW n fs j k a hk]
  exact b
theorem mO:(Tryz.prog.info? 34).map (fun i=>(i.zero,i.size,i.bytes))=some (some (.agg zV),7,56):=oK
theorem sh (v:Value) (fs:List (Nat->Int)) (w:World) (hv:RowsIn 7 w v fs) (hl:fs.length<=1000):
  Calls Tryz.prog 204 #[v] w fun r w'=>∃u,r=.returned u∧w'.ownsRow w.heap.size 34 7 u fs.length (eX 7 fs)∧Below w.heap.size w w':=by
 obtain⟨i0,hi,G,H,I⟩:=fj mO;have K:∀(w:World) (a:Option Addr) (n c h g:Nat),(binOp .eql 23 (.slice a n c) (.slice none h g)).run Tryz.prog w=.ok (.bool a.isNone) w:=fun w a n c h g=>Lib.run_eql_slice_nil w _ _ a n c h g Tryz.underlying23;obtain⟨q,b,off,cap,rfl,E,F⟩:=hv;have m:=hid E;have B:=hid F
 cases q with
 |none=>
  have d:fs=[]:=by
   cases fs with
   |nil=>rfl
   |cons x l=>have:=m.out oS;cases this
  subst d;go_enter Tryz.func204,Tryz.ntmps204
  go_wp2_with fail
  go_ret
  exact⟨_,rfl,ct _ _ _ _,af _ _⟩
 |some ad=>
  have A:=hid (show ∀(W:World),Below w.heap.size w W->∀(j:Nat) (u:Value),(eX 7 fs)[j]? =some u->W.cell? (ad.add j)=some u from fun W D=>by
   by_cases d:0<fs.length
   ·have:=m.out d
    cases this
    exact j4 fun j f=>cS (B.out j f) D
   ·intro j u f;have:fs=[]:=by
     cases fs with
     |nil=>rfl
     |cons x l=>simp at d
    rw[this] at f;simp[eX] at f)
  have z:=hid (gr 7 fs);have y:=hid (kL 7 fs);have J:fs.length<=maxLen:=by unfold maxLen;omega
  have i:=hid (bal (af w.heap.size w) (.cells #[] 34));have o:=hid (dy (base:=w.heap.size) (e:=34) (size:=7) w #[] 0 (aq _) (bP _) oS);generalize eX 7 fs=cs at*;go_enter Tryz.func204,Tryz.ntmps204
  go_wp2_with (at_builtin;refine aY _ rfl _ _ 23 rfl w.heap.size 34 i0 (.agg zV) 7 56 Tryz.underlying23 hi G H I rfl oD _ _ _ rfl o ad fs.length cap cs rfl z (A.out _ i) y oA oA oS ?_;intro L M s p _;have t:=hid (i.grown p oS (fun k hk=>(o.lt k hk).1));have C:=hid s;clear s p)
  go_ret
  refine⟨_,rfl,?_,t.out⟩;have:=C.out;rw[aC,eC] at this;exact this
theorem qP:(Tryz.prog.info? 37).map (fun i=>(i.zero,i.size,i.bytes))=some (some (.agg zT),20,160):=oK
theorem si (v:Value) (fs:List (Nat->Int)) (w:World) (hv:RowsIn 20 w v fs) (hl:fs.length<=1000):
  Calls Tryz.prog 205 #[v] w fun r w'=>∃u,r=.returned u∧w'.ownsRow w.heap.size 37 20 u fs.length (eX 20 fs)∧Below w.heap.size w w':=by
 obtain⟨i0,hi,G,H,I⟩:=fj qP;have K:∀(w:World) (a:Option Addr) (n c h g:Nat),(binOp .eql 24 (.slice a n c) (.slice none h g)).run Tryz.prog w=.ok (.bool a.isNone) w:=fun w a n c h g=>Lib.run_eql_slice_nil w _ _ a n c h g Tryz.underlying24;obtain⟨q,b,off,cap,rfl,E,F⟩:=hv;have m:=hid E;have B:=hid F
 cases q with
 |none=>
  have d:fs=[]:=by
   cases fs with
   |nil=>rfl
   |cons x l=>have:=m.out oS;cases this
  subst d;go_enter Tryz.func205,Tryz.ntmps205
  go_wp2_with fail
  go_ret
  exact⟨_,rfl,ct _ _ _ _,af _ _⟩
 |some ad=>
  have A:=hid (show ∀(W:World),Below w.heap.size w W->∀(j:Nat) (u:Value),(eX 20 fs)[j]? =some u->W.cell? (ad.add j)=some u from fun W D=>by
   by_cases d:0<fs.length
   ·have:=m.out d
    cases this
    exact j4 fun j f=>cS (B.out j f) D
   ·intro j u f;have:fs=[]:=by
     cases fs with
     |nil=>rfl
     |cons x l=>simp at d
    rw[this] at f;simp[eX] at f)
  have z:=hid (gr 20 fs);have y:=hid (kL 20 fs);have J:fs.length<=maxLen:=by unfold maxLen;omega
  have i:=hid (bal (af w.heap.size w) (.cells #[] 37));have o:=hid (dy (base:=w.heap.size) (e:=37) (size:=20) w #[] 0 (aq _) (bP _) oS);generalize eX 20 fs=cs at*;go_enter Tryz.func205,Tryz.ntmps205
  go_wp2_with (at_builtin;refine aY _ rfl _ _ 24 rfl w.heap.size 37 i0 (.agg zT) 20 160 Tryz.underlying24 hi G H I rfl oD _ _ _ rfl o ad fs.length cap cs rfl z (A.out _ i) y oA oA oS ?_;intro L M s p _;have t:=hid (i.grown p oS (fun k hk=>(o.lt k hk).1));have C:=hid s;clear s p)
  go_ret
  refine⟨_,rfl,?_,t.out⟩;have:=C.out;rw[aC,eC] at this;exact this
def InO (w:World) (lo hi I s:Nat) (u:Value) (c:Nat×List Value):Prop:=w.ownsRow lo I s u c.1 c.2∧∀k,u.ownBlock=some k->k<hi
theorem InO.below {w w':World} {lo hi I s:Nat} {u:Value} {c:Nat×List Value} (h:InO w lo hi I s u c) (a:Below w.heap.size w w'):InO w' lo hi I s u c:=⟨fI h.1 a,h.2⟩
theorem _root_.Go.Proofs.YtnccmdndkmmhcaaGreatDoor.bU:type_of% @InO.below:= @InO.below
theorem InO.set {w:World} {lo hi I s:Nat} {u:Value} {c:Nat×List Value} (h:InO w lo hi I s u c) {a:Addr} (b:a.block<lo) (x:Value):InO (w.setCell a x) lo hi I s u c:=⟨ownsRow_setCell_below h.1 b x,h.2⟩
structure ml (w:World) (g n O I s:Nat) (cc:Nat->Nat×List Value) (k:Nat) (us:List Value) (m:Nat->Nat):Prop where
 len:us.length=k
 row:w.ownsRow g O 1 (.slice (some ⟨g,0,none⟩) n n) n (us++List.replicate (n - k) (.slice none 0 0))
 lo:∀j,j<=k->g<m j
 hi:m k<=w.heap.size
 each:∀j (h:j<us.length),InO w (m j) (m (j+1)) I s us[j] (cc j)
theorem ml.below {w w':World} {g n O I s k:Nat} {b:Nat->Nat×List Value} {us:List Value} {m:Nat->Nat} (h:ml w g n O I s b k us m) (a:Below w.heap.size w w'):ml w' g n O I s b k us m:=
 ⟨h.len,fI h.row a,h.lo,aB h.hi a.size,fun j c=>(h.each j c).below a⟩
theorem ml.cell {w:World} {g n O I s k:Nat} {a:Nat->Nat×List Value} {us:List Value} {m:Nat->Nat} (h:ml w g n O I s a k us m) (hk:k<n):w.cell? ⟨g,k,none⟩=some (.slice none 0 0):=by
 rw[h.row.cellAt k oA,dS (by rw[h.len];exact aq _),h.len,Nat.sub_self,List.getElem?_replicate,ag oA]
theorem ml.more {w w1:World} {g n O I s k:Nat} {a:Nat->Nat×List Value} {us:List Value} {m:Nat->Nat} (h:ml w g n O I s a k us m) (hk:k<n) (f:Below w.heap.size w w1) {u:Value} (d:w1.ownsRow w.heap.size I s u (a k).1 (a k).2):
  ml (w1.setCell ⟨g,k,none⟩ u) g n O I s a (k+1) (us++[u]) (fun j=>if j<=k then m j else w1.heap.size):=by
 have b:=h.below f;refine⟨by simp[h.len],?_,fun j c=>?_,?_,fun j c=>?_⟩
 ·have:=(b.row.stored k u).1;have e:(us++List.replicate (n - k) (Value.slice none 0 0)).set k u=us++[u]++List.replicate (n - (k+1)) (.slice none 0 0):=by
   rw[List.set_append_right _ _ (by rw[h.len];exact aq _),h.len,Nat.sub_self,show n - k=(n - (k+1))+1 by omega,List.replicate_succ,List.set_cons_zero,List.append_assoc];rfl
  rwa [e] at this
 ·by_cases e:j<=k
  ·rw[ag e];exact h.lo j e
  ·rw[ae e];exact aE (h.lo k (aq _)) b.hi
 ·rw[ae oA];simp
 ·by_cases e:j<k
  ·rw[List.getElem_append_left (by rw[h.len];exact e),ag oA,ag oA];exact (b.each j (by rw[h.len];exact e)).set (h.lo j oA) u
  ·have i:j=k:=by simp[h.len] at c;omega
   subst i;rw[List.getElem_append_right (by rw[h.len];exact aq _),ag (aq _),ae oA];simp only[h.len,Nat.sub_self,bh];exact (show InO w1 (m j) w1.heap.size I s u (a j) from⟨d.mono h.hi,fun x l=>(d.lt x l).2⟩).set (h.lo j (aq _)) u
theorem ml.start (w:World) (n O I s:Nat) (b:Nat->Nat×List Value) (f:n<=maxLen) (a:Array Value) (c:a=Array.replicate n (.slice none 0 0)):ml (w.alloc (.cells a O)) w.heap.size n O I s b 0 [] (fun _=>w.heap.size+1):=by
 subst c;refine⟨rfl,?_,fun _ _=>dM _,oS,fun j d=>by simp at d⟩;have:=World.ownsRow_lit (base:=w.heap.size) (e:=O) (size:=1) w (Array.replicate n (.slice none 0 0)) n (aq _) f oS;simpa using this
def iC (w:World) (lo hi O I s n:Nat) (v:Value) (cc:Nat->Nat×List Value):Prop:=∃g us m,v=.slice (some ⟨g,0,none⟩) n n∧lo<=g∧m n<=hi∧(∀j,j<n->m j<=m (j+1))∧ml w g n O I s cc n us m
def ci (ls:List (List Int)) (j:Nat):Nat×List Value:=((ls.getD j []).length,dU (ls.getD j []))
def ce (ls:List (List Ent)) (j:Nat):Nat×List Value:=((ls.getD j []).length,fo (ls.getD j []))
theorem iT (n:Nat):madeCells (Value.cells (.slice none 0 0)) (n*1)=Array.replicate n (Value.slice none 0 0):=by
 apply Array.ext_getElem?;intro k;by_cases h:k<n
 ·rw[t7 _ _ _ rfl h];simp[h]
 ·rw[Array.getElem?_eq_none (by unfold madeCells;simp;omega)];simp[h]
theorem uo {B e size n:Nat} {w:World} {v:Value} {xs:List Value} (h:w.ownsRow B e size v n xs):∃q c,v=.slice q n c:=by
 rcases h.2 with ⟨rfl,rfl⟩|⟨g,cap,a,rfl,_⟩
 ·exact⟨_,_,rfl⟩
 ·exact⟨_,_,rfl⟩
theorem _root_.Go.Proofs.YtnccmdndkmmhcaaGreatDoor.eJ:type_of% @uo:= @uo
theorem rV (v:Value) (ls:List (List Int)) (w:World) (hv:gi w v ls) (hl:ls.length<=1000) (L:∀l∈ls,l.length<=1000):
  Calls Tryz.prog 206 #[v] w fun r w'=>∃u,r=.returned u∧iC w' w.heap.size w'.heap.size 22 3 1 ls.length u (ci ls)∧Below w.heap.size w w':=by
 obtain⟨q,b,off,cap,rfl,M,P⟩:=hv;have G:=hid M;have I:=hid P;have H:=hid L;have V:(ls.length:Int)<=1000:=oA;have mk:=gG Tryz.underlying25 zH oD oD ls.length hl w;rw[iT] at mk;have t:=hid (ml.start w ls.length 22 3 1 (ci ls) (by unfold maxLen;omega) _ rfl);have p:=hid (bal (af w.heap.size w) (.cells (Array.replicate ls.length (Value.slice none 0 0)) 22));have J:=hid (show (w.alloc (.cells (Array.replicate ls.length (Value.slice none 0 0)) 22)).heap.size=w.heap.size+1 by simp);go_enter Tryz.func206,Tryz.ntmps206
 go_wp2_with fail
 generalize World.alloc _ _=Q at t p J ⊢
 go_loopw [11] (fun i wr=>∃(k:Nat),k<=ls.length∧i=.int .i64 k∧Hid (∃us m,ml wr w.heap.size ls.length 22 3 1 (ci ls) k us m∧∀j,j<k->m j<=m (j+1))∧Hid (Below w.heap.size w wr)) (fun i _=>ls.length - (intOf i).toNat)
 case atStart=>exact⟨0,oA,rfl,hid ⟨[],_,t.out,fun j K=>oA⟩,p⟩
 case round=>
  obtain⟨k,hk,rfl,s,f⟩:=hrel;by_cases d:k<ls.length
  ·have W:(k:Int)<(ls.length:Int):=oA;obtain⟨us,m,n,h⟩:=s.out;have N:=G.out oA;subst N;obtain⟨x,z,O⟩:=I.out k d;have S:=(f.cell (aj _ _ z)).trans z;have C:=hid (hD x ls[k] wr (O.below f) (H.out _ (av d)));have E:=hid (show (ci ls) k=(ls[k].length,dU ls[k]) by unfold ci;rw[aa,ac d];rfl);have a:=hid n;have g:=hid h;go_wp2_with fail
   refine C.mono ?_;rintro r w1 ⟨u,rfl,y,c⟩;obtain⟨A,cu,rfl⟩:=eJ y;have R:=(a.below c).cell d;have T:=(a.below c).row.frozenAt k;have F:=hid (a.more d c (u:=.slice A ls[k].length cu) (by rw[E.out];exact y));have B:=hid (iq (btr f c) (o:=k) (aq _) (.slice A ls[k].length cu));have D:=hid (aB a.hi c.size);go_wp2_with fail
   refine⟨⟨k+1,oA,by go_num,hid ⟨_,_,F.out,fun j K=>?_⟩,B⟩,by simp[intOf];omega⟩;by_cases e:j<k
   ·rw[ag oA,ag oA];exact g j e
   ·rw[ag oA,ae oA,show j=k by omega];exact D
  ·obtain rfl:k=ls.length:=oA;have U:¬((ls.length:Int)<(ls.length:Int)):=oA;obtain⟨us,m,n,h⟩:=s.out;have a:=hid n;have g:=hid h;go_wp2_with fail
   go_ret
   exact⟨_,rfl,⟨w.heap.size,us,m,rfl,aq _,a.hi,g.out,a.out⟩,f.out⟩
theorem yI (v:Value) (ls:List (List Ent)) (w:World) (hv:iE w v ls) (hl:ls.length<=1000):
  Calls Tryz.prog 207 #[v] w fun r w'=>∃u,r=.returned u∧iC w' w.heap.size w'.heap.size 38 40 4 ls.length u (ce ls)∧Below w.heap.size w w':=by
 obtain⟨q,b,off,cap,rfl,J,M⟩:=hv;have F:=hid J;have G:=hid M;have S:(ls.length:Int)<=1000:=oA;have mk:=gG Tryz.underlying26 Cp oD oD ls.length hl w;rw[iT] at mk;have s:=hid (ml.start w ls.length 38 40 4 (ce ls) (by unfold maxLen;omega) _ rfl);have n:=hid (bal (af w.heap.size w) (.cells (Array.replicate ls.length (Value.slice none 0 0)) 38));have H:=hid (show (w.alloc (.cells (Array.replicate ls.length (Value.slice none 0 0)) 38)).heap.size=w.heap.size+1 by simp);go_enter Tryz.func207,Tryz.ntmps207
 go_wp2_with fail
 generalize World.alloc _ _=N at s n H ⊢
 go_loopw [11] (fun i wr=>∃(k:Nat),k<=ls.length∧i=.int .i64 k∧Hid (∃us m,ml wr w.heap.size ls.length 38 40 4 (ce ls) k us m∧∀j,j<k->m j<=m (j+1))∧Hid (Below w.heap.size w wr)) (fun i _=>ls.length - (intOf i).toNat)
 case atStart=>exact⟨0,oA,rfl,hid ⟨[],_,s.out,fun j I=>oA⟩,n⟩
 case round=>
  obtain⟨k,hk,rfl,p,d⟩:=hrel;by_cases f:k<ls.length
  ·have T:(k:Int)<(ls.length:Int):=oA;obtain⟨us,m,l,h⟩:=p.out;have K:=F.out oA;subst K;obtain⟨x,y,L⟩:=G.out k f;have P:=(d.cell (aj _ _ y)).trans y;have B:=hid (vZ x ls[k] wr (L.1.below d));have D:=hid (show (ce ls) k=(ls[k].length,fo ls[k]) by unfold ce;rw[aa,ac f];rfl);have a:=hid l;have g:=hid h;go_wp2_with fail
   refine B.mono ?_;rintro r w1 ⟨u,rfl,t,c⟩;obtain⟨z,cu,rfl⟩:=eJ t;have O:=(a.below c).cell f;have Q:=(a.below c).row.frozenAt k;have E:=hid (a.more f c (u:=.slice z ls[k].length cu) (by rw[D.out];exact t));have A:=hid (iq (btr d c) (o:=k) (aq _) (.slice z ls[k].length cu));have C:=hid (aB a.hi c.size);go_wp2_with fail
   refine⟨⟨k+1,oA,by go_num,hid ⟨_,_,E.out,fun j I=>?_⟩,A⟩,by simp[intOf];omega⟩;by_cases e:j<k
   ·rw[ag oA,ag oA];exact g j e
   ·rw[ag oA,ae oA,show j=k by omega];exact C
  ·obtain rfl:k=ls.length:=oA;have R:¬((ls.length:Int)<(ls.length:Int)):=oA;obtain⟨us,m,l,h⟩:=p.out;have a:=hid l;have g:=hid h;go_wp2_with fail
   go_ret
   exact⟨_,rfl,⟨w.heap.size,us,m,rfl,aq _,a.hi,g.out,a.out⟩,d.out⟩
theorem InO.I6 {lo hi I s:Nat} {u:Value} {c:Nat×List Value} {B:Nat} (hB:B<lo):∀(b:List Value) (o:Nat) (w:World),InO w lo hi I s u c->InO (w.setCells B o b) lo hi I s u c
 |[],_,_,h=>h
 |v::r,o,w,h=>by
  rw[World.setCells];exact InO.I6 hB r (o+1) _ (h.set (a:=⟨B,o,none⟩) hB v)
theorem ml.set {w:World} {g n O I s k:Nat} {b:Nat->Nat×List Value} {us:List Value} {m:Nat->Nat} (h:ml w g n O I s b k us m) {a:Addr} (c:a.block<g) (x:Value):ml (w.setCell a x) g n O I s b k us m:=
 ⟨h.len,ownsRow_setCell_below h.row c x,h.lo,by simpa using h.hi,fun j d=>(h.each j d).set (Nat.lt_trans c (h.lo j (by rw[<-h.len];omega))) x⟩
theorem iC.below {w w':World} {lo hi O I s n:Nat} {v:Value} {cc:Nat->Nat×List Value} (h:iC w lo hi O I s n v cc) (f:Below w.heap.size w w'):iC w' lo hi O I s n v cc:=by
 obtain⟨g,us,m,a,b,c,d,e⟩:=h;exact⟨g,us,m,a,b,c,d,e.below f⟩
theorem iC.set {w:World} {lo hi O I s n:Nat} {v:Value} {cc:Nat->Nat×List Value} (h:iC w lo hi O I s n v cc) {a:Addr} (i:a.block<lo) (x:Value):iC (w.setCell a x) lo hi O I s n v cc:=by
 obtain⟨g,us,m,c,b,d,e,f⟩:=h;exact⟨g,us,m,c,b,d,e,f.set (aE i b) x⟩
theorem iC.I6 {lo hi O I s n:Nat} {v:Value} {b:Nat->Nat×List Value} {B:Nat} (hB:B<lo):∀(c:List Value) (o:Nat) (w:World),iC w lo hi O I s n v b->iC (w.setCells B o c) lo hi O I s n v b
 |[],_,_,h=>h
 |x::r,o,w,h=>by
  rw[World.setCells];exact iC.I6 hB r (o+1) _ (h.set (a:=⟨B,o,none⟩) hB x)
structure gj (w:World) (L:Nat->Nat) (v:Nat->Value) (p:PW):Prop where
 mono:∀j,j<10->L j<=L (j+1)
 IL:InO w (L 0) (L 1) 3 1 (v 0) (p.IL.length,dU p.IL)
 kinds:InO w (L 1) (L 2) 3 1 (v 1) (p.kinds.length,dU p.kinds)
 IH:InO w (L 2) (L 3) 34 7 (v 2) (p.IH.length,eX 7 p.IH)
 II:InO w (L 3) (L 4) 37 20 (v 3) (p.II.length,eX 20 p.II)
 lines:iC w (L 4) (L 5) 22 3 1 p.lines.length (v 4) (ci p.lines)
 bits:InO w (L 5) (L 6) 3 1 (v 5) (p.bits.length,dU p.bits)
 IJ:InO w (L 6) (L 7) 3 1 (v 6) (p.IJ.length,dU p.IJ)
 ready:iC w (L 7) (L 8) 22 3 1 p.ready.length (v 7) (ci p.ready)
 IK:iC w (L 8) (L 9) 38 40 4 p.IK.length (v 8) (ce p.IK)
 IQ:InO w (L 9) (L 10) 3 1 (v 9) (p.IQ.length,dU p.IQ)
 time:v 10=.int .i64 p.time
theorem gj.le {w:World} {L:Nat->Nat} {v:Nat->Value} {p:PW} (h:gj w L v p):∀j,j<=10->L 0<=L j
 |0,_=>aq _
 |j+1,hj=>aB (h.le j oA) (h.mono j oA)
theorem gj.below {w w':World} {L:Nat->Nat} {v:Nat->Value} {p:PW} (h:gj w L v p) (a:Below w.heap.size w w'):gj w' L v p:=
 ⟨h.mono,h.IL.below a,h.kinds.below a,h.IH.below a,h.II.below a,h.lines.below a,h.bits.below a,h.IJ.below a,h.ready.below a,h.IK.below a,h.IQ.below a,h.time⟩
theorem gj.I6 {w:World} {L:Nat->Nat} {v:Nat->Value} {p:PW} (h:gj w L v p) {B:Nat} (hB:B<L 0) (a:List Value) (o:Nat):gj (w.setCells B o a) L v p:=
 ⟨h.mono,InO.I6 (aE hB (h.le 0 oA)) a o w h.IL,InO.I6 (aE hB (h.le 1 oA)) a o w h.kinds,InO.I6 (aE hB (h.le 2 oA)) a o w h.IH,InO.I6 (aE hB (h.le 3 oA)) a o w h.II,iC.I6 (aE hB (h.le 4 oA)) a o w h.lines,InO.I6 (aE hB (h.le 5 oA)) a o w h.bits,InO.I6 (aE hB (h.le 6 oA)) a o w h.IJ,iC.I6 (aE hB (h.le 7 oA)) a o w h.ready,iC.I6 (aE hB (h.le 8 oA)) a o w h.IK,InO.I6 (aE hB (h.le 9 oA)) a o w h.IQ,h.time⟩
theorem InO.ints {w:World} {lo hi:Nat} {u:Value} {zs:List Int} (h:InO w lo hi 3 1 u (zs.length,dU zs)):ed w u zs:=dN h.1
theorem iC.lists {w:World} {lo hi O:Nat} {v:Value} {ls:List (List Int)} (h:iC w lo hi O 3 1 ls.length v (ci ls)):gi w v ls:=by
 obtain⟨g,us,m,rfl,_,_,_,a⟩:=h;refine⟨some ⟨g,0,none⟩,g,0,ls.length,rfl,fun _=>rfl,fun j c=>?_⟩;have b:j<us.length:=by rw[a.len];exact c
 have d:=a.row.cellAt j oA;rw[List.getElem?_append_left b,ac b] at d;refine⟨us[j],by rw[aC];exact d,?_⟩;have:=(a.each j b).1;unfold ci at this;rw[aa,ac c] at this;exact dN this
theorem ya {w:World} {B:Nat} {v:Value} {l:List Ent} (h:w.ownsRow B 40 4 v l.length (fo l)) (hl:l.length<=100):jb w v l∧vP v:=by
 rcases h.2 with ⟨rfl,b⟩|⟨g,cap,f,rfl,b,i,d,_⟩
 ·rw[List.length_eq_zero_iff.1 b];exact⟨⟨none,0,0,0,rfl,fun e=>by simp at e,fun j a=>by simp at a,oS⟩,aq _⟩
 ·refine⟨⟨some ⟨g,0,none⟩,g,0,cap,rfl,fun _=>rfl,fun j a=>?_,hl⟩,d⟩;obtain⟨c0,c1,c2,c⟩:=kx l j a;simp only[aC];exact⟨(h.cellAt (j*4) oA).trans c0,(h.cellAt (j*4+1) oA).trans c1,(h.cellAt (j*4+2) oA).trans c2,(h.cellAt (j*4+3) oA).trans c⟩
theorem iC.IK {w:World} {lo hi O:Nat} {v:Value} {ls:List (List Ent)} (h:iC w lo hi O 40 4 ls.length v (ce ls)) (hl:∀l∈ls,l.length<=100):iE w v ls:=by
 obtain⟨g,us,m,rfl,_,_,_,a⟩:=h;refine⟨some ⟨g,0,none⟩,g,0,ls.length,rfl,fun _=>rfl,fun j b=>?_⟩;have c:j<us.length:=by rw[a.len];exact b
 have d:=a.row.cellAt j oA;rw[List.getElem?_append_left c,ac c] at d;refine⟨us[j],by rw[aC];exact d,?_⟩;have:=(a.each j c).1;unfold ce at this;rw[aa,ac b] at this;exact ya this (hl _ (av b))
theorem gj.v {w:World} {L:Nat->Nat} {v:Nat->Value} {p:PW} (h:gj w L v p) (hl:∀l∈p.IK,l.length<=100):eu w v p:=
 ⟨h.IL.ints,h.kinds.ints,jr h.IH.1,jr h.II.1,h.lines.lists,h.bits.ints,h.IJ.ints,h.ready.lists,h.IK.IK hl,h.IQ.ints,h.time⟩
theorem tw {w:World} {v:Value} {ls:List (List Ent)} (h:iE w v ls):∀l∈ls,l.length<=100:=by
 intro l hl;obtain⟨_,b,off,_,_,_,a⟩:=h;obtain⟨j,d,rfl⟩:=List.mem_iff_getElem.1 hl;obtain⟨x,_,⟨_,_,_,_,_,_,_,c⟩,_⟩:=a j d;exact c
