/- Uan -/
import Derived.Maps.AppendAt
import Derived.Deep.RegionHeld3
import Derived.BigQuiet
import Derived.Deep.CutBlock
import Derived.Laws.IdiomCopy
import Derived.Test.YtnccmdndkmmhcaaGreatDoorUam
set_option maxRecDepth 100000
set_option maxHeartbeats 16000000
namespace Go.Proofs.YtnccmdndkmmhcaaGreatDoor
namespace Mmu
open Go.RowKit Mem Bw Nums
end Mmu
namespace Wd
open Go.RowKit Mem Bw Nums Mmu
theorem EY:(Tryz.prog.info? 40).map (·.size)=some 4:=oK
theorem kpB {w w' w2:World} {T:Nat->Prop} (h:Kp T w w') (a:Below w'.heap.size w' w2):Kp T w w2:=h.trans ⟨a.os,a.tape,a.output,a.size,fun k hk _=>a.block k hk⟩
theorem InE.row {w:World} {tag:Nat->Nat} {t:Nat} {u:Value} {l:List Ent} (h:InE w tag t u l) (s:0<l.length):∃g off cap,u=.slice (some ⟨g,off,none⟩) l.length cap∧gx w g off l∧tag g=t∧g<w.heap.size∧l.length<=cap∧∀o,w.frozen? ⟨g,o,none⟩=false:=by
 rcases h with h|⟨b,off,cap,c,e,d,k,v,m,n⟩
 ·obtain⟨a,q⟩:=h;rcases a.2 with ⟨_,c⟩|⟨g,cap,r,rfl,c,e,d,_⟩
  ·exact absurd (show l.length=0 from c) oA
  ·refine⟨g,0,cap,rfl,fun j p=>?_,q g rfl,(a.lt g rfl).2,d,a.frozenAt⟩;obtain⟨f,e1,e2,i⟩:=kx l j p;rw[aC];exact⟨(a.cellAt (j*4) (by simp only;omega)).trans f,(a.cellAt (j*4+1) (by simp only;omega)).trans e1,(a.cellAt (j*4+2) (by simp only;omega)).trans e2,(a.cellAt (j*4+3) (by simp only;omega)).trans i⟩
 ·exact⟨b,off,cap,c,e,d,k,m,n⟩
theorem zm {w:World} {b off:Nat} {m:List Ent} (h:gx w b off m) {i:Nat} (hi:i<m.length) (x y z:Int) (u:Bool):
  gx ((((w.setCell ⟨b,off+i*4,none⟩ (.int .i64 x)).setCell ⟨b,off+i*4+1,none⟩ (.int .i64 y)).setCell ⟨b,off+i*4+2,none⟩ (.int .i64 z)).setCell ⟨b,off+i*4+3,none⟩ (.bool u)) b off (m.set i (x,y,z,u)):=by
 show gx (w.setCells b (off+i*4) [.int .i64 x,.int .i64 y,.int .i64 z,.bool u]) b off _
 intro j d;have c:j<m.length:=by rw[au] at d;exact d
 by_cases e:j=i
 ·subst e;have a:∀k,k<[Value.int .i64 x,.int .i64 y,.int .i64 z,.bool u].length->(w.cell? ⟨b,off+j*4+k,none⟩).isSome=true:=fun k hk=>by
   have:=h j c;rcases k with _|_|_|_|k
   ·rw[bu,this.1];rfl
   ·rw[this.2.1];rfl
   ·rw[this.2.2.1];rfl
   ·rw[this.2.2.2];rfl
   ·simp at hk;omega
  rw[dV];exact⟨World.cell?_setCells_in b _ _ w a 0 (show 0<4 by decide),World.cell?_setCells_in b _ _ w a 1 (show 1<4 by decide),World.cell?_setCells_in b _ _ w a 2 (show 2<4 by decide),World.cell?_setCells_in b _ _ w a 3 (show 3<4 by decide)⟩
 ·rw[List.getElem_set_ne (fun x=>e x.symm)];have:=h j c;exact⟨(cH b _ _ w _ (fun _ _=>by simp;omega)).trans this.1,(cH b _ _ w _ (fun _ _=>by simp;omega)).trans this.2.1,(cH b _ _ w _ (fun _ _=>by simp;omega)).trans this.2.2.1,(cH b _ _ w _ (fun _ _=>by simp;omega)).trans this.2.2.2⟩
theorem uU {w:World} {g off:Nat} {m:List Ent} (h:gx w g off m) (f:∀o,w.frozen? ⟨g,o,none⟩=false) {n:Nat} (p:m.length=n) (i:Nat) (hi:i<n) (s:TypeId) (c:Nat):
  ∃w',(Builtin.clear_ #[38] s #[.slice (some ⟨g,off+i*4,none⟩) (n - i) c]).run Tryz.prog w=.ok (.tuple #[]) w'∧gx w' g off (m.take i)∧(∀o,w'.frozen? ⟨g,o,none⟩=false)∧Kp (fun k=>k=g) w w':=by
 subst p;obtain⟨k,hk⟩:∃k,m.length - i=k+1:=⟨m.length - i - 1,oA⟩
 obtain⟨L,a⟩:∃L,(Builtin.zeroCells (Value.agg #[.int .i64 0,.int .i64 0,.int .i64 0,.bool false]).cells (m.length - i)).toList=L:=⟨_,rfl⟩
 have t:L.length=(m.length - i)*4:=by
  rw[<-a];simp[Builtin.zeroCells,Value.cells]
 have q:∀v∈L,v.oneCell'=true:=by
  intro v hv;rw[<-a] at hv;simp[Builtin.zeroCells,Value.cells] at hv;obtain⟨k,_,rfl⟩:=hv;have:k%4=0∨k%4=1∨k%4=2∨k%4=3:=oA;rcases this with e|e|e|e<;>simp[e,Value.oneCell']
 have l:∀j,j<L.length->(w.cell? ⟨g,off+i*4+0+j,none⟩).isSome=true:=fun j b=>by
  have x:=h (i+j/4) oA;obtain⟨r,u,y⟩:∃r,j=j/4*4+r∧r<4:=⟨j%4,oA,oA⟩
  rw[show off+i*4+0+j=off+(i+j/4)*4+r by omega];rcases r with _|_|_|_|r
  ·rw[bu,x.1];rfl
  ·rw[x.2.1];rfl
  ·rw[x.2.2.1];rfl
  ·rw[x.2.2.2];rfl
  ·omega
 have d:=run_storeCells_cells (P:=Tryz.prog) g (off+i*4) L 0 w l (fun j _=>f _) q;simp only[bu] at d;refine⟨w.setCells g (off+i*4) L,?_,fun j b=>?_,fun o=>(World.frozen?_setCells _ _ _ _ _).trans (f o),px L _ w rfl⟩
 ·rw[hk] at a ⊢;simp[Builtin.clear_,run_underlying Tryz.underlying38,a,d]
 ·rw[bH] at b;have x:=h j oA;rw[List.getElem_take];exact⟨(cH g _ _ w _ (fun _ _=>.inl (by simp;omega))).trans x.1,(cH g _ _ w _ (fun _ _=>.inl (by simp;omega))).trans x.2.1,(cH g _ _ w _ (fun _ _=>.inl (by simp;omega))).trans x.2.2.1,(cH g _ _ w _ (fun _ _=>.inl (by simp;omega))).trans x.2.2.2⟩
theorem jR.inner {w w1:World} {tag:Nat->Nat} {n g:Nat} {ls:List (List Ent)} (h:jR w tag n (.slice (some ⟨g,0,none⟩) n n) ls) {j:Nat} (t:j<n) (v:ls.length=n) {u:Value} (s:w.cell? ⟨g,j,none⟩=some u)
  (hk:Kp (fun b=>tag b=14+3*j) w w1) {m:List Ent} (hi:InE w1 tag (14+3*j) u m):
  jR w1 tag n (.slice (some ⟨g,0,none⟩) n n) (ls.set j m)∧Kp (fun k=>tag k=10∨∃j,tag k=14+3*j) w w1:=by
 obtain⟨g',us,l,c,o,d,p⟩:=h;obtain rfl:g=g':=by simpa using l
 have r:j<us.length:=oA;have e:us[j]=u:=by
  have f:=d.cellAt j oA;rw[s,ac r] at f;exact (aK f).symm
 refine⟨⟨g,us,rfl,c,o,iy d hk (fun k e2 a=>?_),fun i q=>?_⟩,hk.wider (fun k _ e2=>.inr ⟨j,e2⟩)⟩
 ·have:g=k:=by simpa [Value.ownBlock] using e2
  rw[<-this,c] at a;omega
 ·by_cases e2:i=j
  ·subst e2;rw[e,aa,cQ oA,aT];exact hi
  ·rw[aa,cR (fun e=>e2 e.symm), <-aa];exact (p i q).kp hk (fun _ _=>rfl) (fun k a e4=>oA)
theorem qO (P:Ent->Bool) (v:Value) (l:List Ent) (c:Nat) (w:World) (hv:jb w v l) (B:∀(e:Ent) (W:World),Below w.heap.size w W->Calls Tryz.prog 209 #[.agg #[.int .i64 e.1,.int .i64 e.2.1,.int .i64 e.2.2.1,.bool e.2.2.2],.pointer (some ⟨c,0,none⟩)] W fun r J=>r=.returned (.bool (P e))∧Below W.heap.size W J):
  Calls Tryz.prog 198 #[v,.func (.func 209) #[] #[.pointer (some ⟨c,0,none⟩)]] w fun r w'=>r=.returned (.int .i64 (ixP P l))∧Below w.heap.size w w':=by
 obtain⟨q,g,off,cap,rfl,D,A,hl⟩:=hv;have N:(l.length:Int)<=100:=oA;have F:=hid A;have G:=hid B;have H:=hid D;clear A D B;go_enter Tryz.func198,Tryz.ntmps198
 go_wp2_with fail
 go_loopw [8] (fun i wr=>∃(k:Nat),k<=l.length∧i=.int .i64 k∧Hid (Below w.heap.size w wr∧∀j (b:j<l.length),j<k->P l[j]=false)) (fun i _=>l.length - (intOf i).toNat)
 case atStart=>exact⟨0,oA,rfl,hid ⟨af _ _,fun j _ h=>oA⟩⟩
 case round=>
  obtain⟨k,hk,rfl,m⟩:=hrel;have f:=hid m.1;have n:=hid m.2;clear m;by_cases t:k<l.length
  ·have O:(k:Int)<(l.length:Int):=oA;have L:=H.out oA;subst L;obtain⟨e,s⟩:∃e,l[k]=e:=⟨_,rfl⟩
   have y:=hid s;have I:=hid (show wr.rangeAt g (off+k*4) [.int .i64 e.1,.int .i64 e.2.1,.int .i64 e.2.2.1,.bool e.2.2.2] from fun o x d=>by
    have a:=F.below f k t;rw[s] at a;rcases o with _|_|_|_|o
    ·rw[bu];exact a.1.trans d
    ·exact a.2.1.trans d
    ·exact a.2.2.1.trans d
    ·exact a.2.2.2.trans d
    ·simp at d)
   clear s;go_wp2_with (first|((with_reducible refine gld 40 ?_);refine wpList_load_mid rfl 40 _ rfl g (off+k*4) rfl [.int .i64 e.1,.int .i64 e.2.1,.int .i64 e.2.2.1,.bool e.2.2.2] _ I Tryz.underlying40 rfl (by rw[EY];rfl) ?_))
   refine (G.out e _ f).mono ?_;rintro r w1 ⟨rfl,C⟩;have u:=hid (btr f C);clear C
   cases hyt:P e with
   |true=>
    have p:=hid (show ixP P l=k by
     have a:l.findIdx P=k:=by
      rw[List.findIdx_eq t];exact⟨by rw[y.out];exact hyt,fun j b=>n.out j oA b⟩
     unfold ixP;rw[a,ag t])
    go_wp2_with fail
    go_ret
    exact⟨by rw[p.out];rfl,u.out⟩
   |false=>
    have E:=hid (show Below w.heap.size w w1∧∀j (b:j<l.length),j<k+1->P l[j]=false from⟨u.out,fun j b h=>by
     by_cases e2:j=k
     ·subst e2;rw[y.out];exact hyt
     ·exact n j b oA⟩)
    go_wp2_with fail
    exact⟨⟨k+1,oA,by go_num,E⟩,by simp[intOf];omega⟩
  ·obtain rfl:k=l.length:=oA;have M:¬((l.length:Int)<(l.length:Int)):=oA;have p:=hid (show ixP P l= -1 by
    unfold ixP;rw[ae];intro h;have z:=List.findIdx_getElem (w:=h);have K:=n.out _ h h;rw[K] at z
    cases z)
   go_wp2_with fail
   go_ret
   exact⟨by rw[p.out];rfl,f.out⟩
theorem CJ {l m:List Ent} {i j:Nat} (c:∀x∈m,x∈l) (b:j<l.length):∀x∈m.set i l[j],x∈l:=fun x d=>by
 rcases aZ d with a|rfl
 ·exact c x a
 ·exact av b
theorem o3 (P:Ent->Bool) (v:Value) (l:List Ent) (c:Nat) (w:World) (tag:Nat->Nat) (t:Nat) (hi:InE w tag t v l) (hl:l.length<=100) (hP:∀(e:Ent) (W:World) (m:List Ent),Kp (fun k=>tag k=t) w W->InE W tag t v m->(∀x∈m,x∈l)->m.length=l.length->Calls Tryz.prog 209 #[.agg #[.int .i64 e.1,.int .i64 e.2.1,.int .i64 e.2.2.1,.bool e.2.2.2],.pointer (some ⟨c,0,none⟩)] W fun r W'=>r=.returned (.bool (P e))∧Below W.heap.size W W'):
  Calls Tryz.prog 208 #[v,.func (.func 209) #[] #[.pointer (some ⟨c,0,none⟩)]] w fun r w'=>∃q cap,r=.returned (.slice q (dz P l).length cap)∧InE w' tag t (.slice q (dz P l).length cap) (dz P l)∧Kp (fun k=>tag k=t) w w':=by
 have az:(l.length:Int)<=100:=oA;have HX:=hid (qO P v l c w (hi.JR hl).1 (fun e W hb=>hP e W l (.IM hb) (hi.kp (T:=fun _=>False) (.IM hb) (fun _ _=>rfl) (fun _ _=>id)) (fun _ h=>h) rfl));have HP:=hid hP;have A:=hid hi;obtain⟨q0,_,_,I,rfl,_,_,_⟩:=(hi.JR hl).1;clear hi hP;go_enter Tryz.func208,Tryz.ntmps208
 go_wp2_with fail
 refine HX.mono ?_;rintro r w1 ⟨rfl,ab⟩;have X:=hid (A.kp (T:=fun _=>False) (.IM ab) (fun _ _=>rfl) (fun _ _=>id));have B1:=hid (show Kp (fun k=>tag k=t) w w1 from .IM ab);clear ab HX A;by_cases K:l.findIdx P<l.length
 ·have M:=hid (show ixP P l=(l.findIdx P:Int) by unfold ixP;rw[ag K]);have d:=hid (oM.start K);rw[M.out];clear M;generalize l.findIdx P=k at*;have ax:¬((k:Int)= -1):=oA;have ay:((k:Int)== -1)=false:=oS;obtain⟨g,off,cap,ev,hE,aj,ai,ac,hz⟩:=X.row (by have:=d.lt;have:=d.le;omega)
  cases ev
  have HE:=hid hE;have O:=hid hz;have n:=hid aj;have G:=hid ai;have R:=hid ac;clear hE hz aj ai ac X;go_wp2_with fail
  go_loopw [5,6] (fun a b wr=>∃(i j:Nat) (m:List Ent),a=.int .i64 i∧b=.int .i64 j∧Hid (oM P l m i j∧∀x∈m,x∈l)∧Hid (gx wr g off m)∧Hid (∀o,wr.frozen? ⟨g,o,none⟩=false)∧Hid (g<wr.heap.size)∧Hid (Kp (fun k=>tag k=t) w wr)) (fun _ b _=>l.length - (intOf b).toNat)
  case atStart=>exact⟨k,k+1,l,rfl,by go_num,hid ⟨d.out,fun _ h=>h⟩,HE,O,G,B1⟩
  case round=>
   obtain⟨i,j,m,rfl,rfl,S,A,O,G,HB⟩:=hrel;have d:=hid S.1;have V:=hid S.2;clear S;have al:=d.lt;have aw:=d.le;have f:=hid d.len;have ap:¬((i:Int)<0):=oA;have av:¬((j:Int)<0):=oA;have aq:(i:Int)<(l.length:Int):=oA;by_cases E:j<l.length
   ·have au:(j:Int)<(l.length:Int):=oA;have s:=hid (A.out j (by rw[f.out];exact E));have HS:=hid (show P l[j]=true->oM P l m i (j+1) from d.skip E);have HK:=hid (show P l[j]=false->(oM P l (m.set i l[j]) (i+1) (j+1)∧∀x∈m.set i l[j],x∈l) from fun h=>⟨d.Js E h,CJ V E⟩);have HA:=hid (d.at E (by rw[f.out];exact E));rw[HA.out] at s;clear HA;generalize l[j]=e at s HS HK;obtain⟨x,y,z,u⟩:=e;have c0:=s.1;have c1:=s.2.1;have c2:=s.2.2.1;have c3:=s.2.2.2;simp only at c0 c1 c2 c3;obtain⟨W,J⟩:∃W,W=wr.alloc (.cells #[.int .i64 x,.int .i64 y,.int .i64 z,.bool u] 40):=⟨_,rfl⟩
    have F:=hid (show Below wr.heap.size wr W by rw[J];exact bal (af _ wr) _);have Q:=hid (kpB HB F);have XW:=hid (show ∀o,W.cell? ⟨wr.heap.size,o,none⟩=(#[.int .i64 x,.int .i64 y,.int .i64 z,.bool u]:Array Value)[o]? by rw[J];exact cq wr _ _);have Y:=hid (A.below F);have Z:=hid (fun o=>((Kp.IM (T:=fun _=>False) F).frozen (p:=⟨g,o,none⟩) G id).trans (O.out o));have L:=hid (aE G F.size);have sW:W.heap.size=wr.heap.size+1:=by rw[J];simp
    go_wp2_with fail
    rw[<-J];clear J c0 c1 c2 c3 s;refine (HP.out (x,y,z,u) W m Q (.inr ⟨g,off,I,by rw[f.out],Y.out,n.out,L.out,by rw[f.out];omega,by rw[f.out];exact R,Z.out⟩) V f).mono ?_;rintro r w2 ⟨rfl,D⟩;have B2:=hid (kpB Q D);have B:=hid (Y.below D);have C:=hid (fun o=>((Kp.IM (T:=fun _=>False) D).frozen (p:=⟨g,o,none⟩) L id).trans (Z.out o));have G2:=hid (aE L D.size);have X2:=cT XW oA D;clear D Q XW Y Z L F
    cases hpe:P (x,y,z,u) with
    |true=>
     have U:=hid (show oM P l m i (j+1)∧∀x∈m,x∈l from⟨HS.out hpe,V.out⟩);go_wp2_with fail
     exact⟨⟨i,j+1,m,rfl,by go_num,U,B,C,G2,B2⟩,by simp[intOf];omega⟩
    |false=>
     have U:=hid (HK.out hpe);have z0:=C.out (off+i*4);have z1:=C.out (off+i*4+1);have z2:=C.out (off+i*4+2);have z3:=C.out (off+i*4+3);have H:=hid (show i<m.length by rw[f.out];omega);have d0:=(B.out i H).1;have d1:=(B.out i H).2.1;have d2:=(B.out i H).2.2.1;have d3:=(B.out i H).2.2.2;go_wp2_with fail
     exact⟨⟨i+1,j+1,m.set i (x,y,z,u),by go_num,by go_num,U,hid (zm B H x y z u),hid (fun o=>by simp only[World.frozen?_setCell];exact C o),hid (by simp[World.setCell];exact G2),hid ((((B2.setCell (.inl n) _).setCell (.inl n) _).setCell (.inl n) _).setCell (.inl n) _)⟩,by simp[intOf];omega⟩
   ·obtain rfl:j=l.length:=oA;have ao:¬((l.length:Int)<(l.length:Int)):=oA;have HD:=hid d.done;have ac:=R.out;have am:(l.length:Int)<=(I:Int):=oA;have an:(i:Int)<=(I:Int):=oA;have ar:(i:Int)<=(l.length:Int):=oA;obtain⟨w3,aA,ad,ah,aa⟩:=uU A O f i al 0 (I - i);have O3:=hid ad;have Z3:=hid ah;have S3:=hid (aE G aa.size);have B3:=hid (HB.trans (aa.wider (fun k _ e=>by rw[e];exact n)));have N:=hid (show (dz P l).length=i by rw[HD.out,bH,f.out];omega);clear ad aa ah;go_wp2_with fail
    go_ret
    rw[N.out];exact⟨_,_,rfl,.inr ⟨g,off,I,by rw[N.out],by rw[HD.out];exact O3,n.out,S3.out,by rw[N.out];omega,by rw[N.out];have:=R.out;omega,Z3.out⟩,B3.out⟩
 ·have M:=hid (show ixP P l= -1 by unfold ixP;rw[ae K]);have HG:=hid (qI K);rw[M.out];clear K;go_wp2_with fail
  go_ret
  rw[HG.out];exact⟨_,_,rfl,X.out,B1.out⟩
theorem FN {W:World} {wb:Nat} {tag:Nat->Nat} {V:Nat->Value} {p:PW} (h:cb W wb tag V p):cb W wb (gR tag W.heap.size 0) V p∧Kt tag (gR tag W.heap.size 0) W W:=
 ⟨h.kp (T:=fun _=>False) (aV _ _) (fun _ _ e=>e.elim) (fun _ hk=>dO hk),Kt.of (T:=fun _=>False) (aV _ _) (fun _ e=>e.elim) (fun _ hk=>dO hk)⟩
theorem iL {p q:PW} (a:q.IL=p.IL) (b:q.kinds=p.kinds) (e:Ent):d7 q e=d7 p e:=by
 unfold d7 isB fH;rw[a,b]
theorem CR (c wb:Nat) (tag:Nat->Nat) (V:Nat->Value) (p q:PW) (e:Ent) (W:World) (g:W.cell? ⟨c,0,none⟩=some (.pointer (some ⟨wb,0,none⟩))) (bt:cb W wb tag V q) (k:q.Fits) (hl:∀l∈q.IK,l.length<=100) (m:∀z∈p.IL,0<=z∧z<65536) (i:p.IL.length<=600) (e1:q.IL=p.IL) (e2:q.kinds=p.kinds):
  Calls Tryz.prog 209 #[.agg #[.int .i64 e.1,.int .i64 e.2.1,.int .i64 e.2.2.1,.bool e.2.2.2],.pointer (some ⟨c,0,none⟩)] W fun r w'=>r=.returned (.bool (!d7 p e))∧Below W.heap.size W w':=by
 obtain⟨x,y,z,u⟩:=e;have d:=hid (bal (af W.heap.size W) (.cells #[.int .i64 x,.int .i64 y,.int .i64 z,.bool u] 40));have a:=cq W #[.int .i64 x,.int .i64 y,.int .i64 z,.bool u] 40;have w:=a 0;have d1:=a 1;have d2:=a 2;have A:=a 3;have B:=(d.cell (aj _ _ g)).trans g;have f:=bt.below d;have h:=hid (uK wb V q x y z u _ (f.view k hl) ⟨by
  obtain⟨q0,b,off,cap,s,t,v⟩:=dN f.o.IL.1;exact⟨q0,b,off,cap,s,t,v⟩,by rw[e1];exact m,by rw[e1];exact i⟩)
 rw[iL e1 e2] at h;clear bt f k hl m i e1 e2 g a;simp only;go_enter Tryz.func209,Tryz.ntmps209
 go_wp2_with fail
 refine h.mono ?_;rintro r w1 ⟨rfl,j⟩;have n:=hid (btr d j);clear j;go_wp2_with fail
 go_ret
 exact⟨rfl,n.out⟩
def fgt (p:PW):PW:={p with IK:=p.IK.map (dz fun e=> !d7 p e)}
theorem ve (wb:Nat) (tag:Nat->Nat) (V:Nat->Value) (p:PW) (W:World) (ag:cb W wb tag V p) (U:p.Fits) (hl:∀l∈p.IK,l.length<=100) (hw:∀z∈p.IL,0<=z∧z<65536) (ah:p.IL.length<=600):
  Calls Tryz.prog 157 #[.pointer (some ⟨wb,0,none⟩)] W fun r W'=>r=.returned (.tuple #[])∧∃tag',cb W' wb tag' V (fgt p)∧Kt tag tag' W W':=by
 obtain⟨bt,kr⟩:=FN ag;have KR:=hid kr;have T0:=hid (fun x (h:W.heap.size<=x)=>show gR tag W.heap.size 0 x=0 from ae oA);generalize gR tag W.heap.size 0=tg at*;clear ag kr;have aw:(p.IK.length:Int)<=1000:=by have:=U.IK;omega
 obtain⟨a,e8⟩:=bt.o.IK.form;have t:=hid e8;have H:=hid (bal (af W.heap.size W) (.cells #[.pointer (some ⟨wb,0,none⟩)] 68));have B0:=hid (bt.below H);have K0:=hid (KR.trans (bp H));have C0:=hid (show (W.alloc (.cells #[.pointer (some ⟨wb,0,none⟩)] 68)).cell? ⟨W.heap.size,0,none⟩=some (.pointer (some ⟨wb,0,none⟩)) from cq W #[.pointer (some ⟨wb,0,none⟩)] 68 0);have M:=hid (T0.out W.heap.size (aq _));have N:(W.alloc (.cells #[.pointer (some ⟨wb,0,none⟩)] 68)).cell? ⟨wb,8,none⟩=some (.slice (some ⟨a,0,none⟩) p.IK.length p.IK.length):=by rw[ai B0.r (k:=8) rfl,e8]
 have d:=hid U;have I:=hid hl;have HW:=hid hw;have H6:=hid ah;clear bt U hl hw ah e8 T0 KR H;go_enter Tryz.func157,Tryz.ntmps157
 go_upto_region 1 with fail
 have z0:=C0.out;go_wp2_with fail
 generalize World.alloc _ _=W0 at*;generalize W.heap.size=c at*;clear N z0
 go_loopw [9] (fun i wr=>∃(k:Nat),k<=p.IK.length∧i=.int .i64 k∧Hid (cb wr wb tg V {p with IK:=eY (dz fun e=> !d7 p e) k p.IK})∧Hid (Kt tag tg W wr)∧Hid (wr.cell? ⟨c,0,none⟩=some (.pointer (some ⟨wb,0,none⟩)))) (fun i _=>p.IK.length - (intOf i).toNat)
 case atStart=>exact⟨0,oA,rfl,hid (by rw[fi];exact B0),K0,C0⟩
 case round=>
  obtain⟨k,hk,rfl,f,HK,v⟩:=hrel;by_cases n:k<p.IK.length
  ·have ax:(k:Int)<(p.IK.length:Int):=oA;have s:(eY (dz fun e=> !d7 p e) k p.IK).length=p.IK.length:=cM _ _ _;have LT:=hid (show jR wr tg p.IK.length (.slice (some ⟨a,0,none⟩) p.IK.length p.IK.length) (eY (dz fun e=> !d7 p e) k p.IK) from by
    have h:=f.o.IK;rw[t.out] at h;show jR wr tg p.IK.length _ _
    rw[<-s];rw[<-s] at h;exact h)
   obtain⟨u,cu,hi⟩:=LT.at n;have ab:=hid (show (eY (dz fun e=> !d7 p e) k p.IK).getD k []=p.IK[k] by
    have al:k<(eY (dz fun e=> !d7 p e) k p.IK).length:=by rw[cM];exact n
    rw[aa,ac al,aT,d9 _ _ _ n al])
   rw[ab.out] at hi;obtain⟨l,R⟩:∃l,p.IK[k]=l:=⟨_,rfl⟩
   rw[R] at hi;have O:l.length<=100:=by rw[<-R];exact I _ (av n)
   have ao:=hid (fun x (E:x∈eY (dz fun e=> !d7 p e) k p.IK)=>show x.length<=100 from by
    unfold eY at E;rcases dH.1 E with h|h
    ·obtain⟨y,hy,rfl⟩:=List.mem_map.1 h;exact aB (cW _ _) (I.out y (List.mem_of_mem_take hy))
    ·exact I x (List.mem_of_mem_drop h))
   have CU:=hid cu;have ap:=hid hi;have ad:=hid (fun X (hX:Below wr.heap.size wr X)=>o3 (fun e=> !d7 p e) u l c X tg (14+3*k) (hi.kp (T:=fun _=>False) (.IM hX) (fun _ _=>rfl) (fun _ _=>id)) O (fun e Y m kp ow _ hm=>by
    have an:Kp (fun b=>tg b=14+3*k) wr Y:=(Kp.IM (T:=fun b=>tg b=14+3*k) hX).trans kp;obtain⟨l2,k2⟩:=LT.inner n s cu an ow;have bY:cb Y wb tg V {p with IK:=(eY (dz fun e=> !d7 p e) k p.IK).set k m}:=f.IK k2 (fun _ _=>rfl) (by rw[au,s,t.out];exact l2);refine CR c wb tg V p _ e Y ?_ bY ⟨d.IL,d.kinds,d.IH,d.II,d.lines,d.line,d.bits,d.IJ,d.ready,d.next,by show (List.set _ _ _).length<=1000;rw[au,s];exact d.IK,d.IQ⟩ (fun x E=>?_) HW H6 rfl rfl
    ·exact (an.cell (p:=⟨c,0,none⟩) (aj _ _ v) (by show ¬tg c=14+3*k;rw[M.out];omega)).trans v
    ·rcases aZ E with h|rfl
     ·exact ao x h
     ·rw[hm];exact O))
   have gk:=LT.fr k;have C:=hid LT.Jk;clear hi O ab;have N:wr.cell? ⟨wb,8,none⟩=some (.slice (some ⟨a,0,none⟩) p.IK.length p.IK.length):=by rw[ai f.r (k:=8) rfl,t.out]
   go_upto_region 4 with fail
   clear N;have B:Hid (Below wr.heap.size wr wr.drew):=hid (aD wr 1);have J:=hid (fun X (h:Below wr.heap.size wr X)=>show X.cell? ⟨c,0,none⟩=some (.pointer (some ⟨wb,0,none⟩))∧X.cell? ⟨wb,8,none⟩=some (.slice (some ⟨a,0,none⟩) p.IK.length p.IK.length) from⟨(h.cell (aj _ _ v)).trans v,by rw[ai (f.below h).r (k:=8) rfl,t.out]⟩);refine wp_region_held_drew (S:=fun X=>X.cell? ⟨c,0,none⟩=some (.pointer (some ⟨wb,0,none⟩))∧X.cell? ⟨wb,8,none⟩=some (.slice (some ⟨a,0,none⟩) p.IK.length p.IK.length)) oK (J.out _ B) (fun D=>?_);have j:=hid D;clear D;refine Mem.tg 0 (.pointer (some ⟨wb,0,none⟩)) rfl (Or.inl ⟨oR,fun W h=>by have h3:=h.1;clear h;go_simp⟩) j ?_;simp only[jj];refine tk 1 (.pointer (some ⟨wb,0,none⟩)) rfl j ?_;simp only[jj];refine tk 2 (.pointer (some ⟨wb,8,none⟩)) rfl j ?_;simp only[jj];refine Mem.tg 3 (.slice (some ⟨a,0,none⟩) p.IK.length p.IK.length) rfl (Or.inl ⟨oR,fun W h=>by have h3:=h.2;clear h;go_simp⟩) j ?_;simp only[jj];refine tk 4 (.int .i64 k) rfl j ?_;simp only[jj];refine tk 5 u rfl j ?_;simp only[jj];refine tk 6 (.func (.func 209) #[] #[.pointer (some ⟨c,0,none⟩)]) rfl j ?_;simp only[jj];refine wpAnyH_ready (rs:=[7]) oK oS (AllReadyH.cons rfl (fun K A=>?_) AllReadyH.nil);go_simp
   refine (ad.out _ B).mono ?_;rintro q w1 ⟨G,F,rfl,hO,am⟩;have w:=hid (show Kp (fun b=>tg b=14+3*k) wr w1 from (Kp.IM (T:=fun b=>tg b=14+3*k) B).trans am);have IN:=hid hO;have Z:¬tg a=14+3*k:=by rw[C.1];omega
   have c1:w1.cell? ⟨a,k,none⟩=some u:=(w.cell (p:=⟨a,k,none⟩) C.2 Z).trans CU;have f1:w1.frozen? ⟨a,k,none⟩=false:=(w.frozen (p:=⟨a,k,none⟩) C.2 Z).trans gk;have P:w1.cell? ⟨c,0,none⟩=some (.pointer (some ⟨wb,0,none⟩)):=(w.cell (p:=⟨c,0,none⟩) (aj _ _ v) (by show ¬tg c=14+3*k;rw[M.out];omega)).trans v;obtain⟨hn,Q⟩:=LT.put n s w (fun _ _=>rfl) IN;have BN:=hid (show cb (w1.setCell ⟨a,k,none⟩ (.slice G (dz (fun e=> !d7 p e) l).length F)) wb tg V {p with IK:=eY (dz fun e=> !d7 p e) (k+1) p.IK} from f.IK Q (fun _ _=>rfl) (by
    rw[eA _ _ _ n,au,s,t.out,R];exact hn))
   have KN:=hid (HK.trans (.of Q (fun b e=>by rcases e with e|⟨i,e⟩<;>omega) (fun _ _=>rfl)));have CN:=hid (show (w1.setCell ⟨a,k,none⟩ (.slice G (dz (fun e=> !d7 p e) l).length F)).cell? ⟨c,0,none⟩=some (.pointer (some ⟨wb,0,none⟩)) by
    rw[aO _ _ _ _ (by intro h;cases h;have:=C.1;rw[M.out] at this;omega)];exact P)
   have L:=hid (show w1.cell? ⟨c,0,none⟩=some (.pointer (some ⟨wb,0,none⟩))∧w1.cell? ⟨wb,8,none⟩=some (.slice (some ⟨a,0,none⟩) p.IK.length p.IK.length) from⟨P,(w.cell (p:=⟨wb,8,none⟩) f.lt (by show ¬tg wb=14+3*k;rw[f.g];omega)).trans (J.out _ (af _ _)).2⟩);have S2:=hid (show (w1.setCell ⟨a,k,none⟩ (.slice G (dz (fun e=> !d7 p e) l).length F)).cell? ⟨c,0,none⟩=some (.pointer (some ⟨wb,0,none⟩))∧(w1.setCell ⟨a,k,none⟩ (.slice G (dz (fun e=> !d7 p e) l).length F)).cell? ⟨wb,8,none⟩=some (.slice (some ⟨a,0,none⟩) p.IK.length p.IK.length) from⟨CN.out,by rw[ai BN.r (k:=8) rfl,t.out]⟩);clear hn Q hO am Z P;go_wp2_with fail
   refine A _ _ L (fun D=>?_);clear A K D
   try simp only[Act.put,jD,jE,jF]
   refine tk 8 (.pointer (some ⟨a,k,none⟩)) rfl L ?_;simp only[jj];refine wpAnyH_ready (rs:=[9]) oK oS (AllReadyH.cons rfl (fun K A=>?_) AllReadyH.nil);go_simp
   refine A _ _ S2 (fun _=>?_);clear A K c1 f1
   try simp only[Act.put]
   refine dw oK ?_ _;clear j L S2 J B ad w IN;generalize World.setCell _ _ _=W9 at*;go_wp2_with fail
   exact⟨⟨k+1,oA,by go_num,BN,KN,CN⟩,by simp[intOf];omega⟩
  ·obtain rfl:k=p.IK.length:=oA;have ar:¬((p.IK.length:Int)<(p.IK.length:Int)):=oA;have HN:=hid (show cb wr wb tg V (fgt p) by unfold fgt;rw[<-fF];exact f);clear f;go_wp2_with fail
   exact aH (aF rfl _ _ _) rfl ⟨rfl,tg,HN.out,HK.out⟩
end Wd
namespace Mmu
open Go.RowKit Mem Bw Nums
theorem gz (l:List Ent) (q:Ent):fo (l++[q])=fo l++[.int .i64 q.1,.int .i64 q.2.1,.int .i64 q.2.2.1,.bool q.2.2.2]:=by
 unfold fo;rw[List.flatMap_append];rfl
theorem hU (W:World) (a b c d:Value) (e:TypeId):∀(j:Nat) (x:Value),[a,b,c,d][j]? =some x->(W.alloc (.cells #[a,b,c,d] e)).cell? ((⟨W.heap.size,0,none⟩:Addr).add j)=some x:=by
 intro j x h;rw[show (⟨W.heap.size,0,none⟩:Addr).add j=⟨W.heap.size,j,none⟩ from by unfold Addr.add;split<;>simp_all,eF _ _ _ _ rfl];rw[<-h];simp
end Mmu
namespace Wd
open Go.RowKit Mem Bw Nums Mmu
def kpE (p:PW) (k f:Int) (e:Ent):Bool:=((en p.IL e.1 (16*e.2.1)).2.2==0&&(en p.IL e.1 (16*e.2.1)).1==e.2.2.1&&(en p.IL e.1 (16*e.2.1)).2.1==e.2.2.2)&& !(k==4&&e.1==f)
def fwP (p:PW) (k f:Int):PW:={p with IK:=p.IK.map (List.filter (kpE p k f))}
theorem wM {P:Ent->Bool} {l:List Ent} {k:Nat} (h:k<l.length):(l.take (k+1)).filter P=(l.take k).filter P++(if P l[k]=true then [l[k]] else []):=by
 rw[bG h,eT];by_cases a:P l[k]=true
 ·rw[ag a,List.filter_cons_of_pos a];rfl
 ·rw[ae a,List.filter_cons_of_neg a];rfl
theorem ff (wb:Nat) (tag:Nat->Nat) (V:Nat->Value) (p:PW) (k f:Int) (W:World) (bt:cb W wb tag V p) (hp:p.Fits) (hl:∀l∈p.IK,l.length<=100) (az:∀l∈p.IK,∀e∈l,0<=e.2.1∧e.2.1<=255) (hw:∀z∈p.IL,0<=z∧z<65536) (aw:p.IL.length<=600):
  Calls Tryz.prog 175 #[.pointer (some ⟨wb,0,none⟩),.int .i64 k,.int .i64 f] W fun r W'=>r=.returned (.tuple #[])∧∃tag',cb W' wb tag' V (fwP p k f)∧Kt tag tag' W W':=by
 obtain⟨i0,hi,aA,aC,aD⟩:=fj mN;have aX:(p.IK.length:Int)<=1000:=by have:=hp.IK;omega
 obtain⟨A,e8⟩:=bt.o.IK.form;obtain⟨q0,g0,o0,aU,e0,aO,aR⟩:=dN bt.o.IL.1;have E8:=hid e8;have ar:=hid (fun X tg q (h:cb X wb tg V q) (e:q.IL=p.IL)=>show jW X (V 0) p.IL from⟨by
  have h1:=dN h.o.IL.1;rw[e] at h1;exact h1,hw,aw⟩)
 have HL:=hid hl;have aJ:=hid az;have HB:=hid bt;have E0:=hid e0;clear bt hp hl az hw aw e8 e0 aO aR;go_enter Tryz.func175,Tryz.ntmps175
 go_wp2_with fail
 go_loopw [6] (fun i wr=>∃(c:Nat),c<=p.IK.length∧i=.int .i64 c∧Hid (∃tg,cb wr wb tg V {p with IK:=eY (List.filter (kpE p k f)) c p.IK}∧Kt tag tg W wr)) (fun i _=>p.IK.length - (intOf i).toNat)
 case atStart=>exact⟨0,oA,rfl,hid ⟨tag,by rw[fi];exact HB,ew _ _⟩⟩
 case round=>
  obtain⟨c,hc,rfl,HH⟩:=hrel;obtain⟨tg,bt,kt⟩:=HH.out;have C:=hid bt;have HK:=hid kt;clear bt kt HH;have c8:wr.cell? ⟨wb,8,none⟩=some (.slice (some ⟨A,0,none⟩) p.IK.length p.IK.length):=by rw[ai C.r (k:=8) rfl,E8.out]
  by_cases H:c<p.IK.length
  ·have aZ:(c:Int)<(p.IK.length:Int):=oA;have Y:(eY (List.filter (kpE p k f)) c p.IK).length=p.IK.length:=cM _ _ _;have LT:=hid (show jR wr tg p.IK.length (.slice (some ⟨A,0,none⟩) p.IK.length p.IK.length) (eY (List.filter (kpE p k f)) c p.IK) from by
    have h:=C.o.IK;rw[E8.out] at h;show jR wr tg p.IK.length _ _
    rw[<-Y];rw[<-Y] at h;exact h)
   obtain⟨ul,cu,al⟩:=LT.at H;have an:c<(eY (List.filter (kpE p k f)) c p.IK).length:=by rw[Y];exact H
   have aq:=hid (show (eY (List.filter (kpE p k f)) c p.IK).getD c []=p.IK[c] by
    rw[aa,ac an,aT,d9 _ _ _ H an])
   rw[aq.out] at al;obtain⟨l,U⟩:∃l,p.IK[c]=l:=⟨_,rfl⟩
   rw[U] at al;have aM:l.length<=100:=by rw[<-U];exact HL _ (av H)
   have aK:=hid (show ∀e∈l,0<=e.2.1∧e.2.1<=255 by rw[<-U];exact aJ _ (av H));have aW:(l.length:Int)<=100:=oA;obtain⟨q,gu,a6,aL,rfl,hq,ay,_⟩:=(al.JR aM).1;have aE:=hid ay;have HQ:=hid hq;have CU:=hid cu;have aI:=hid U;have gk:=hid (LT.fr c);have GB:=hid LT.Jk;have W0:=hid (show wr.cell? ⟨wb,8,none⟩=some (.slice (some ⟨A,0,none⟩) p.IK.length p.IK.length) from c8);have aS:=hid (fun X (h:Below wr.heap.size wr X) a b=>lP (V 0) p.IL a b X (ar.out X tg _ (C.below h) rfl));have R0:=hid (fun X (h:Below wr.heap.size wr X)=>show X.cell? ⟨wb,0,none⟩=some (V 0) from ai (C.below h).r (k:=0) rfl);clear al ay hq cu U aq an;go_upto_region 5 with fail
   clear c8;generalize wr=w0 at*
   go_loopw [7,8] (fun v i wr=>∃(j:Nat) (m:List Ent),j<=l.length∧i=.int .i64 j∧Hid (m=(l.take j).filter (kpE p k f))∧Hid (wr.ownsRow w0.heap.size 40 4 v m.length (fo m))∧Hid (Below w0.heap.size w0 wr)) (fun _ i _=>l.length - (intOf i).toNat)
   case atStart=>exact⟨0,[],oA,rfl,hid rfl,hid (ct _ _ _ _),hid (af _ _)⟩
   case round=>
    obtain⟨j,m,hj,rfl,HM,HO,G⟩:=hrel;have hm:m.length<=100:=by
     rw[HM.out];exact aB (cW _ _) (by rw[bH];omega)
    have c8:wr.cell? ⟨wb,8,none⟩=some (.slice (some ⟨A,0,none⟩) p.IK.length p.IK.length):=(G.cell (aj _ _ W0)).trans W0;have cu:wr.cell? ⟨A,c,none⟩=some (.slice q l.length aL):=(G.cell (aj _ _ CU)).trans CU;by_cases am:j<l.length
    ·have aV:(j:Int)<(l.length:Int):=oA;have aP:=HQ.out oA;subst aP;obtain⟨a0,a1,a2,a3⟩:=aE.below G j am;have ad:=hid (wM (P:=kpE p k f) am);have ab:=hid (aK.out l[j] (av am));generalize l[j]=e at a0 a1 a2 a3 ad ab;obtain⟨x,y,z,u⟩:=e;simp only at a0 a1 a2 a3;have b0:=a0;have b1:=a1;have b2:=a2;have b3:=a3;have D:=hid (show kpE p k f (x,y,z,u)=true->m++[(x,y,z,u)]=(l.take (j+1)).filter (kpE p k f) from fun h=>by rw[ad.out,ag h,HM.out]);have t:=hid (show kpE p k f (x,y,z,u)=false->m=(l.take (j+1)).filter (kpE p k f) from fun h=>by rw[ad.out,ae (by rw[h];decide),HM.out,dJ]);have a4:0<=y:=ab.1;have a5:y<=255:=ab.2;obtain⟨d,O⟩:∃d,d=wr.alloc (.cells #[.int .i64 x,.int .i64 y,.int .i64 z,.bool u] 40):=⟨_,rfl⟩
     have BE:=hid (show Below wr.heap.size wr d by rw[O];exact bal (af _ wr) _);have XW:=hid (show ∀o,d.cell? ⟨wr.heap.size,o,none⟩=(#[.int .i64 x,.int .i64 y,.int .i64 z,.bool u]:Array Value)[o]? by rw[O];exact cq wr _ _);have sW:d.heap.size=wr.heap.size+1:=by rw[O];simp
     clear a0 a1 a2 a3 ad ab;go_upto_region 8 with fail
     rw[<-O];clear O b0 b1 b2 b3 c8 cu;have L:=hid (G.trans (BE.mono G.size));have d0:=XW.out 0;have d1:=XW.out 1;have r0:=R0.out _ L;have KW:=hid (fun n=>lP (V 0) p.IL x (16*y) (d.drewN n) (ar.out _ tg _ ((C.below L).below (aG (af d.heap.size d) n)) rfl));have B:=hid (show kpE p k f (x,y,z,u)=(((en p.IL x (16*y)).2.2==0&&(en p.IL x (16*y)).1==z&&(en p.IL x (16*y)).2.1==u)&& !(k==4&&x==f)) from rfl);generalize en p.IL x (16*y)=R at KW B;obtain⟨ra,rb,rn⟩:=R;simp only at KW B
     go_quiet (first|(go_at_call 153;refine bF ((KW.out _).mono fun _ _ h=>(⟨h.1,h.2.symm⟩:_∧_))))
     have J:=hid (aG (af d.heap.size d) nq);have M:=cT XW (show wr.heap.size<d.heap.size by omega) J;have s:=hid (L.trans (J.mono L.size));have E:=hid (fI (fI HO BE) J);generalize World.drewN _ _=W2 at*;have k0:=M 0;have k1:=M 1;have k2:=M 2;have k3:=M 3;clear d0 d1 r0 KW M XW BE J L;by_cases F:rn=0
     rotate_left
     ·have I:(rn==0)=false:=by simpa using F
      have w:=hid (t.out (by rw[B.out,I];rfl));clear D t;go_wp2_with fail
      exact⟨⟨j+1,m,oA,by go_num,w,E,s⟩,by simp[intOf];omega⟩
     have I:(rn==0)=true:=by simpa using F
     by_cases Q:ra=z
     rotate_left
     ·have K:(ra==z)=false:=by simpa using Q
      have w:=hid (t.out (by rw[B.out,I,K];rfl));clear D t;go_wp2_with fail
      exact⟨⟨j+1,m,oA,by go_num,w,E,s⟩,by simp[intOf];omega⟩
     have K:(ra==z)=true:=by simpa using Q
     by_cases g:rb=u
     rotate_left
     ·have S:(rb==u)=false:=by simpa using g
      have w:=hid (t.out (by rw[B.out,I,K,S];rfl));clear D t;go_wp2_with fail
      exact⟨⟨j+1,m,oA,by go_num,w,E,s⟩,by simp[intOf];omega⟩
     have S:(rb==u)=true:=by simpa using g
     by_cases N:k=4
     ·have ah:(k==4)=true:=by simpa using N
      by_cases hx:x=f
      ·have ap:(x==f)=true:=by simpa using hx
       have w:=hid (t.out (by rw[B.out,I,K,S,ah,ap];rfl));clear D t F Q g N hx;go_wp2_with fail
       exact⟨⟨j+1,m,oA,by go_num,w,E,s⟩,by simp[intOf];omega⟩
      ·have ap:(x==f)=false:=by simpa using hx
       have HY:=hid (D.out (by rw[B.out,I,K,S,ah,ap];rfl));clear D t F Q g N hx;go_wp2_with (at_builtin;refine aY _ rfl _ _ 38 rfl w0.heap.size 40 i0 (.agg #[.int .i64 0,.int .i64 0,.int .i64 0,.bool false]) 4 32 Tryz.underlying38 hi aA aC aD rfl oD _ _ _ rfl (E.alloc _) ⟨_,0,none⟩ 1 1 [.int .i64 x,.int .i64 y,.int .i64 z,.bool u] rfl rfl (hU _ _ _ _ _ _) (fO _ _ _ _) (by unfold maxLen;omega) oA (by have:=s.size;simp;omega) ?_;intro v' w5 Z T _;have B5:=hid ((bal s _).grown T (by have:=s.size;simp;omega) (fun k hk=>(E.lt k hk).1));have O5:=hid Z;clear Z T)
       refine⟨⟨j+1,m++[(x,y,z,u)],oA,by go_num,HY,hid ?_,B5⟩,by simp[intOf];omega⟩;rw[gz,ax];exact O5
     ·have ah:(k==4)=false:=by simpa using N
      have HY:=hid (D.out (by rw[B.out,I,K,S,ah];rfl));clear D t F Q g N;go_wp2_with (at_builtin;refine aY _ rfl _ _ 38 rfl w0.heap.size 40 i0 (.agg #[.int .i64 0,.int .i64 0,.int .i64 0,.bool false]) 4 32 Tryz.underlying38 hi aA aC aD rfl oD _ _ _ rfl (E.alloc _) ⟨_,0,none⟩ 1 1 [.int .i64 x,.int .i64 y,.int .i64 z,.bool u] rfl rfl (hU _ _ _ _ _ _) (fO _ _ _ _) (by unfold maxLen;omega) oA (by have:=s.size;simp;omega) ?_;intro v' w5 Z T _;have B5:=hid ((bal s _).grown T (by have:=s.size;simp;omega) (fun k hk=>(E.lt k hk).1));have O5:=hid Z;clear Z T)
      refine⟨⟨j+1,m++[(x,y,z,u)],oA,by go_num,HY,hid ?_,B5⟩,by simp[intOf];omega⟩;rw[gz,ax];exact O5
    ·obtain rfl:j=l.length:=oA;have aN:¬((l.length:Int)<(l.length:Int)):=oA;have HF:=hid (show m=l.filter (kpE p k f) by rw[HM.out,cO]);obtain⟨qv,kv,aQ⟩:=eJ HO;subst aQ;have IN:=hid (show InE wr (gR tg w0.heap.size (14+3*c)) (14+3*c) (.slice qv m.length kv) m from .inl ⟨HO.mono (bP _),fun b e=>by
      have h1:=(HO.lt b e).1;unfold gR;rw[ae oA]⟩)
     obtain⟨F,ao⟩:=LT.put H Y (.IM G) (fun b g=>dO g) IN;have fr:wr.frozen? ⟨A,c,none⟩=false:=(G.frozen (p:=⟨A,c,none⟩) GB.2).trans gk;have J:=hid (show cb (wr.setCell ⟨A,c,none⟩ (.slice qv m.length kv)) wb (gR tg w0.heap.size (14+3*c)) V {p with IK:=eY (List.filter (kpE p k f)) (c+1) p.IK} from C.IK ao (fun b g=>dO g) (by
      rw[eA _ _ _ H,au,Y,E8.out,aI.out, <-HF.out];exact F))
     have KN:=hid (show Kt tag (gR tg w0.heap.size (14+3*c)) W (wr.setCell ⟨A,c,none⟩ (.slice qv m.length kv)) from HK.trans (.of ao (fun b e=>by rcases e with e|⟨i,e⟩<;>omega) (fun b g=>dO g)));clear F ao IN;go_wp2_with fail
     exact⟨⟨c+1,oA,by go_num,hid ⟨_,J.out,KN.out⟩⟩,by simp[intOf];omega⟩
  ·obtain rfl:c=p.IK.length:=oA;have aN:¬((p.IK.length:Int)<(p.IK.length:Int)):=oA;have w:=hid (show cb wr wb tg V (fwP p k f) by unfold fwP;rw[<-fF];exact C);clear C;go_wp2_with fail
   exact aH (aF rfl _ _ _) rfl ⟨rfl,tg,w.out,HK.out⟩
structure TL (p:PW):Prop where
 len:∀l∈p.IK,l.length<=100
 Jt:∀l∈p.IK,∀e∈l,0<=e.2.1∧e.2.1<=255
 word:∀z∈p.IL,0<=z∧z<65536
theorem TL.of {p q:PW} (h:TL p) (e1:q.IK=p.IK) (e2:q.IL=p.IL):TL q:=⟨by rw[e1];exact h.len,by rw[e1];exact h.Jt,by rw[e2];exact h.word⟩
theorem TL.ut {p:PW} (h:TL p) (f:Int):TL (utP p f):=⟨h.len,h.Jt,fun z b=>by
 obtain⟨i,hi⟩:=List.mem_iff_getElem?.1 (show z∈p.IL.mapIdx (ut1 p.kinds f) from b);rw[List.getElem?_mapIdx] at hi
 cases e:p.IL[i]? with
 |none=>rw[e] at hi;cases hi
 |some y=>
  rw[e] at hi;have a:ut1 p.kinds f i y=z:=aK hi;unfold ut1 at a;split at a
  ·omega
  ·rw[<-a];exact h.word y (ef e)⟩
theorem TL.fw {p:PW} (h:TL p) (k f:Int):TL (fwP p k f):=⟨fun l hl=>by
 obtain⟨l0,a,rfl⟩:=List.mem_map.1 (show l∈p.IK.map _ from hl);exact aB (cW _ _) (h.len l0 a),fun l hl e b=>by
 obtain⟨l0,a,rfl⟩:=List.mem_map.1 (show l∈p.IK.map _ from hl);exact h.Jt l0 a e (List.mem_filter.1 b).1,h.word⟩
theorem nJ (p:PW) (t:Nat):(etP p t).IK=p.IK∧(etP p t).IL=p.IL:=by
 unfold etP;split<;>exact⟨rfl,rfl⟩
theorem qA (p:PW) (f:Nat):(dsP p f).IK=p.IK∧(dsP p f).IL=p.IL:=by
 have e:=fT (p.lines.getD f []) p;constructor
 ·show ((p.lines.getD f []).foldl ds1 p).IK=p.IK
  rw[e]
 ·show ((p.lines.getD f []).foldl ds1 p).IL=p.IL
  rw[e]
theorem EJ {p:PW} (h:Inv p) (k f:Int):Inv (fwP p k f):=⟨⟨h.fits.IL,h.fits.kinds,h.fits.IH,h.fits.II,h.fits.lines,h.fits.line,h.fits.bits,h.fits.IJ,h.fits.ready,h.fits.next,by show (p.IK.map _).length<=1000;rw[bL];exact h.fits.IK,h.fits.IQ⟩,h.Jf,h.IL,h.IH,h.II,h.lines,h.bits,h.key,h.line,h.Jj,h.JI,h.Jh⟩
def gnF (dr:PW->Nat->PW) (p:PW) (k:Int) (f:Nat):PW:=fwP (lsF dr p k f) k f
def drR:Nat->PW->Nat->PW
 |0,p,_=>p
 |m+1,p,s=>if (p.IH.getD s eS) 0=1∨gX (drA p s) ((p.IH.getD s eS) 0) ((p.IH.getD s eS) 1)=true then drA p s else gnF (drR m) (drA p s) ((p.IH.getD s eS) 0) ((p.IH.getD s eS) 1).toNat
theorem Cc {m:Nat} {dr:PW->Nat->PW} {f:Nat} (c:∀p s,nds p<m->Inv p->s<p.IH.length->(p.IH.getD s eS) 0≠0->Inv (dr p s)∧nds (dr p s)<=nds p∧(dr p s).kinds.length=p.kinds.length) (d:∀p s,nds p<m->Inv p->s<p.IH.length->(p.IH.getD s eS) 0≠0->TL p->TL (dr p s)):∀(a:Nat) (p:PW),nds p<m->Inv p->f*16+a<=p.IH.length->TL p->TL (daF dr f a p)
 |0,p,_,_,_,t=>by rw[gB];exact t
 |a+1,p,hn,h,hl,t=>by
  rw[gA];by_cases b:(p.IH.getD (f*16+a) eS) 0=0
  ·rw[ag b];exact Cc c d a p hn h oA t
  ·rw[ae b];obtain⟨e,i,g⟩:=c p (f*16+a) hn h oA b;have j:(dr p (f*16+a)).IH.length=p.IH.length:=by rw[e.IH,g,h.IH]
   exact Cc c d a (dr p (f*16+a)) oA e oA (d p (f*16+a) hn h oA b t)
theorem G1 {m:Nat} {dr:PW->Nat->PW} (b:∀p s,nds p<m->Inv p->s<p.IH.length->(p.IH.getD s eS) 0≠0->Inv (dr p s)∧nds (dr p s)<=nds p∧(dr p s).kinds.length=p.kinds.length) (d:∀p s,nds p<m->Inv p->s<p.IH.length->(p.IH.getD s eS) 0≠0->TL p->TL (dr p s)) {p:PW} (h:Inv p) (t:TL p) (i:nds p<m+1) {k:Int} {f:Nat} (hk:p.kinds[f]? =some k) (c:gX p k f=false):TL (lsF dr p k f):=by
 have tn:TL (nkP p f):=t.of rfl rfl;unfold lsF;by_cases a:k=2∨k=3
 ·rw[ag a];exact tn.ut f
 rw[ae a];by_cases e4:k=4
 ·rw[ag e4];exact tn.of rfl rfl
 rw[ae e4];by_cases e5:k=5
 ·rw[ag e5];have hi:=jk (gn h hk c oA) 11 oD (f:Int);have e:nds (nkP p f)+1=nds p:=(ji p.kinds f).2 (by rw[hk,e5]);have g:f<p.kinds.length:=(List.getElem?_eq_some_iff.1 hk).1;exact Cc (m:=m) (f:=f) b d 16 (fgP 11 (nkP p f) f) (by show nds (nkP p f)<m;omega) hi (by show f*16+16<=p.IH.length;have:=h.IH;omega) (tn.of rfl rfl)
 rw[ae e5];by_cases e6:k=6
 ·rw[ag e6];exact tn.of (nJ _ f).1 (nJ _ f).2
 rw[ae e6];exact tn.of (qA (nkP p f) f).1 (qA (nkP p f) f).2
theorem ju:∀(m:Nat),(∀p s,nds p<m->Inv p->s<p.IH.length->(p.IH.getD s eS) 0≠0->Inv (drR m p s)∧nds (drR m p s)<=nds p∧(drR m p s).kinds.length=p.kinds.length)∧(∀p s,nds p<m->Inv p->s<p.IH.length->(p.IH.getD s eS) 0≠0->TL p->TL (drR m p s))
 |0=>⟨fun p _ c=>absurd c (dG _),fun p _ c=>absurd c (dG _)⟩
 |m+1=>by
  obtain⟨i1,i2⟩:=ju m;refine⟨fun p s c h i f=>?_,fun p s c h i f t=>?_⟩
  ·unfold drR;by_cases a:(p.IH.getD s eS) 0=1∨gX (drA p s) ((p.IH.getD s eS) 0) ((p.IH.getD s eS) 1)=true
   ·rw[ag a];exact⟨iP h s,aq _,rfl⟩
   ·rw[ae a];obtain⟨b,d,hk, -, -⟩:=sL h i f (fun e=>a (.inl e));rw[d,ah];have g:gX (drA p s) ((p.IH.getD s eS) 0) b=false:=by
     cases e:gX (drA p s) ((p.IH.getD s eS) 0) b with
     |false=>rfl
     |true=>exact absurd (.inr (by rw[d];exact e)) a
    obtain⟨a1,j,k⟩:=AZ (m:=m) i1 (iP h s) c hk g;exact⟨EJ a1 _ _,j,k⟩
  ·unfold drR;by_cases a:(p.IH.getD s eS) 0=1∨gX (drA p s) ((p.IH.getD s eS) 0) ((p.IH.getD s eS) 1)=true
   ·rw[ag a];exact t.of rfl rfl
   ·rw[ae a];obtain⟨b,d,hk, -, -⟩:=sL h i f (fun e=>a (.inl e));rw[d,ah];have g:gX (drA p s) ((p.IH.getD s eS) 0) b=false:=by
     cases e:gX (drA p s) ((p.IH.getD s eS) 0) b with
     |false=>rfl
     |true=>exact absurd (.inr (by rw[d];exact e)) a
    exact (G1 (m:=m) i1 i2 (iP h s) (t.of rfl rfl) c hk g).fw _ _
theorem wK (p:PW) (c t j:Nat) (x f:Int) (h:j≠c):(fgP c p f).task t j x=fgP c (p.task t j x) f:=by
 have e1:fg1 c f (upd (p.II.getD t bl) j x)=upd (fg1 c f (p.II.getD t bl)) j x:=by
  unfold fg1;have e2:upd (p.II.getD t bl) j x c=p.II.getD t bl c:=ae (fun e=>h e.symm);rw[e2];by_cases e:p.II.getD t bl c=f
  ·rw[ag e,ag e,mi _ j c _ _ h]
  ·rw[ae e,ae e]
 show ({p with II:=(p.II.map (fg1 c f)).set t (upd ((p.II.map (fg1 c f)).getD t bl) j x)}:PW)={p with II:=(p.II.set t (upd (p.II.getD t bl) j x)).map (fg1 c f)}
 rw[List.map_set,e1];by_cases a:t<p.II.length
 ·rw[pG p t (fg1 c f) a]
 ·rw[List.set_eq_of_length_le (by rw[bL];omega),List.set_eq_of_length_le (by rw[bL];omega)]
theorem EG (f:Int):∀(l:List Int) (p:PW),l.foldl ds1 (fgP 13 p f)=fgP 13 (l.foldl ds1 p) f
 |[],_=>rfl
 |z::l,p=>by
  have e:ds1 (fgP 13 p f) z=fgP 13 (ds1 p z) f:=by
   unfold ds1;rw[wK p 13 _ 9 _ _ oD,wK _ 13 _ 14 _ _ oD]
  rw[eo,eo,e,EG f l (ds1 p z)]
theorem wI (p:PW) (f:Nat) (n:Int):dsP (fgP 13 p n) f=fgP 13 (dsP p f) n:=by
 unfold dsP;rw[show (fgP 13 p n).lines=p.lines from rfl,show (fgP 13 p n).bits=p.bits from rfl,EG n (p.lines.getD f []) p];rfl
theorem Ck (c:Nat) {p:PW} {n:Int} (h:∀g∈p.II,g c≠n):fgP c p n=p:=by
 unfold fgP;have e:p.II.map (fg1 c n)=p.II:=by
  conv=>rhs;rw[<-List.map_id p.II]
  exact eI fun g a=>ae (h g a)
 rw[e]
def vO (m:Nat):Prop:=∀(p:PW) (s:Nat) (W:World) (wb:Nat) (tag:Nat->Nat) (V:Nat->Value),nds p<m->Inv p->TL p->s<p.IH.length->cb W wb tag V p->Calls Tryz.prog 37 #[.pointer (some ⟨wb,0,none⟩),.int .i64 s] W fun r W'=>r=.returned (.int .i64 (if (p.IH.getD s eS) 0=0 then 6 else 0))∧∃tag',cb W' wb tag' V (if (p.IH.getD s eS) 0=0 then p else drR m p s)∧Kt tag tag' W W'
theorem EK {m:Nat} (p:PW) (f:Nat) (W:World) (wb:Nat) (tag:Nat->Nat) (V:Nat->Value) (hi:Inv p) (C:TL p) (hk:p.kinds[f]? =some 4) (s:gX p 4 f=false) (bt:cb W wb tag V p):
  Calls Tryz.prog 120 #[.pointer (some ⟨wb,0,none⟩),.int .i64 f] W fun r W'=>r=.returned (.tuple #[])∧∃tag',cb W' wb tag' V (gnF (drR m) p 4 f)∧Kt tag tag' W W':=by
 obtain⟨x,z⟩:=List.getElem?_eq_some_iff.1 hk;have Q:=hi.Jf;have ad:(p.kinds.length:Int)<=1000:=oA;have aa:(f:Int)<(p.kinds.length:Int):=oA;have af:(p.II.length:Int)<=1000:=by have:=hi.II;omega
 obtain⟨w,O,e1⟩:=bt.o.kinds.form (show 0<p.kinds.length by omega);obtain⟨q,cap3,v⟩:=bt.o.II.form (show 0<p.II.length by have:=hi.II;omega);have Z:=hid e1;have u:=hid v;have c1:W.cell? ⟨wb,1,none⟩=some (.slice (some ⟨w,0,none⟩) p.kinds.length O):=by rw[ai bt.r (k:=1) rfl,e1]
 have x1:=bt.IZ e1 x;rw[z] at x1;have Y:=bt.I9 e1 f;obtain⟨b1,k1⟩:=bt.IW e1 f 0;have F:=hid (show cb (W.setCell ⟨w,f,none⟩ (.int .i64 0)) wb tag V (nkP p f) from b1);have L:=hid k1;have hh:=lI hi hk s;have T:(nkP p f).kinds.length=p.kinds.length:=au ..;have tn:TL (nkP p f):=C.of rfl rfl;have R:(nkP p f).IL.length<=600:=by have:=hh.IL;omega
 have g:=jk (gn hi hk s oD) 12 oD (f:Int);have K:=hid (show gnF (drR m) p 4 f=fwP (fgP 12 (nkP p f) f) 4 f by unfold gnF lsF;rw[ae oD,ag rfl]);have I:=hid (fun X E (h:cb X wb E V (fgP 12 (nkP p f) f))=>ff wb E V (fgP 12 (nkP p f) f) 4 f X h (g).fits ((tn.of rfl rfl:TL (fgP 12 (nkP p f) f))).len ((tn.of rfl rfl:TL (fgP 12 (nkP p f) f))).Jt ((tn.of rfl rfl:TL (fgP 12 (nkP p f) f))).word (by have:=(g).IL;have:=(g).Jf;omega));clear hi C hk s bt x z Q e1 v b1 k1 hh T tn R g;go_enter Tryz.func120,Tryz.ntmps120
 go_upto_region 2 with fail
 generalize World.setCell _ _ _=W1 at*;clear c1 x1 Y;go_upto_region 9 with fail
 go_loopw [6] (fun i wr=>∃(j:Nat),j<=p.II.length∧i=.int .i64 j∧Hid (cb wr wb tag V {nkP p f with II:=eY (fg1 12 f) j p.II})∧Hid (Kt tag tag W wr)) (fun i _=>p.II.length - (intOf i).toNat)
 case atStart=>exact⟨0,oA,rfl,hid (by rw[fi];exact F),L⟩
 case round=>
  obtain⟨j,hj,rfl,a,l⟩:=hrel;have c3:wr.cell? ⟨wb,3,none⟩=some (.slice (some ⟨q,0,none⟩) p.II.length cap3):=by rw[ai a.r (k:=3) rfl,u.out]
  by_cases d:j<p.II.length
  ·have ac:(j:Int)<(p.II.length:Int):=oA;have b:j<(eY (fg1 12 f) j p.II).length:=by rw[cM];exact d
   have e:V 3=.slice (some ⟨q,0,none⟩) (eY (fg1 12 f) j p.II).length cap3:=by rw[cM];exact u
   have t:=a.I3 e b (show 12<20 by omega);have P:=a.IT e (j*20+12);simp only[d9 (fg1 12 f) j p.II d b] at t;by_cases c:p.II[j] 12=f
   ·obtain⟨B,A⟩:=a.IV e b (show 12<20 by omega) (-1);have n:=hid (show cb (wr.setCell ⟨q,j*20+12,none⟩ (.int .i64 (-1))) wb tag V {nkP p f with II:=eY (fg1 12 f) (j+1) p.II} by
     rw[eA (fg1 12 f) j p.II d,show fg1 12 f p.II[j]=upd p.II[j] 12 (-1) from ag c, <-d9 (fg1 12 f) j p.II d b];exact B)
    have J:=hid (l.trans A);rw[c] at t;clear B A e c b a;go_wp2_with fail
    exact⟨⟨j+1,oA,by go_num,n,J⟩,by simp[intOf];omega⟩
   ·have n:=hid (show cb wr wb tag V {nkP p f with II:=eY (fg1 12 f) (j+1) p.II} by
     rw[eA (fg1 12 f) j p.II d,show fg1 12 f p.II[j]=p.II[j] from ae c, <-d9 (fg1 12 f) j p.II d b,bV];exact a)
    have S:(p.II[j] 12==(f:Int))=false:=by simpa using c
    generalize p.II[j] 12=y at t S;clear e c b a P;go_wp2_with fail
    exact⟨⟨j+1,oA,by go_num,n,l⟩,by simp[intOf];omega⟩
  ·obtain rfl:j=p.II.length:=oA;have ab:¬((p.II.length:Int)<(p.II.length:Int)):=oA;have G:=hid (show cb wr wb tag V (fgP 12 (nkP p f) f) by unfold fgP;rw[show (nkP p f).II=p.II from rfl, <-fF];exact a);have M:=l;clear a;go_wp2_with fail
   refine (I.out _ _ G).mono ?_;rintro r w9 ⟨rfl,U,b9,D⟩;have H:=hid b9;have N:=hid (M.trans D);clear b9 D;go_wp2_with fail
   exact aH (aF rfl _ _ _) rfl ⟨rfl,U,by rw[K.out];exact H,N.out⟩
theorem wU {m:Nat} {k:Int} (H:k=2∨k=3) (p:PW) (f:Nat) (W:World) (wb:Nat) (tag:Nat->Nat) (V:Nat->Value) (hi:Inv p) (ht:TL p) (hk:p.kinds[f]? =some k) (D:gX p k f=false) (bt:cb W wb tag V p):
  Calls Tryz.prog 120 #[.pointer (some ⟨wb,0,none⟩),.int .i64 f] W fun r W'=>r=.returned (.tuple #[])∧∃tag',cb W' wb tag' V (gnF (drR m) p k f)∧Kt tag tag' W W':=by
 obtain⟨Y,Z⟩:=List.getElem?_eq_some_iff.1 hk;have ar:=hi.Jf;have aM:(p.kinds.length:Int)<=1000:=oA;have aG:(f:Int)<(p.kinds.length:Int):=oA;have aN:(p.II.length:Int)<=1000:=by have:=hi.II;omega
 obtain⟨x,cap1,e1⟩:=bt.o.kinds.form (show 0<p.kinds.length by omega);obtain⟨g3,aq,R⟩:=bt.o.II.form (show 0<p.II.length by have:=hi.II;omega);have M:=hid e1;have E3:=hid R;have c1:W.cell? ⟨wb,1,none⟩=some (.slice (some ⟨x,0,none⟩) p.kinds.length cap1):=by rw[ai bt.r (k:=1) rfl,e1]
 have x1:=bt.IZ e1 Y;rw[Z] at x1;have aC:=bt.I9 e1 f;obtain⟨b1,k1⟩:=bt.IW e1 f 0;have B1:=hid (show cb (W.setCell ⟨x,f,none⟩ (.int .i64 0)) wb tag V (nkP p f) from b1);have K1:=hid k1;have hh:=lI hi hk D;have ad:(nkP p f).kinds.length=p.kinds.length:=au ..;have tn:TL (nkP p f):=ht.of rfl rfl;have av:(nkP p f).IL.length<=600:=by have:=hh.IL;omega
 have A:=Bn (gn hi hk D oA) (f:Int);have al:=hid (gn hi hk D oA).JI;have HR:=hid (show gnF (drR m) p k f=fwP (utP (nkP p f) f) k f by unfold gnF lsF;rw[ag H]);have aj:=hid (fun X ah (h:cb X wb ah V (utP (nkP p f) f))=>ff wb ah V (utP (nkP p f) f) k f X h (A).fits ((tn.ut f:TL (utP (nkP p f) f))).len ((tn.ut f:TL (utP (nkP p f) f))).Jt ((tn.ut f:TL (utP (nkP p f) f))).word (by have:=(A).IL;have:=(A).Jf;omega));have aL:(p.IL.length:Int)<=1000:=by have:=hi.IL;omega
 have ap:=hid hi.IL;have ao:=hid (bt.o.IL.form (show 0<p.IL.length by have:=hi.IL;omega));have E:=hid ad;have aI:(f:Int)<=23:=oA;clear hi ht hk D bt Y Z ar e1 R b1 k1 hh ad tn av A;go_enter Tryz.func120,Tryz.ntmps120
 go_upto_region 2 with fail
 generalize World.setCell _ _ _=W1 at*;clear c1 x1 aC;go_cut [28] (fun r wx=>Hid (r=.bool true)∧Hid (W1=wx))
 case first=>rcases H with rfl|rfl<;>(go_wp2_with fail;go_meet;exact⟨hid rfl,hid rfl⟩)
 case rest=>
 obtain⟨T,U⟩:=hcut;obtain rfl:=T.out;obtain rfl:=U.out;have e4:(k==4)=false:=beq_eq_false_iff_ne.2 oA;have e5:(k==5)=false:=beq_eq_false_iff_ne.2 oA;have e6:(k==6)=false:=beq_eq_false_iff_ne.2 oA;have e7:(k==7)=false:=beq_eq_false_iff_ne.2 oA;have e8:(k==8)=false:=beq_eq_false_iff_ne.2 oA;clear T U H;obtain⟨G,cap0,Q⟩:=ao.out;have L:=hid Q;clear Q;go_upto_region 4 with fail
 go_loopw [5] (fun i wr=>∃(j:Nat),j<=p.IL.length∧i=.int .i64 j∧Hid (cb wr wb tag V {nkP p f with IL:=idK (ut1 (nkP p f).kinds f) j p.IL})∧Hid (Kt tag tag W wr)) (fun i _=>p.IL.length - (intOf i).toNat)
 case atStart=>exact⟨0,oA,rfl,hid (by rw[tY];exact B1),K1⟩
 case round=>
  obtain⟨j,hj,rfl,c,s⟩:=hrel;have c0:wr.cell? ⟨wb,0,none⟩=some (.slice (some ⟨G,0,none⟩) p.IL.length cap0):=by rw[ai c.r (k:=0) rfl,L.out]
  by_cases u:j<p.IL.length
  ·have ax:(j:Int)<(p.IL.length:Int):=oA;have v:j<(idK (ut1 (nkP p f).kinds f) j p.IL).length:=by rw[ld];exact u
   have n:V 0=.slice (some ⟨G,0,none⟩) (idK (ut1 (nkP p f).kinds f) j p.IL).length cap0:=by rw[ld];exact L
   have xr:=c.JU n v;have fr:=c.JV n j;simp only[xd u v] at xr;have B:j/16<(nkP p f).kinds.length:=by rw[E.out];have:=ap.out;omega
   have ay:((j:Int)/16)=((j/16:Nat):Int):=oA;have az:((j/16:Nat):Int)<(p.kinds.length:Int):=by have:=E.out;omega
   have S:V 1=.slice (some ⟨x,0,none⟩) (nkP p f).kinds.length cap1:=by rw[E.out];exact M
   have c1:wr.cell? ⟨wb,1,none⟩=some (.slice (some ⟨x,0,none⟩) p.kinds.length cap1):=by rw[ai c.r (k:=1) rfl,M.out]
   have xk:=c.IZ S B;obtain⟨kd,C⟩:∃kd,(nkP p f).kinds[j/16]=kd:=⟨_,rfl⟩
   obtain⟨y,w⟩:∃y,p.IL[j]=y:=⟨_,rfl⟩
   have N:=hid (show (nkP p f).kinds.getD (j/16) 0=kd by rw[aa,ac B];exact C);have am:=hid (show (nkP p f).kinds[j/16]? =some kd by rw[ac B,C]);have F:=hid w;rw[w] at xr;have aD:wr.cell? ⟨x,j/16,none⟩=some (.int .i64 kd):=by rw[<-C];exact xk
   generalize j/16=kq at ay az aD ⊢;clear xk C w S B;have g:=hid (fun (h:ut1 (nkP p f).kinds f j p.IL[j]=p.IL[j])=>show cb wr wb tag V {nkP p f with IL:=idK (ut1 (nkP p f).kinds f) (j+1) p.IL} by rw[lZ u h];exact c);have l:=hid (fun (b:(kd=3∨kd=4)->y=32768+(f:Int)∨y=49152+(f:Int)->False)=>show ut1 (nkP p f).kinds f j p.IL[j]=p.IL[j] by unfold ut1;rw[ae (by rw[N.out,F.out];exact fun h=>b h.1 h.2)]);by_cases d:kd=3∨kd=4
   ·have q:∀P:Prop,((kd==3)=true->P)->((kd==3)=false->(kd==4)=true->P)->P:=fun P a b=>d.elim (fun h=>a (by simp[h])) (fun h=>b (by simp[h]) (by simp[h]));rcases al.out j y kd (by show p.IL[j]? =some y;rw[ac u,F.out]) am d with w|⟨z,aE,af⟩
    ·have aA:(y !=0)=false:=by rw[w];rfl
     have e:=hid (g.out (l.out fun _ h=>oA));clear n v c w g l d;refine q _ (fun t=>?_) (fun t J=>?_)<;>(clear q;go_wp2_with fail;exact⟨⟨j+1,oA,by go_num,e,s⟩,by simp[intOf];omega⟩)
    ·have aA:(y !=0)=true:=bne_iff_ne.2 oA;have aO:y%1024=(z:Int):=oA;have aP:0<=y:=oA;have aQ:y<65536:=oA;by_cases I:z=f
     ·have aw:((z:Int)==(f:Int))=true:=by simp[I]
      obtain⟨hn,ab⟩:=c.IU n j 0;have e:=hid (show cb (wr.setCell ⟨G,j,none⟩ (.int .i64 0)) wb tag V {nkP p f with IL:=idK (ut1 (nkP p f).kinds f) (j+1) p.IL} by
       rw[jC u,show ut1 (nkP p f).kinds f j p.IL[j]=0 by unfold ut1;rw[ag (by rw[N.out,F.out];exact⟨d,oA⟩)]];exact hn)
      have an:=hid (s.trans ab);clear hn ab n v c I af g l d;refine q _ (fun t=>?_) (fun t J=>?_)<;>(clear q;go_wp2_with fail;exact⟨⟨j+1,oA,by go_num,e,an⟩,by simp[intOf];omega⟩)
     ·have aw:((z:Int)==(f:Int))=false:=by simp;omega
      have e:=hid (g.out (l.out fun _ h=>oA));clear n v c I af g l d;refine q _ (fun t=>?_) (fun t J=>?_)<;>(clear q;go_wp2_with fail;exact⟨⟨j+1,oA,by go_num,e,s⟩,by simp[intOf];omega⟩)
   ·have t:(kd==3)=false:=by simp;omega
    have J:(kd==4)=false:=by simp;omega
    have e:=hid (g.out (l.out fun h=>absurd h d));clear n v c d g l;go_wp2_with fail
    exact⟨⟨j+1,oA,by go_num,e,s⟩,by simp[intOf];omega⟩
  ·obtain rfl:j=p.IL.length:=oA;have aJ:¬((p.IL.length:Int)<(p.IL.length:Int)):=oA;have K:=hid (show cb wr wb tag V (utP (nkP p f) f) by unfold utP;rw[show (nkP p f).IL=p.IL from rfl, <-wZ];exact c);have K2:=s;clear c s;generalize wr=O at*;have c3:O.cell? ⟨wb,3,none⟩=some (.slice (some ⟨g3,0,none⟩) p.II.length aq):=by rw[ai K.r (k:=3) rfl,E3.out]
   go_upto_region 9 with fail
   go_loopw [6] (fun i wr=>∃(j:Nat),j<=p.II.length∧i=.int .i64 j∧O=wr) (fun i _=>p.II.length - (intOf i).toNat)
   case atStart=>exact⟨0,oA,rfl,rfl⟩
   case round=>
    obtain⟨j,hj,rfl,rfl⟩:=hrel;by_cases u:j<p.II.length
    ·have ax:(j:Int)<(p.II.length:Int):=oA;go_wp2_with fail
     exact⟨⟨j+1,oA,by go_num,by first|rfl|trivial⟩,by simp[intOf];omega⟩
    ·obtain rfl:j=p.II.length:=oA;have aK:¬((p.II.length:Int)<(p.II.length:Int)):=oA;go_wp2_with fail
     refine (aj.out _ _ K).mono ?_;rintro r w9 ⟨rfl,aB,b9,k9⟩;have B9:=hid b9;have K9:=hid (K2.trans k9);clear b9 k9;go_wp2_with fail
     exact aH (aF rfl _ _ _) rfl ⟨rfl,aB,by rw[HR.out];exact B9,K9.out⟩
theorem EM {m:Nat} (O:vO m) (p:PW) (f:Nat) (W:World) (wb:Nat) (tag:Nat->Nat) (V:Nat->Value) (hi:Inv p) (Y:TL p) (hk:p.kinds[f]? =some 5) (I:gX p 5 f=false) (b:nds p<m+1) (bt:cb W wb tag V p):
  Calls Tryz.prog 120 #[.pointer (some ⟨wb,0,none⟩),.int .i64 f] W fun r W'=>r=.returned (.tuple #[])∧∃tag',cb W' wb tag' V (gnF (drR m) p 5 f)∧Kt tag tag' W W':=by
 obtain⟨P,R⟩:=List.getElem?_eq_some_iff.1 hk;have am:=hi.Jf;have aE:(p.kinds.length:Int)<=1000:=oA;have aA:(f:Int)<(p.kinds.length:Int):=oA;have aG:(p.II.length:Int)<=1000:=by have:=hi.II;omega
 obtain⟨M,al,e1⟩:=bt.o.kinds.form (show 0<p.kinds.length by omega);obtain⟨F,cap3,L⟩:=bt.o.II.form (show 0<p.II.length by have:=hi.II;omega);have E1:=hid e1;have K:=hid L;have c1:W.cell? ⟨wb,1,none⟩=some (.slice (some ⟨M,0,none⟩) p.kinds.length al):=by rw[ai bt.r (k:=1) rfl,e1]
 have x1:=bt.IZ e1 P;rw[R] at x1;have ax:=bt.I9 e1 f;obtain⟨b1,k1⟩:=bt.IW e1 f 0;have B1:=hid (show cb (W.setCell ⟨M,f,none⟩ (.int .i64 0)) wb tag V (nkP p f) from b1);have K1:=hid k1;have hh:=lI hi hk I;have ar:(nkP p f).kinds.length=p.kinds.length:=au ..;have tn:TL (nkP p f):=Y.of rfl rfl;have an:(nkP p f).IL.length<=600:=by have:=hh.IL;omega
 have Q:=jk (gn hi hk I oD) 11 oD (f:Int);have ap:nds (nkP p f)+1=nds p:=(ji p.kinds f).2 hk;have HR:=hid (show gnF (drR m) p 5 f=fwP (daF (drR m) f 16 (fgP 11 (nkP p f) f)) 5 f by unfold gnF lsF;rw[ae oD,ae oD,ag rfl]);have ad:=hid (show f*16+16<=p.IH.length by have:=hi.IH;omega);have aB:(f:Int)<=23:=oA;have HD:=hid O;have C:=hid (show Inv (fgP 11 (nkP p f) f)∧TL (fgP 11 (nkP p f) f)∧nds (fgP 11 (nkP p f) f)<m from⟨Q,tn.of rfl rfl,by show nds (nkP p f)<m;omega⟩);have ac:=hid (fun X aa q (h:cb X wb aa V q) (G:Inv q) (H:TL q)=>ff wb aa V q 5 f X h G.fits H.len H.Jt H.word (by have:=G.IL;have:=G.Jf;omega));clear hi Y hk I bt P R am e1 L b1 k1 hh ar tn an Q ap O b;go_enter Tryz.func120,Tryz.ntmps120
 go_upto_region 2 with fail
 generalize World.setCell _ _ _=W1 at*;clear c1 x1 ax;go_upto_region 9 with fail
 go_loopw [6] (fun i wr=>∃(j:Nat),j<=p.II.length∧i=.int .i64 j∧Hid (cb wr wb tag V {nkP p f with II:=eY (fg1 11 f) j p.II})∧Hid (Kt tag tag W wr)) (fun i _=>p.II.length - (intOf i).toNat)
 case atStart=>exact⟨0,oA,rfl,hid (by rw[fi];exact B1),K1⟩
 case round=>
  obtain⟨j,hj,rfl,d,D⟩:=hrel;have c3:wr.cell? ⟨wb,3,none⟩=some (.slice (some ⟨F,0,none⟩) p.II.length cap3):=by rw[ai d.r (k:=3) rfl,K.out]
  by_cases n:j<p.II.length
  ·have aD:(j:Int)<(p.II.length:Int):=oA;have e:j<(eY (fg1 11 f) j p.II).length:=by rw[cM];exact n
   have w:V 3=.slice (some ⟨F,0,none⟩) (eY (fg1 11 f) j p.II).length cap3:=by rw[cM];exact K
   have J:=d.I3 w e (show 11<20 by omega);have fc:=d.IT w (j*20+11);simp only[d9 (fg1 11 f) j p.II n e] at J;by_cases l:p.II[j] 11=f
   ·obtain⟨b,S⟩:=d.IV w e (show 11<20 by omega) (-1);have u:=hid (show cb (wr.setCell ⟨F,j*20+11,none⟩ (.int .i64 (-1))) wb tag V {nkP p f with II:=eY (fg1 11 f) (j+1) p.II} by
     rw[eA (fg1 11 f) j p.II n,show fg1 11 f p.II[j]=upd p.II[j] 11 (-1) from ag l, <-d9 (fg1 11 f) j p.II n e];exact b)
    have af:=hid (D.trans S);rw[l] at J;clear b S w l e d;go_wp2_with fail
    exact⟨⟨j+1,oA,by go_num,u,af⟩,by simp[intOf];omega⟩
   ·have u:=hid (show cb wr wb tag V {nkP p f with II:=eY (fg1 11 f) (j+1) p.II} by
     rw[eA (fg1 11 f) j p.II n,show fg1 11 f p.II[j]=p.II[j] from ae l, <-d9 (fg1 11 f) j p.II n e,bV];exact d)
    have ao:(p.II[j] 11==(f:Int))=false:=by simpa using l
    generalize p.II[j] 11=y at J ao;clear w l e d fc;go_wp2_with fail
    exact⟨⟨j+1,oA,by go_num,u,D⟩,by simp[intOf];omega⟩
  ·obtain rfl:j=p.II.length:=oA;have aC:¬((p.II.length:Int)<(p.II.length:Int)):=oA;have B2:=hid (show cb wr wb tag V (fgP 11 (nkP p f) f) by unfold fgP;rw[show (nkP p f).II=p.II from rfl, <-fF];exact d);have K2:=D;clear d;generalize T:fgP 11 (nkP p f) f=q0 at*;have aj:=hid (show q0.IH.length=p.IH.length by rw[<-T];rfl);clear T;go_upto_region 19 with fail
   go_loopw [7] (fun i wr=>∃(a:Nat) (v:Int),i=.int .i64 v∧Hid (v=(a:Int) - 1∧a<=16∧∃q tg,cb wr wb tg V q∧Kt tag tg W wr∧Inv q∧TL q∧nds q<m∧q.IH.length=p.IH.length∧daF (drR m) f a q=daF (drR m) f 16 q0)) (fun i _=>(intOf i+1).toNat)
   case atStart=>exact⟨16,15,rfl,hid ⟨rfl,aq _,q0,tag,B2.out,K2.out,C.1,C.2.1,C.2.2,aj.out,rfl⟩⟩
   case round=>
    obtain⟨a,v,rfl,B⟩:=hrel;obtain⟨hv,N,q,tg,bt,kt,hi,t,b,z,x⟩:=B.out
    cases a with
    |zero=>
     obtain rfl:v= -1:=oA;have HB:=hid bt;have E:=hid kt;have ah:=hid (show daF (drR m) f 16 q0=q by rw[<-x,gB]);have ab:=hid (ac.out _ tg q bt hi t);clear bt kt hi b z x hv N B t;go_wp2_with fail
     refine ab.mono ?_;rintro r w9 ⟨rfl,aw,b9,Z⟩;have B9:=hid b9;have K9:=hid (E.trans Z);clear b9 Z;go_wp2_with fail
     exact aH (aF rfl _ _ _) rfl ⟨rfl,aw,by rw[HR.out,ah.out];exact B9,K9.out⟩
    |succ a=>
     obtain rfl:v=(a:Int):=oA;obtain⟨sl,U⟩:∃sl:Nat,f*16+a=sl:=⟨_,rfl⟩
     have aI:(f:Int)*16+(a:Int)=(sl:Int):=oA;have s:sl<q.IH.length:=by have:=ad.out;omega
     have ay:0<=(a:Int):=oA;have az:(a:Int)<=15:=oA;have E:=hid kt;have A:=hid (HD.out q sl wr wb tg V b hi t s bt);have g:=hid (show (Inv (if (q.IH.getD sl eS) 0=0 then q else drR m q sl)∧TL (if (q.IH.getD sl eS) 0=0 then q else drR m q sl)∧nds (if (q.IH.getD sl eS) 0=0 then q else drR m q sl)<m∧(if (q.IH.getD sl eS) 0=0 then q else drR m q sl).IH.length=p.IH.length∧daF (drR m) f a (if (q.IH.getD sl eS) 0=0 then q else drR m q sl)=daF (drR m) f 16 q0) from by
      refine⟨?_,?_,?_,?_,by rw[<-x,gA,U]⟩
      all_goals by_cases c:(q.IH.getD sl eS) 0=0
      ·rw[ag c];exact hi
      ·rw[ae c];exact ((ju m).1 q sl b hi s c).1
      ·rw[ag c];exact t
      ·rw[ae c];exact (ju m).2 q sl b hi s c t
      ·rw[ag c];exact b
      ·rw[ae c];have:=((ju m).1 q sl b hi s c).2.1;omega
      ·rw[ag c];exact z
      ·rw[ae c];obtain⟨i1, -,i3⟩:=(ju m).1 q sl b hi s c;rw[i1.IH,i3, <-hi.IH];exact z)
     generalize (if (q.IH.getD sl eS) 0=0 then q else drR m q sl)=qq at A g;generalize (if (q.IH.getD sl eS) 0=0 then (6:Int) else 0)=ee at A;clear bt kt hi b z x hv N B s U t;go_wp2_with fail
     refine A.mono ?_;rintro r w1 ⟨rfl,av,b2,k2⟩;have u:=hid (show (a<=16∧∃q tg,cb w1 wb tg V q∧Kt tag tg W w1∧Inv q∧TL q∧nds q<m∧q.IH.length=p.IH.length∧daF (drR m) f a q=daF (drR m) f 16 q0) from⟨oA,qq,av,b2,E.trans k2,g.1,g.2.1,g.2.2.1,g.2.2.2.1,g.2.2.2.2⟩);clear b2 k2;go_wp2_with fail
     exact⟨⟨a,(a:Int) - 1,by first|rfl|go_num,hid ⟨rfl,u.out⟩⟩,by simp[intOf]<;>omega⟩
theorem Dp (p:PW) (t:Nat) (a:t<p.II.length):(stP p t).II.getD t bl 17=if p.II.getD t bl 17=t then -1 else p.II.getD t bl 17:=by
 unfold stP;rw[gM _ t 14 17 _ (by rw[ap];show t<(p.II.map (nOw t)).length;rw[bL];exact a),ae oD,gM _ t 9 17 _ (by show t<(p.II.map (nOw t)).length;rw[bL];exact a),ae oD];show (p.II.map (nOw t)).getD t bl 17=_
 rw[pG p t (nOw t) a];unfold nOw;by_cases e:p.II.getD t bl 17=t
 ·rw[ag e,ag e];exact ag rfl
 ·rw[ae e,ae e]
theorem Ch (q:PW) (t:Nat):({q.task t 9 0 with II:=(q.task t 9 0).II.set t bl}:PW)={q with II:=q.II.set t bl}:=by
 unfold PW.task;simp only[ep]
theorem EO {m:Nat} (p:PW) (f:Nat) (W:World) (wb:Nat) (tag:Nat->Nat) (V:Nat->Value) (hi:Inv p) (ht:TL p) (hk:p.kinds[f]? =some 6) (ho:gX p 6 f=false) (bt:cb W wb tag V p):
  Calls Tryz.prog 120 #[.pointer (some ⟨wb,0,none⟩),.int .i64 f] W fun r W'=>r=.returned (.tuple #[])∧∃tag',cb W' wb tag' V (gnF (drR m) p 6 f)∧Kt tag tag' W W':=by
 obtain⟨Z,az⟩:=List.getElem?_eq_some_iff.1 hk;have aG:=hi.Jf;have aS:(p.kinds.length:Int)<=1000:=oA;have aN:(f:Int)<(p.kinds.length:Int):=oA;have aT:(p.II.length:Int)<=1000:=by have:=hi.II;omega
 obtain⟨g1,aE,e1⟩:=bt.o.kinds.form (show 0<p.kinds.length by omega);obtain⟨a,cap3,e3⟩:=bt.o.II.form (show 0<p.II.length by have:=hi.II;omega);have E1:=hid e1;have g:=hid e3;have c1:W.cell? ⟨wb,1,none⟩=some (.slice (some ⟨g1,0,none⟩) p.kinds.length aE):=by rw[ai bt.r (k:=1) rfl,e1]
 have x1:=bt.IZ e1 Z;rw[az] at x1;have aM:=bt.I9 e1 f;obtain⟨b1,k1⟩:=bt.IW e1 f 0;have B1:=hid (show cb (W.setCell ⟨g1,f,none⟩ (.int .i64 0)) wb tag V (nkP p f) from b1);have K1:=hid k1;have hh:=lI hi hk ho;have aJ:(nkP p f).kinds.length=p.kinds.length:=au ..;have tn:TL (nkP p f):=ht.of rfl rfl;have aI:(nkP p f).IL.length<=600:=by have:=hh.IL;omega
 have N:=AR (gn hi hk ho oD) f;have HR:=hid (show gnF (drR m) p 6 f=fwP (etP (nkP p f) f) 6 f by unfold gnF lsF;rw[ae oD,ae oD,ae oD,ag rfl]);have aB:=hid (fun X aA (h:cb X wb aA V (etP (nkP p f) f))=>ff wb aA V (etP (nkP p f) f) 6 f X h (N).fits ((tn.of (nJ (nkP p f) f).1 (nJ (nkP p f) f).2:TL (etP (nkP p f) f))).len ((tn.of (nJ (nkP p f) f).1 (nJ (nkP p f) f).2:TL (etP (nkP p f) f))).Jt ((tn.of (nJ (nkP p f) f).1 (nJ (nkP p f) f).2:TL (etP (nkP p f) f))).word (by have:=(N).IL;have:=(N).Jf;omega));have z:f<p.II.length:=by rw[hi.II];exact Z
 have M:=hid z;have ao:=hid (fun X (h:cb X wb tag V (nkP p f))=>j9 wb tag V (nkP p f) f X h hh.fits z);have D:=hid (show (stP (nkP p f) f).II.length=p.II.length from Bk (nkP p f) f);have aj:=Dp (nkP p f) f z;obtain⟨ow,ad⟩:∃ow,p.II.getD f bl 17=ow:=⟨_,rfl⟩
 have af:(nkP p f).II.getD f bl 17=ow:=ad;rw[af] at aj;have I:=hid (show etP (nkP p f) f={(if ow= -1 then stP (nkP p f) f else (stP (nkP p f) f).task ow.toNat 9 0) with II:=(if ow= -1 then stP (nkP p f) f else (stP (nkP p f) f).task ow.toNat 9 0).II.set f bl} by unfold etP;rw[af]);have J:=hid (show ow= -1∨∃u:Nat,ow=u∧u<p.II.length from by
  have c:=hi.Jj (p.II.getD f bl) (by rw[aa,ac z];exact av z);rw[ad] at c;exact c)
 have L:=hid aj;clear hi ht hk ho bt Z az aG e1 e3 b1 k1 hh aJ tn aI N z aj ad af;go_enter Tryz.func120,Tryz.ntmps120
 go_upto_region 2 with fail
 generalize World.setCell _ _ _=W1 at*;clear c1 x1 aM;have E:W1.cell? ⟨wb,3,none⟩=some (.slice (some ⟨a,0,none⟩) p.II.length cap3):=by rw[ai B1.r (k:=3) rfl,g.out]
 go_upto_region 9 with fail
 go_loopw [6] (fun i wr=>∃(j:Nat),j<=p.II.length∧i=.int .i64 j∧W1=wr) (fun i _=>p.II.length - (intOf i).toNat)
 case atStart=>exact⟨0,oA,rfl,rfl⟩
 case round=>
  obtain⟨j,hj,rfl,rfl⟩:=hrel;by_cases aQ:j<p.II.length
  ·have aR:(j:Int)<(p.II.length:Int):=oA;go_wp2_with fail
   exact⟨⟨j+1,oA,by go_num,by first|rfl|trivial⟩,by simp[intOf];omega⟩
  ·obtain rfl:j=p.II.length:=oA;have aP:¬((p.II.length:Int)<(p.II.length:Int)):=oA;go_wp2_with fail
   refine (ao.out _ B1).mono ?_;rintro r w7 ⟨rfl,A,b7,k7⟩;have e:=hid b7;have Q:=hid (K1.trans k7);clear b7 k7 ao E;have n:V 3=.slice (some ⟨a,0,none⟩) (stP (nkP p f) f).II.length cap3:=by rw[D.out];exact g
   have E:w7.cell? ⟨wb,3,none⟩=some (.slice (some ⟨a,0,none⟩) p.II.length cap3):=by rw[ai e.r (k:=3) rfl,g.out]
   have aO:(f:Int)<(p.II.length:Int):=by have:=M.out;omega
   have am:=e.IS n (i:=f) (by rw[D.out];exact M) (show 17<20 by omega);rw[L.out] at am;obtain⟨l,ax⟩:∃q,(if ow= -1∨ow=f then stP (nkP p f) f else (stP (nkP p f) f).task ow.toNat 9 0)=q:=⟨_,rfl⟩
   have C:=hid ax;obtain⟨ov,ab⟩:∃v,(if ow=(f:Int) then (-1:Int) else ow)=v:=⟨_,rfl⟩
   rw[ab] at am;have an:=hid ab;clear ax ab
   go_upto_if 184 with fail
   clear am;go_cut [8] (fun x wx=>(∃y,x=.int .i64 y)∧Hid (cb wx wb A V l)∧Hid (Kt tag A W wx))
   case first=>
    by_cases s:ow= -1∨ow=f
    ·have H:ov= -1:=by
      rw[<-an.out];rcases s with h|h
      ·rw[h];split<;>rfl
      ·rw[ag h]
     rw[H];have d:=hid (show cb w7 wb A V l by rw[<-C.out,ag s];exact e);clear s H n L I J;go_wp2_with fail
     go_meet
     exact⟨⟨_,rfl⟩,d,Q⟩
    ·obtain⟨u,hu,al⟩:∃u:Nat,ow=u∧u<p.II.length:=by
      rcases J.out with h|h
      ·exact absurd (.inl h) s
      ·exact h
     have H:ov=u:=by rw[<-an.out,ae (fun h=>s (.inr h)),hu]
     rw[H];have aV:(u:Int)<(p.II.length:Int):=oA;have aU:0<=(u:Int):=oA;have xa:=e.IS n (i:=u) (by rw[D.out];exact al) (show 9<20 by omega);have fa:=e.IT n (u*20+9);obtain⟨c,t⟩:=e.task n (i:=u) (by rw[D.out];exact al) (show 9<20 by omega) 0;have d:=hid (show cb (w7.setCell ⟨a,u*20+9,none⟩ (.int .i64 0)) wb A V l by rw[<-C.out,ae s,hu,ah];exact c);have T:=hid (Q.trans t);clear c t n s H L I J hu al;go_wp2_with fail
     go_meet
     exact⟨⟨_,rfl⟩,d,T⟩
   case rest=>
    obtain⟨⟨y8,aK⟩,d,T⟩:=hcut;subst aK;generalize wc=b at*;have aC:=hid (show etP (nkP p f) f={l with II:=l.II.set f bl} by
     rw[I.out, <-C.out];by_cases c:ow= -1
     ·rw[ag c,ag (.inl c)]
     ·rw[ae c];by_cases t:ow=f
      ·rw[ag (.inr t),t,ah];exact Ch _ f
      ·rw[ae (fun h=>h.elim c t)])
    have U:=hid (show l.II.length=p.II.length by rw[<-C.out];split<;>(try rw[ap])<;>exact D);generalize l=qq at*;clear E n e Q L I J C;have E:b.cell? ⟨wb,3,none⟩=some (.slice (some ⟨a,0,none⟩) p.II.length cap3):=by rw[ai d.r (k:=3) rfl,g.out]
    go_upto_region 27 with fail
    clear E;have Y:V 3=.slice (some ⟨a,0,none⟩) qq.II.length cap3:=by rw[U.out];exact g
    have O:Hid (Below b.heap.size b b.drew):=hid (aD b 1);have R:=hid (fun X (h:Below b.heap.size b X)=>show X.cell? ⟨wb,3,none⟩=some (.slice (some ⟨a,0,none⟩) p.II.length cap3) from by rw[ai (d.below h).r (k:=3) rfl,g.out]);have aq:=hid (fun X (h:Below b.heap.size b X)=>(d.below h).Jc Y (i:=f) (by rw[U.out];exact M) bl);have ar:=hid (fun X (h:Below b.heap.size b X)=>(d.below h).I7 Y (f*20) 20 (by have:=M.out;rw[U.out];omega));clear Y;refine wp_region_held_drew (S:=fun X=>X.cell? ⟨wb,3,none⟩=some (.slice (some ⟨a,0,none⟩) p.II.length cap3)) oK (R.out _ O) (fun F=>?_);have w:=hid F;clear F;refine tk 0 (.pointer (some ⟨wb,0,none⟩)) rfl w ?_;simp only[jj];refine tk 1 (.pointer (some ⟨wb,0,none⟩)) rfl w ?_;simp only[jj];refine tk 2 (.pointer (some ⟨wb,3,none⟩)) rfl w ?_;simp only[jj];refine Mem.tg 3 (.slice (some ⟨a,0,none⟩) p.II.length cap3) rfl (Or.inl ⟨oR,fun W h=>by have h3:=h;clear h;go_simp⟩) w ?_;simp only[jj];refine tk 4 (.int .i64 f) rfl w ?_;simp only[jj];refine wpAnyH_ready (rs:=[5]) oK oS (AllReadyH.cons rfl (fun K G=>?_) AllReadyH.nil);go_simp
    refine (qh _).mono ?_;rintro q x1 ⟨rfl,hb⟩;have B:=hid (btr O hb);clear hb;go_wp2_with fail
    refine G _ _ (R.out _ B) (fun F=>?_);have aw:=hid F;clear G K F
    try simp only[Act.put,jD,jE,jF]
    refine tk 6 (.pointer (some ⟨a,f*20,none⟩)) rfl aw ?_;simp only[jj];obtain⟨b1,k1⟩:=aq.out _ B;have P:=hid b1;have KX:=hid (T.trans ((bp B:Kt A A b x1).trans k1));have SX:=hid (show (x1.setCells a (f*20) (cf 20 bl)).cell? ⟨wb,3,none⟩=some (.slice (some ⟨a,0,none⟩) p.II.length cap3) from by rw[ai P.r (k:=3) rfl,g.out]);clear b1 k1;refine wpAnyH_ready (rs:=[7]) oK oS (AllReadyH.cons rfl (fun K G=>?_) AllReadyH.nil);refine wp_store_mid 37 _ _ rfl a (f*20) (cf 20 bl).toArray rfl rfl (by rw[eE,ay];exact ar _ B) (by rw[gV];rfl) (all_oneCell_toArray (bQ 20 _)) ?_;refine G _ _ SX (fun _=>?_);clear G K w aw
    try simp only[Act.put]
    refine dw oK ?_ _;clear R aq ar SX O B;generalize World.setCells _ _ _ _=WX at*;rw[<-aC.out] at P;go_wp2_with fail
    refine (aB.out _ _ P).mono ?_;rintro r w8 ⟨rfl,aL,b8,k8⟩;have B8:=hid b8;have K8:=hid (KX.trans k8);clear b8 k8;go_wp2_with fail
    exact aH (aF rfl _ _ _) rfl ⟨rfl,aL,by rw[HR.out];exact B8,K8.out⟩
theorem wV {m:Nat} {k:Int} (a9:k=7∨k=8) (p:PW) (f:Nat) (W:World) (wb:Nat) (tag:Nat->Nat) (V:Nat->Value) (hi:Inv p) (ht:TL p) (hk:p.kinds[f]? =some k) (ho:gX p k f=false) (bt:cb W wb tag V p):
  Calls Tryz.prog 120 #[.pointer (some ⟨wb,0,none⟩),.int .i64 f] W fun r W'=>r=.returned (.tuple #[])∧∃tag',cb W' wb tag' V (gnF (drR m) p k f)∧Kt tag tag' W W':=by
 rcases a9 with rfl|rfl
 all_goals
  obtain⟨hf,ax⟩:=List.getElem?_eq_some_iff.1 hk;have aL:=hi.Jf;have bk:(p.kinds.length:Int)<=1000:=oA;have bf:(f:Int)<(p.kinds.length:Int):=oA;have bn:(p.II.length:Int)<=1000:=by have:=hi.II;omega
  obtain⟨g1,a6,e1⟩:=bt.o.kinds.form (show 0<p.kinds.length by omega);obtain⟨g3,cap3,e3⟩:=bt.o.II.form (show 0<p.II.length by have:=hi.II;omega);have E1:=hid e1;have M:=hid e3;have c1:W.cell? ⟨wb,1,none⟩=some (.slice (some ⟨g1,0,none⟩) p.kinds.length a6):=by rw[ai bt.r (k:=1) rfl,e1]
  have x1:=bt.IZ e1 hf;rw[ax] at x1;have aX:=bt.I9 e1 f;obtain⟨b1,k1⟩:=bt.IW e1 f 0;have B1:=hid (show cb (W.setCell ⟨g1,f,none⟩ (.int .i64 0)) wb tag V (nkP p f) from b1);have K1:=hid k1;have hh:=lI hi hk ho;have aU:(nkP p f).kinds.length=p.kinds.length:=au ..;have tn:TL (nkP p f):=ht.of rfl rfl;have aM:(nkP p f).IL.length<=600:=by have:=hh.IL;omega
  have D:f<p.lines.length:=by rw[hi.lines];exact hf
  have aw:f<p.bits.length:=by rw[hi.bits];exact hf
  have bo:(p.lines.length:Int)<=1000:=by have:=hi.lines;omega
  have bp:(p.bits.length:Int)<=1000:=by have:=hi.bits;omega
  have bg:(f:Int)<(p.lines.length:Int):=oA;have bh:(f:Int)<(p.bits.length:Int):=oA;obtain⟨b,T⟩:=bt.o.lines.form;obtain⟨U,cap5,e5⟩:=bt.o.bits.form (show 0<p.bits.length by omega);have EL:=hid T;have E5:=hid e5;have aZ:=hid D;have aY:=hid aw;obtain⟨l,hl⟩:∃l,p.lines.getD f []=l:=⟨_,rfl⟩
  have HZ:=hid (show ∀z∈l,∃u:Nat,z=u∧u<p.II.length from fun z L=>hi.line _ (by rw[<-hl] at L;rw[aa,ac D] at L;exact av D) z (by rw[<-hl,aa,ac D] at L;exact L));have aJ:l.length<=1000:=by
   have h1:=hi.fits.line _ (av D);have Y:=hl;rw[aa,ac D,aT] at Y;rw[Y] at h1;exact h1
  have bq:(l.length:Int)<=1000:=oA;have aA:=hid (fun X q (h:cb X wb tag V q) (e:q.lines=p.lines)=>show ∃u,X.cell? ⟨b,f,none⟩=some u∧InT X tag (12+3*f) 3 1 u (l.length,dU l) from by
   have Y:=h.o.lines;rw[e,T] at Y;obtain⟨u,cu,J⟩:=Y.at D;unfold ci at J;rw[hl] at J;exact⟨u,cu,J⟩)
  have ay:b≠g3:=by
   intro e;have Z:=bt.o.lines;rw[T] at Z;have h4:=bt.o.II;rw[e3] at h4;have C:=h4.2 g3 rfl;rw[<-e,Z.Jk.1] at C
   cases C
  have aB:=hid ay;have HL:=hid hl
 case' inl=>
  have n:=wJ (mE hh f);have HR:=hid (show gnF (drR m) p 7 f=fwP (dsP (fgP 13 (nkP p f) f) f) 7 f by unfold gnF lsF;rw[ae oD,ae oD,ae oD,ae oD,wI]);rw[<-wI] at n;have E:TL (dsP (fgP 13 (nkP p f) f) f):=tn.of (qA (fgP 13 (nkP p f) f) f).1 (qA (fgP 13 (nkP p f) f) f).2;have az:=hid (fun X aj (h:cb X wb aj V (dsP (fgP 13 (nkP p f) f) f))=>ff wb aj V (dsP (fgP 13 (nkP p f) f) f) 7 f X h (n).fits (E).len (E).Jt (E).word (by have:=(n).IL;have:=(n).Jf;omega));clear hi ht hk ho bt hf ax aL e1 e3 b1 k1 hh aU tn aM n D aw T e5 hl aJ ay E;go_enter Tryz.func120,Tryz.ntmps120
  go_upto_region 2 with fail
  generalize World.setCell _ _ _=W1 at*;clear c1 x1 aX;go_upto_region 9 with fail
  go_loopw [6] (fun i wr=>∃(j:Nat),j<=p.II.length∧i=.int .i64 j∧Hid (cb wr wb tag V {nkP p f with II:=eY (fg1 13 f) j p.II})∧Hid (Kt tag tag W wr)) (fun i _=>p.II.length - (intOf i).toNat)
  case atStart=>exact⟨0,oA,rfl,hid (by rw[fi];exact B1),K1⟩
  case' round=>
   obtain⟨j,hj,rfl,c,G⟩:=hrel;have c3:wr.cell? ⟨wb,3,none⟩=some (.slice (some ⟨g3,0,none⟩) p.II.length cap3):=by rw[ai c.r (k:=3) rfl,M.out]
   by_cases s:j<p.II.length
   ·have aQ:(j:Int)<(p.II.length:Int):=oA;have I:j<(eY (fg1 13 f) j p.II).length:=by rw[cM];exact s
    have t:V 3=.slice (some ⟨g3,0,none⟩) (eY (fg1 13 f) j p.II).length cap3:=by rw[cM];exact M
    have xc:=c.I3 t I (show 13<20 by omega);have fc:=c.IT t (j*20+13);simp only[d9 (fg1 13 f) j p.II s I] at xc;by_cases C:p.II[j] 13=f
    ·obtain⟨hn,aR⟩:=c.IV t I (show 13<20 by omega) (-1);have HN:=hid (show cb (wr.setCell ⟨g3,j*20+13,none⟩ (.int .i64 (-1))) wb tag V {nkP p f with II:=eY (fg1 13 f) (j+1) p.II} by
      rw[eA (fg1 13 f) j p.II s,show fg1 13 f p.II[j]=upd p.II[j] 13 (-1) from ag C, <-d9 (fg1 13 f) j p.II s I];exact hn)
     have a0:=hid (G.trans aR);rw[C] at xc;clear hn aR t C I c;go_wp2_with fail
     exact⟨⟨j+1,oA,by go_num,HN,a0⟩,by simp[intOf];omega⟩
    ·have HN:=hid (show cb wr wb tag V {nkP p f with II:=eY (fg1 13 f) (j+1) p.II} by
      rw[eA (fg1 13 f) j p.II s,show fg1 13 f p.II[j]=p.II[j] from ae C, <-d9 (fg1 13 f) j p.II s I,bV];exact c)
     have a8:(p.II[j] 13==(f:Int))=false:=by simpa using C
     generalize p.II[j] 13=y at xc a8;clear t C I c fc;go_wp2_with fail
     exact⟨⟨j+1,oA,by go_num,HN,G⟩,by simp[intOf];omega⟩
   obtain rfl:j=p.II.length:=oA;have ba:¬((p.II.length:Int)<(p.II.length:Int)):=oA;have B2:=hid (show cb wr wb tag V (fgP 13 (nkP p f) f) by unfold fgP;rw[show (nkP p f).II=p.II from rfl, <-fF];exact c);have K2:=G;clear c;have w:=hid (show (fgP 13 (nkP p f) f).lines=p.lines∧(fgP 13 (nkP p f) f).bits=p.bits∧(fgP 13 (nkP p f) f).II.length=p.II.length from⟨rfl,rfl,bL _⟩);generalize fgP 13 (nkP p f) f=q1 at*;generalize wr=W5 at*
 case' inr=>
  have aP:=gn hi hk ho oD;have aN:=mE (aP.h (-1)) f;have n:Inv (dsP (nkP p f) f):=aN.full fun _ _ e=>e;have HR:=hid (show gnF (drR m) p 8 f=fwP (dsP (nkP p f) f) 8 f by
   unfold gnF lsF;rw[ae oD,ae oD,ae oD,ae oD,Ck 13 (fun g hg e=>?_)];rcases n.Jh g hg with h1|⟨u,J,aS⟩
   ·omega
   ·have:u=f:=oA;subst this;rw[iu] at aS;exact (xL aS oD).2 rfl)
  have E:TL (dsP (nkP p f) f):=tn.of (qA (nkP p f) f).1 (qA (nkP p f) f).2;have az:=hid (fun X aj (h:cb X wb aj V (dsP (nkP p f) f))=>ff wb aj V (dsP (nkP p f) f) 8 f X h (n).fits (E).len (E).Jt (E).word (by have:=(n).IL;have:=(n).Jf;omega));clear hi ht hk ho bt hf ax aL e1 e3 b1 k1 hh aU tn aM n D aw T e5 hl aJ ay E aP aN;go_enter Tryz.func120,Tryz.ntmps120
  go_upto_region 2 with fail
  generalize World.setCell _ _ _=W1 at*;clear c1 x1 aX;have c3:W1.cell? ⟨wb,3,none⟩=some (.slice (some ⟨g3,0,none⟩) p.II.length cap3):=by rw[ai B1.r (k:=3) rfl,M.out]
  go_upto_region 9 with fail
  go_loopw [6] (fun i wr=>∃(j:Nat),j<=p.II.length∧i=.int .i64 j∧W1=wr) (fun i _=>p.II.length - (intOf i).toNat)
  case atStart=>exact⟨0,oA,rfl,rfl⟩
  case' round=>
   obtain⟨j,hj,rfl,rfl⟩:=hrel;by_cases s:j<p.II.length
   ·have aQ:(j:Int)<(p.II.length:Int):=oA;go_wp2_with fail
    exact⟨⟨j+1,oA,by go_num,by first|rfl|trivial⟩,by simp[intOf];omega⟩
   obtain rfl:j=p.II.length:=oA;have ba:¬((p.II.length:Int)<(p.II.length:Int)):=oA;have w:=hid (show (nkP p f).lines=p.lines∧(nkP p f).bits=p.bits∧(nkP p f).II.length=p.II.length from⟨rfl,rfl,rfl⟩);generalize nkP p f=q1 at*;have B2:=B1;have K2:=K1;generalize W1=W5 at*
 all_goals
  obtain⟨u,cu,J⟩:=aA.out W5 q1 B2 w.1;obtain⟨q,d,B,rfl,hq⟩:=J.shape;have HQ:=hid hq;have a3:=hid cu;clear hq J cu;go_upto_region 30 with fail
  go_loopw [9] (fun i wr=>∃(j:Nat),j<=l.length∧i=.int .i64 j∧Hid (cb wr wb tag V ((l.take j).foldl ds1 q1))∧Hid (Kt tag tag W wr)∧Hid (wr.cell? ⟨b,f,none⟩=some (.slice q l.length B))) (fun i _=>l.length - (intOf i).toNat)
  case atStart=>exact⟨0,oA,rfl,B2,K2,a3⟩
  case round=>
   obtain⟨j,hj,rfl,c,G,P⟩:=hrel;have aG:=hid (fT (l.take j) q1);have LT:=hid (show ((l.take j).foldl ds1 q1).II.length=p.II.length by rw[wq];exact w.2.2);have c4:wr.cell? ⟨wb,4,none⟩=some (.slice (some ⟨b,0,none⟩) p.lines.length p.lines.length):=by rw[ai c.r (k:=4) rfl,EL.out]
   have cl:=P.out;by_cases s:j<l.length
   ·have aQ:(j:Int)<(l.length:Int):=oA;have bb:=HQ.out oA;subst bb;obtain⟨z,L,an⟩:=HZ.out l[j] (av s);have a4:=hid L;have br:(z:Int)<(p.II.length:Int):=oA;have R:=hid (fun X qx (h:cb X wb tag V qx) (e:qx.lines=p.lines) (hc:X.cell? ⟨b,f,none⟩=some (.slice (some ⟨d,0,none⟩) l.length B))=>show X.cell? ⟨wb,3,none⟩=some (.slice (some ⟨g3,0,none⟩) p.II.length cap3)∧X.cell? ⟨wb,4,none⟩=some (.slice (some ⟨b,0,none⟩) p.lines.length p.lines.length)∧X.cell? ⟨b,f,none⟩=some (.slice (some ⟨d,0,none⟩) l.length B)∧X.cell? ⟨d,j,none⟩=some (.int .i64 z) from⟨by rw[ai h.r (k:=3) rfl,M.out],by rw[ai h.r (k:=4) rfl,EL.out],hc,by
     obtain⟨u2,a7,aW⟩:=aA.out X qx h e;rw[aK (a7.symm.trans hc)] at aW;have x:=aW.int s;rw[L] at x;exact x⟩)
    have LN:=hid (show ((l.take j).foldl ds1 q1).lines=p.lines by rw[aG.out];exact w.1);have t:V 3=.slice (some ⟨g3,0,none⟩) ((l.take j).foldl ds1 q1).II.length cap3:=by rw[LT.out];exact M
    have N:Hid (cb wr.drew wb tag V ((l.take j).foldl ds1 q1)):=hid (c.below (aD wr 1));have KD:Hid (Kt tag tag W wr.drew):=hid (G.trans (.below (aD wr 1)));have xa:=N.IS t (i:=z) (by rw[LT.out];exact an) (show 9<20 by omega);have fa:=N.IT t (z*20+9);obtain⟨b1,ad⟩:=N.task t (i:=z) (by rw[LT.out];exact an) (show 9<20 by omega) 0;have v:=hid (show cb (wr.setCell ⟨g3,z*20+9,none⟩ (.int .i64 0)).drew wb tag V (((l.take j).foldl ds1 q1).task z 9 0) from b1);have Q:=hid (show Kt tag tag W (wr.setCell ⟨g3,z*20+9,none⟩ (.int .i64 0)).drew from KD.trans ad);have C6:=hid (show (wr.setCell ⟨g3,z*20+9,none⟩ (.int .i64 0)).drew.cell? ⟨b,f,none⟩=some (.slice (some ⟨d,0,none⟩) l.length B) from by
     show (wr.setCell ⟨g3,z*20+9,none⟩ (.int .i64 0)).cell? ⟨b,f,none⟩=_
     rw[aO _ _ _ _ (by intro e;cases e;exact aB rfl)];exact P)
    have S0:=hid (R.out _ _ N LN P);have S6:=hid (R.out _ _ v LN C6);clear b1 ad t;go_upto_region 32 with fail
    clear c4 cl;refine wp_region_held_drew (S:=fun X=>X.cell? ⟨wb,3,none⟩=some (.slice (some ⟨g3,0,none⟩) p.II.length cap3)∧X.cell? ⟨wb,4,none⟩=some (.slice (some ⟨b,0,none⟩) p.lines.length p.lines.length)∧X.cell? ⟨b,f,none⟩=some (.slice (some ⟨d,0,none⟩) l.length B)∧X.cell? ⟨d,j,none⟩=some (.int .i64 z)) oK S0 (fun ab=>?_);have a:=hid ab;clear ab;refine tk 0 (.pointer (some ⟨wb,0,none⟩)) rfl a ?_;simp only[jj];refine tk 1 (.pointer (some ⟨wb,0,none⟩)) rfl a ?_;simp only[jj];refine tk 2 (.pointer (some ⟨wb,3,none⟩)) rfl a ?_;simp only[jj];refine Mem.tg 3 (.slice (some ⟨g3,0,none⟩) p.II.length cap3) rfl (Or.inl ⟨oR,fun W h=>by have H:=h.1;clear h;go_simp⟩) a ?_;simp only[jj];refine tk 4 (.pointer (some ⟨wb,0,none⟩)) rfl a ?_;simp only[jj];refine tk 5 (.pointer (some ⟨wb,0,none⟩)) rfl a ?_;simp only[jj];refine tk 6 (.pointer (some ⟨wb,4,none⟩)) rfl a ?_;simp only[jj];refine Mem.tg 7 (.slice (some ⟨b,0,none⟩) p.lines.length p.lines.length) rfl (Or.inl ⟨oR,fun W h=>by have H:=h.2.1;clear h;go_simp⟩) a ?_;simp only[jj];refine tk 8 (.int .i64 f) rfl a ?_;simp only[jj];refine tk 9 (.pointer (some ⟨b,f,none⟩)) rfl a ?_;simp only[jj];refine Mem.tg 10 (.slice (some ⟨d,0,none⟩) l.length B) rfl (Or.inl ⟨oR,fun W h=>by have H:=h.2.2.1;clear h;go_simp⟩) a ?_;simp only[jj];refine tk 11 (.int .i64 j) rfl a ?_;simp only[jj];refine tk 12 (.pointer (some ⟨d,j,none⟩)) rfl a ?_;simp only[jj];refine Mem.tg 13 (.int .i64 z) rfl (Or.inl ⟨oR,fun W h=>by have H:=h.2.2.2;clear h;go_simp⟩) a ?_;simp only[jj];refine tk 14 (.pointer (some ⟨g3,z*20,none⟩)) rfl a ?_;simp only[jj];refine tk 15 (.pointer (some ⟨g3,z*20+9,none⟩)) rfl a ?_;simp only[jj];refine wpAnyH_ready (rs:=[16]) oK oS (AllReadyH.cons rfl (fun K hK=>?_) AllReadyH.nil);go_simp
    refine hK _ _ S6 (fun _=>?_);clear hK K a
    try simp only[Act.put]
    refine dw oK ?_ _;clear xa fa S0 N KD c G P;generalize World.drew (World.setCell _ _ _)=A at*;have am:V 3=.slice (some ⟨g3,0,none⟩) (((l.take j).foldl ds1 q1).task z 9 0).II.length cap3:=by rw[ap,LT.out];exact M
    have O:Hid (cb A.drew wb tag V (((l.take j).foldl ds1 q1).task z 9 0)):=hid (v.below (aD A 1));have KE:Hid (Kt tag tag W A.drew):=hid (Q.trans (.below (aD A 1)));have xb:=O.IS am (i:=z) (by rw[ap,LT.out];exact an) (show 14<20 by omega);have fb:=O.IT am (z*20+14);obtain⟨b2,af⟩:=O.task am (i:=z) (by rw[ap,LT.out];exact an) (show 14<20 by omega) (-1);have B7:=hid (show cb (A.setCell ⟨g3,z*20+14,none⟩ (.int .i64 (-1))).drew wb tag V ((l.take (j+1)).foldl ds1 q1) by
     rw[wt l j s,a4.out];unfold ds1;rw[ah];exact b2)
    have K7:=hid (show Kt tag tag W (A.setCell ⟨g3,z*20+14,none⟩ (.int .i64 (-1))).drew from KE.trans af);have C7:=hid (show (A.setCell ⟨g3,z*20+14,none⟩ (.int .i64 (-1))).drew.cell? ⟨b,f,none⟩=some (.slice (some ⟨d,0,none⟩) l.length B) from by
     show (A.setCell ⟨g3,z*20+14,none⟩ (.int .i64 (-1))).cell? ⟨b,f,none⟩=_
     rw[aO _ _ _ _ (by intro e;cases e;exact aB rfl)];exact C6)
    have a5:=hid (show ((l.take (j+1)).foldl ds1 q1).lines=p.lines by rw[fT];exact w.1);have aI:=hid (R.out _ _ O LN C6);have S7:=hid (R.out _ _ B7 a5 C7);clear b2 af am;go_upto_region 33 with fail
    refine wp_region_held_drew (S:=fun X=>X.cell? ⟨wb,3,none⟩=some (.slice (some ⟨g3,0,none⟩) p.II.length cap3)∧X.cell? ⟨wb,4,none⟩=some (.slice (some ⟨b,0,none⟩) p.lines.length p.lines.length)∧X.cell? ⟨b,f,none⟩=some (.slice (some ⟨d,0,none⟩) l.length B)∧X.cell? ⟨d,j,none⟩=some (.int .i64 z)) oK aI (fun ab=>?_);have a:=hid ab;clear ab;refine tk 0 (.pointer (some ⟨wb,0,none⟩)) rfl a ?_;simp only[jj];refine tk 1 (.pointer (some ⟨wb,0,none⟩)) rfl a ?_;simp only[jj];refine tk 2 (.pointer (some ⟨wb,3,none⟩)) rfl a ?_;simp only[jj];refine Mem.tg 3 (.slice (some ⟨g3,0,none⟩) p.II.length cap3) rfl (Or.inl ⟨oR,fun W h=>by have H:=h.1;clear h;go_simp⟩) a ?_;simp only[jj];refine tk 4 (.pointer (some ⟨wb,0,none⟩)) rfl a ?_;simp only[jj];refine tk 5 (.pointer (some ⟨wb,0,none⟩)) rfl a ?_;simp only[jj];refine tk 6 (.pointer (some ⟨wb,4,none⟩)) rfl a ?_;simp only[jj];refine Mem.tg 7 (.slice (some ⟨b,0,none⟩) p.lines.length p.lines.length) rfl (Or.inl ⟨oR,fun W h=>by have H:=h.2.1;clear h;go_simp⟩) a ?_;simp only[jj];refine tk 8 (.int .i64 f) rfl a ?_;simp only[jj];refine tk 9 (.pointer (some ⟨b,f,none⟩)) rfl a ?_;simp only[jj];refine Mem.tg 10 (.slice (some ⟨d,0,none⟩) l.length B) rfl (Or.inl ⟨oR,fun W h=>by have H:=h.2.2.1;clear h;go_simp⟩) a ?_;simp only[jj];refine tk 11 (.int .i64 j) rfl a ?_;simp only[jj];refine tk 12 (.pointer (some ⟨d,j,none⟩)) rfl a ?_;simp only[jj];refine Mem.tg 13 (.int .i64 z) rfl (Or.inl ⟨oR,fun W h=>by have H:=h.2.2.2;clear h;go_simp⟩) a ?_;simp only[jj];refine tk 14 (.pointer (some ⟨g3,z*20,none⟩)) rfl a ?_;simp only[jj];refine tk 15 (.pointer (some ⟨g3,z*20+14,none⟩)) rfl a ?_;simp only[jj];refine wpAnyH_ready (rs:=[16]) oK oS (AllReadyH.cons rfl (fun K hK=>?_) AllReadyH.nil);go_simp
    refine hK _ _ S7 (fun _=>?_);clear hK K a
    try simp only[Act.put]
    refine dw oK ?_ _;clear xb fb S6 aI S7 O KE v Q C6 R;generalize World.drew (World.setCell _ _ _)=W7 at*;go_wp2_with fail
    exact⟨⟨j+1,oA,by go_num,B7,K7,C7⟩,by simp[intOf];omega⟩
   ·obtain rfl:j=l.length:=oA;have bj:¬((l.length:Int)<(l.length:Int)):=oA;have aC:=hid (show cb wr wb tag V (l.foldl ds1 q1) by have h:=c.out;rw[cO] at h;exact h);have aE:=hid (fT l q1);generalize aV:l.foldl ds1 q1=F at*;have a2:=hid aV;have aq:=hid (show F.lines=p.lines by rw[aE.out];exact w.1);have ao:=hid (show F.bits=p.bits by rw[aE.out];exact w.2.1);clear c aG LT aV;have ar:V 4=.slice (some ⟨b,0,none⟩) F.lines.length F.lines.length:=by rw[aq.out];exact EL
    have fl:wr.frozen? ⟨b,f,none⟩=false:=by
     have Z:=aC.o.lines;rw[ar] at Z;exact Z.fr f
    obtain⟨b1,ad⟩:=aC.JE ar (j:=f) (by rw[aq.out];exact aZ);have v:=hid b1;have Q:=hid (G.trans ad);have al:V 5=.slice (some ⟨U,0,none⟩) ({F with lines:=F.lines.set f []}:PW).bits.length cap5:=by show V 5=.slice (some ⟨U,0,none⟩) F.bits.length cap5;rw[ao.out];exact E5
    have c5:(wr.setCell ⟨b,f,none⟩ (.slice none 0 0)).cell? ⟨wb,5,none⟩=some (.slice (some ⟨U,0,none⟩) p.bits.length cap5):=by rw[ai v.r (k:=5) rfl,E5.out]
    obtain⟨yb,xb⟩:∃y,(wr.setCell ⟨b,f,none⟩ (.slice none 0 0)).cell? ⟨U,f,none⟩=some y:=⟨_,v.JD al (i:=f) (by show f<F.bits.length;rw[ao.out];exact aY)⟩
    have fb:=v.JH al f;obtain⟨b2,af⟩:=v.Jb al f 0;have B7:=hid (show cb ((wr.setCell ⟨b,f,none⟩ (.slice none 0 0)).setCell ⟨U,f,none⟩ (.int .i64 0)) wb tag V (dsP q1 f) by
     unfold dsP;rw[w.1,HL.out,a2.out, <-aq.out,w.2.1, <-ao.out];exact b2)
    have K7:=hid (Q.trans af);clear b1 ad b2 af al ar P;go_upto_region 35 with fail
    generalize World.setCell _ _ _=A at*;clear c4 cl fl;go_upto_region 36 with fail
    generalize World.setCell _ _ _=W7 at*;clear c5 xb fb v Q;go_wp2_with fail
    refine (az.out _ _ B7).mono ?_;rintro r w9 ⟨rfl,bc,b9,k9⟩;have B9:=hid b9;have K9:=hid (K7.trans k9);clear b9 k9;go_wp2_with fail
    exact aH (aF rfl _ _ _) rfl ⟨rfl,bc,by rw[HR.out];exact B9,K9.out⟩
theorem ES {m:Nat} (p:PW) (f:Nat) (W:World) (wb:Nat) (tag:Nat->Nat) (V:Nat->Value) (hi:Inv p) (b:TL p) (hk:p.kinds[f]? =some 7) (a:gX p 7 f=false) (bt:cb W wb tag V p):
  Calls Tryz.prog 120 #[.pointer (some ⟨wb,0,none⟩),.int .i64 f] W fun r W'=>r=.returned (.tuple #[])∧∃tag',cb W' wb tag' V (gnF (drR m) p 7 f)∧Kt tag tag' W W':=wV (.inl rfl) p f W wb tag V hi b hk a bt
theorem EU {m:Nat} (p:PW) (f:Nat) (W:World) (wb:Nat) (tag:Nat->Nat) (V:Nat->Value) (hi:Inv p) (b:TL p) (hk:p.kinds[f]? =some 8) (a:gX p 8 f=false) (bt:cb W wb tag V p):
  Calls Tryz.prog 120 #[.pointer (some ⟨wb,0,none⟩),.int .i64 f] W fun r W'=>r=.returned (.tuple #[])∧∃tag',cb W' wb tag' V (gnF (drR m) p 8 f)∧Kt tag tag' W W':=wV (.inr rfl) p f W wb tag V hi b hk a bt
