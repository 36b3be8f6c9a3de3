/- Ubl -/
import Derived.BigQuiet
import Derived.Test.YtnccmdndkmmhcaaGreatDoorUbk
set_option maxRecDepth 100000
set_option maxHeartbeats 16000000
namespace Go.Proofs.YtnccmdndkmmhcaaGreatDoor
namespace Wd
open Go.RowKit Mem Bw Nums Mmu
theorem pX {p:PW} (i:Nat) (v:Int):(p.IL.set i v).length=p.IL.length:=au ..
theorem kR.set {p:PW} (h:kR p) {i:Nat} {v:Int} (hi:i<p.IL.length) (hv:0<=v∧v<=65535) (b:beB p (p.k (i/16)) v=false):kR {p with IL:=p.IL.set i v}:=by
 refine⟨fun x c=>?_,fun j a=>?_⟩
 ·rcases aZ c with g|g
  ·exact h.w x g
  ·rw[g];exact hv
 ·have a:j<p.IL.length:=by rwa [pX] at a
  show beB {p with IL:=p.IL.set i v} (p.k (j/16)) ((p.IL.set i v).getD j 0)=false
  rw[dx hi];split
  ·rename_i e;rw[e];exact b
  ·exact h.e j a
theorem Lw.word {p:PW} (h:Lw p) {i:Nat} {v:Int} (hi:i<p.IL.length) (hv:0<=v∧v<=65535) (g:beB p (p.k (i/16)) v=false) (d:p.k (i/16)=3∨p.k (i/16)=4->p.IL.getD i 0=0):Lw {p with IL:=p.IL.set i v}:=by
 obtain⟨r,o⟩:=h.m.keys;refine⟨⟨h.m.ks,h.m.ds,⟨r,o.to rfl rfl⟩,h.m.op,h.m.IL.set hi hv g,h.m.tk.same (h.m.tk.lf.of (e4:=pX i v))⟩,fun l hl=>(h.tl l hl).Js fun e n=>rT h.m.IL h.m.tk.lf (fun f a=>(lg (p:={p with IL:=p.IL.set i v}) (iN (p:=p) (by rw[a];decide))).trans (by show (p.k f==4)=true;rw[a];rfl)) (pX i v) (fun j b c=>?_) n,h.tm⟩;show (p.IL.set i v).getD j 0=_
 rw[dx hi,ae];intro e;rw[e] at b c;exact c (d b)
theorem Lv.word {p:PW} (h:Lv p) {i:Nat} {v:Int} (hi:i<p.IL.length) (hv:0<=v∧v<=65535) (b:beB p (p.k (i/16)) v=false) (a:p.k (i/16)=3∨p.k (i/16)=4->p.IL.getD i 0=0):Sm p {p with IL:=p.IL.set i v}:=h.to (h.w.word hi hv b a) rfl rfl rfl
theorem Lw.JO {p:PW} (h:Lw p) {i:Nat} (hi:i<p.IL.length):Lw (fwP {p with IL:=p.IL.set i 0} 0 (-1)):=by
 obtain⟨r,d⟩:=h.m.keys;have m:Md (fun _=>False) {p with IL:=p.IL.set i 0}:=⟨h.m.ks,h.m.ds,⟨r,d.to rfl rfl⟩,h.m.op,h.m.IL.set hi oD (fY.2 ⟨fun _=>.inl rfl,fun _=>.inl rfl⟩),h.m.tk.same (h.m.tk.lf.of (e4:=pX i 0))⟩;refine⟨m.IK oS,fun l hl=>?_,h.tm⟩;obtain⟨l0,b,rfl⟩:=List.mem_map.1 (show l∈p.IK.map _ from hl);refine (h.tl l0 b).filter fun e c a=>?_;have t:=(h.tl l0 b).t e c;unfold d7 at t ⊢;unfold kpE at a;simp only[am,bz,bg] at t a ⊢;rw[show e.2.1*16=16*e.2.1 by omega];exact⟨⟨t.1.1,t.1.2⟩,a.1⟩
theorem Lv.JO {p:PW} (h:Lv p) {i:Nat} (hi:i<p.IL.length):Sm p (fwP {p with IL:=p.IL.set i 0} 0 (-1)):=h.to (h.w.JO hi) rfl rfl (by show (p.IK.map _).length=_;simp)
theorem Lw.has {p:PW} (h:Lw p) {t:Nat} (a:p.k t=6) {k:Nat} {v:Int} (hk:k≠9∧k≠10∧k≠14∧k≠17∧k≠18) (hv:fOk p k v=true):Lw (p.task t k v):=h.tk (h.m.tk.JB a hv hk.2.2.2.1 (.inr ⟨hk.1,hk.2.1,hk.2.2.1,hk.2.2.2.2⟩) (fun e=>absurd e hk.1)) ((dR p).task _ _ _)
theorem Lv.has {p:PW} (h:Lv p) {t:Nat} (a:p.k t=6) {k:Nat} {v:Int} (hk:k≠9∧k≠10∧k≠14∧k≠17∧k≠18) (hv:fOk p k v=true):Sm p (p.task t k v):=h.rs (h.w.has a hk hv) ((dR p).task _ _ _)
theorem Lv.Jx {p:PW} (h:Lv p) {t:Nat} (a:p.k t=6) {k:Nat} {v:Int} (hk:k<=8) (hv:0<=v∧v<=65535):Sm p (p.task t k v):=h.rs (h.w.Jx a (.inl hk) hv) ((dR p).task _ _ _)
theorem Lv.JR {p:PW} (h:Lv p) {c:Nat} {l:List Ent} (hl:TlO p l):Sm p {p with IK:=p.IK.set c l}:=by
 refine h.to ⟨h.w.m.IK oS,fun m b=>?_,h.w.tm⟩ rfl rfl oS;have k:∀m,TlO p m->TlO {p with IK:=p.IK.set c l} m:=fun m g=>g.Js fun e a=>(iL (p:=p) (q:={p with IK:=p.IK.set c l}) rfl rfl e).trans a;rcases aZ b with g|g
 ·exact k m (h.w.tl m g)
 ·rw[g];exact k l hl
theorem Lw.tick {p:PW} (h:Lw p):Lw {p with time:=p.time+1}:=by
 obtain⟨r,b⟩:=h.m.keys;exact⟨⟨h.m.ks,h.m.ds,⟨r,b.to rfl rfl⟩,h.m.op,⟨h.m.IL.w,h.m.IL.e⟩,h.m.tk.same h.m.tk.lf.of⟩,fun l hl=>(h.tl l hl).Js fun e a=>(iL (p:=p) (q:={p with time:=p.time+1}) rfl rfl e).trans a,by show 0<=p.time+1;have:=h.tm;omega⟩
theorem yH {p:PW} (h:Lw p) {e:Ent} (l:d7 p e=true):∃f:Nat,e.2.2.1=f∧p.k f=2:=by
 unfold d7 at l;simp only[am,bz,bg] at l;obtain⟨⟨v,C⟩,⟨c,d⟩,_⟩:=l;obtain⟨s,o,A,q⟩:=fE v;rw[o] at c d;generalize E:e.2.1*16=a at*;have lf:=h.m.tk.lf;unfold en at c d;by_cases c1:¬inb p.IL.length s a
 ·rw[ag c1] at c;cases c
 rw[ae c1] at c d;by_cases c2:¬isE (e1 p.IL s a) (n16 p.IL)
 ·rw[ag c2] at c;cases c
 rw[ae c2] at c d;by_cases i:¬isE (e2 p.IL (e1 p.IL s a%1024) a) (n16 p.IL)
 ·rw[ag i] at c;cases c
 rw[ae i] at d;have D:0<=a∧a/256<=15:=oA;have z0:¬isE 0 (n16 p.IL):=by unfold isE;omega
 have w:((s:Int)*16+a/256).toNat<p.IL.length:=by have:=lf.IL;omega
 have b1:=(fY.1 (h.m.IL.e _ w)).1 (by rw[show ((s:Int)*16+a/256).toNat/16=s by omega];exact q);obtain⟨t,n,B,u⟩:=fE (b1.resolve_left fun y=>c2 (by unfold e1;rw[y];exact z0));have n:e1 p.IL s a - 32768=t:=n;have k2:=lf.k2;have z:e1 p.IL s a%1024=t:=oA;rw[z] at d i;have x:((t:Int)*16+a/16%16).toNat<p.IL.length:=by have:=lf.IL;omega
 have b2:=(fY.1 (h.m.IL.e _ x)).2 (by rw[show ((t:Int)*16+a/16%16).toNat/16=t by omega];exact u);have d:=d;rcases b2.resolve_left fun y=>i (by unfold e2;rw[y];exact z0) with b|b
 ·obtain⟨f,g,r,j⟩:=fE b;have g:e2 p.IL t a - 32768=f:=g;exact⟨f,oA,j⟩
 ·obtain⟨f,g,r,j⟩:=fE b;have g:e2 p.IL t a - 32768 - 16384=f:=g;exact⟨f,oA,j⟩
theorem Bs {z:Int} (a:0<=z) (b:z<=100000):wrap64 z=z:=by unfold wrap64;omega
theorem DG (zs:List Int) (s a:Int) (e:0<=a∧a<4096):en zs s (a/16*16)=en zs s a:=by
 have b:e1 zs s (a/16*16)=e1 zs s a:=by unfold e1;rw[show a/16*16/256=a/256 by omega]
 have d:∀t,e2 zs t (a/16*16)=e2 zs t a:=fun t=>by unfold e2;rw[show a/16*16/16%16=a/16%16 by omega]
 have hi:inb zs.length s (a/16*16)↔inb zs.length s a:=by unfold inb;omega
 unfold en;rw[b,d];by_cases c:inb zs.length s a
 ·rw[ae (not_not_intro (hi.2 c)),ae (not_not_intro c)]
 ·rw[ag (fun y=>c (hi.1 y)),ag c]
theorem TlO.fill {p:PW} {l:List Ent} (h:TlO p l) {e:Ent} (a:d7 p e=true):TlO p (sA l e):=by
 have f:∀x∈sA l e,x=e∨x∈ik l e.1 e.2.1:=fun x b=>by
  have:=List.mem_of_mem_drop b;rw[dH,dm] at this;exact this.symm
 refine⟨qS _,fun x b=>?_,?_⟩
 ·rcases f x b with g|g
  ·rw[g];exact a
  ·exact h.t x (List.mem_filter.1 g).1
 ·unfold sA lS;refine List.Pairwise.drop ?_;rw[List.pairwise_append];refine⟨h.d.filter _,List.pairwise_singleton _ _,fun x b y c=>?_⟩;rw[dm] at c;rw[c];have:=(List.mem_filter.1 b).2;obtain⟨_,i,_⟩:=(show isB p e.1 4=true∧(0<=e.2.1∧e.2.1<=255)∧True from by
   unfold d7 at a;simp only[am,bg] at a;exact⟨a.1.1,a.1.2,trivial⟩)
  unfold lr at this;unfold pg;have j:=i.1;simp[j] at this ⊢;omega
theorem xz {p:PW} (h:Lw p) {l:List Ent} (hl:TlO p l) {s a:Int} {wr:Bool} (j:fB p s 4=true) (c:(iS p.IL l s a wr).2.2=0):
  TlO p (iS p.IL l s a wr).2.1∧∃f:Nat,p.k f=2∧(iS p.IL l s a wr).1=f*16+a%16∧0<=a:=by
 unfold iS at c ⊢;by_cases c1:¬inb p.IL.length s a
 ·rw[ag c1] at c;cases c
 rw[ae c1] at c ⊢;have c1:=Decidable.not_not.1 c1;have o:0<=a∧a<4096:=⟨c1.2.2.2.2.1,c1.2.2.2.2.2⟩;by_cases c2:(pQ p.IL l s a).2.2≠0
 ·rw[ag c2] at c;exact absurd c c2
 rw[ae c2] at c ⊢;have c2:=Decidable.not_not.1 c2;by_cases n:wr=true∧(pQ p.IL l s a).1.2.2.2=false
 ·rw[ag n] at c;cases c
 rw[ae n];have key:TlO p (pQ p.IL l s a).2.1∧d7 p (pQ p.IL l s a).1=true:=by
  obtain⟨f,d⟩:∃f,jc l s (a/16)=f:=⟨_,rfl⟩
  obtain⟨e,ok⟩:=f
  cases ok with
  |true=>
   rw[rA d];refine⟨hl,hl.t e ?_⟩;unfold jc at d;split at d
   ·rename_i hlt;injection d with g _
    rw[<-g];exact av hlt
   ·injection d with _ g
    cases g
  |false=>
   obtain⟨g,i⟩:∃g,en p.IL s a=g:=⟨_,rfl⟩
   obtain⟨t,b,k⟩:=g;by_cases hk:k=0
   ·subst hk;rw[yj d i];have q:d7 p (s,a/16,t,b)=true:=by
     unfold d7;have v:isB p s 4=true:=by
      unfold fB at j;rw[cF] at j;exact j.resolve_left fun e=>by have:=eq_of_beq e;have:=c1.2.2.1;omega
     show (isB p s 4&&decide (0<=a/16∧a/16<=255)&&((en p.IL s (a/16*16)).2.2==0&&(en p.IL s (a/16*16)).1==t&&(en p.IL s (a/16*16)).2.1==b))=true
     rw[DG _ _ _ o,i,v,az oA];simp
    exact⟨hl.fill q,q⟩
   ·rw[Bd d i hk] at c2;exact absurd c2 hk
 refine⟨key.1,?_⟩;obtain⟨f,r,u⟩:=yH h key.2;have w:=iN (p:=p) (f:=f) oA;have k2:=h.m.tk.lf.k2;refine⟨f,u,?_,o.1⟩;show lT (pQ p.IL l s a).1.2.2.1 a=_
 rw[r];unfold lT;rw[Bs (z:=(f:Int)*16) oA oA,Bs oA oA]
def Rm (p q:PW):Prop:=Sm p q∧∃X R,q={p with IK:=X,IL:=R}
theorem Rm.refl {p:PW} (h:Lv p):Rm p p:=⟨Sm.refl h,_,_,rfl⟩
theorem Rm.trans {p q r:PW} (h:Rm p q) (g:Rm q r):Rm p r:=by
 obtain⟨a,X,R,rfl⟩:=h;obtain⟨b,Y,T,rfl⟩:=g;exact⟨a.trans b,Y,T,rfl⟩
def Tb (p:PW) (wb:Nat) (tag:Nat->Nat) (V:Nat->Value) (W W':World):Prop:=∃tag' q,Kt tag tag' W W'∧cb W' wb tag' V q∧Rm p q
theorem cb.JW {W:World} {wb:Nat} {tag:Nat->Nat} {V:Nat->Value} {p:PW} (bt:cb W wb tag V p) (h:Lv p):jW W (V 0) p.IL:=
 ⟨dN bt.o.IL.1,fun z a=>by have:=h.w.m.IL.w z a;omega,by have:=h.w.m.tk.lf.IL;have:=h.w.m.tk.lf.k2;omega⟩
theorem Lv.JX {p:PW} (h:Lv p) {c:Nat} (a:c<p.IK.length):TlO p (p.IK.getD c []):=h.w.tl _ (by rw[aa,ac a];exact av a)
theorem cb.JL {W W1:World} {wb:Nat} {tag:Nat->Nat} {V:Nat->Value} {p:PW} (bt:cb W wb tag V p) {g c:Nat} (e:V 8=.slice (some ⟨g,0,none⟩) p.IK.length p.IK.length) (f:c<p.IK.length) (a:Below W.heap.size W W1) {v u:Value} {l:List Ent}
  (hv:W.cell? ⟨g,c,none⟩=some v) (z:u=v∧l=p.IK.getD c []∨iD W.heap.size W1 u l):
  ∃tag',cb (W1.setCell ⟨g,c,none⟩ u) wb tag' V {p with IK:=p.IK.set c l}∧Kt tag tag' W (W1.setCell ⟨g,c,none⟩ u):=by
 have LT:jR W tag p.IK.length (.slice (some ⟨g,0,none⟩) p.IK.length p.IK.length) p.IK:=by rw[<-e];exact bt.o.IK
 obtain⟨v',A,w⟩:=LT.at f;obtain rfl:v=v':=aK (hv.symm.trans A);have B:Kp (fun b=>tag b=14+3*c) W W1:=.IM a;have t:InE W1 (gR tag W.heap.size (14+3*c)) (14+3*c) u l:=by
  rcases z with ⟨rfl,rfl⟩|⟨q,b,off,cap,m,n,d,r,C,s⟩
  ·exact w.kp (T:=fun _=>False) (.IM a) (fun k hk=>dO hk) (fun _ _=>id)
  ·obtain⟨j,rfl⟩:=n;exact .inr ⟨b,off,cap,m,d,by unfold gR;rw[ae oA],aj _ _ (d 0 j).1,r,s⟩
 obtain⟨y,h⟩:=LT.put f rfl B (fun b a=>dO a) t;refine⟨_,bt.IK h (fun b a=>dO a) (by rw[au,e];exact y),.of h (fun b x=>by rcases x with x|⟨i,x⟩<;>omega) (fun b a=>dO a)⟩
end Wd
namespace Rf
section
variable {P : Program} {ops : Array Oper} {Q : Exit -> Act -> World -> Prop} {md : Region.Mode} {S R : World -> Prop} {fs : List Nat}
theorem i4 (e:Region.noSelect ops=true) (w:World) (d:S w) (c:R w):∀(is:List Nat) (fuel:Nat) (b:Array Bool) (a:Act),tkS md ops fs is b=true->
  rd P ops Q S (fun f=>dK P md ops Q S R fs fuel (F0 b is) f w) is a->dK P md ops Q S R fs (fuel+is.length) b a w
 |[],_,_,_,_,h=>h
 |i::r,fuel,b,a,hb,h=>by
  unfold tkS at hb;simp only[am,dD] at hb;obtain⟨⟨g,j,k⟩,l⟩:=hb;unfold rd at h
  cases ho:ops[i]? with
  |none=>rw[ho] at h;exact h.elim
  |some o=>
   rw[ho] at h;obtain⟨v,p,m,n⟩:=h;exact ig ho e g j k m p d (fun _=>c) (i4 e w d c r fuel (b.setIfInBounds i true) (a.put o.dst v) l n)
theorem _root_.Go.Proofs.YtnccmdndkmmhcaaGreatDoor.bS:type_of% @i4:= @i4
end
end Rf
namespace Wd
open Go.RowKit Mem Bw Nums Mmu
def StR (b2 b3 b4 wb g0 n0 k0 g8 n8 gt nt kt c t:Nat) (v:Value) (s:Int) (W:World):Prop:=
 W.cell? ⟨b2,0,none⟩=some (.pointer (some ⟨wb,0,none⟩))∧W.cell? ⟨b3,0,none⟩=some (.int .i64 (c:Int))∧W.cell? ⟨b4,0,none⟩=some (.int .i64 (t:Int))∧W.cell? ⟨wb,0,none⟩=some (.slice (some ⟨g0,0,none⟩) n0 k0)∧W.cell? ⟨wb,8,none⟩=some (.slice (some ⟨g8,0,none⟩) n8 n8)∧W.cell? ⟨wb,3,none⟩=some (.slice (some ⟨gt,0,none⟩) nt kt)∧W.cell? ⟨g8,c,none⟩=some v∧W.cell? ⟨gt,t*20+12,none⟩=some (.int .i64 s)
theorem cu {b W:World} (h:Below b.heap.size b W) {a:Addr} {v:Value} (e:b.cell? a=some v):W.cell? a=some v:=(h.cell (aj _ _ e)).trans e
theorem StR.below {b2 b3 b4 wb b n0 f d g e nt kt c t:Nat} {v:Value} {s:Int} {W W':World} (h:StR b2 b3 b4 wb b n0 f d g e nt kt c t v s W) (a:Below W.heap.size W W'):StR b2 b3 b4 wb b n0 f d g e nt kt c t v s W':=by
 obtain⟨i,j,k,l,m,n,o,p⟩:=h;exact⟨cu a i,cu a j,cu a k,cu a l,cu a m,cu a n,cu a o,cu a p⟩
theorem Ih {wb:Nat} {tag:Nat->Nat} {V:Nat->Value} {p:PW} {W:World} (bt:cb W wb tag V p) (l:Lv p) {b2 b3 b4 c t:Nat} (j:c<p.IK.length) (n:t<p.kinds.length) (cs:je [(b2,ptr wb),(b3,.int .i64 (c:Int)),(b4,.int .i64 (t:Int))] tag W):
  ∃a e b d kt v,V 0=.slice (some ⟨a,0,none⟩) p.IL.length e∧V 8=.slice (some ⟨b,0,none⟩) p.IK.length p.IK.length∧V 3=.slice (some ⟨d,0,none⟩) p.II.length kt∧InE W tag (14+3*c) v (p.IK.getD c [])∧StR b2 b3 b4 wb a p.IL.length e b p.IK.length d p.II.length kt c t v (p.t t 12) W:=by
 have lf:=l.w.m.tk.lf;obtain⟨a,e,i⟩:∃g cap,V 0=.slice (some ⟨g,0,none⟩) p.IL.length cap:=bt.o.IL.form (by have:=lf.IL;show 0<p.IL.length;omega)
 obtain⟨d,kt,f⟩:∃g cap,V 3=.slice (some ⟨g,0,none⟩) p.II.length cap:=bt.o.II.form (by have:=lf.II;show 0<p.II.length;omega)
 obtain⟨b,e8⟩:=bt.o.IK.form;have h:=bt.o.IK;rw[e8] at h;obtain⟨v,hv,k⟩:=h.at j;refine⟨a,e,b,d,kt,v,i,e8,f,k,(cs (b2,ptr wb) oS).1,(cs (b3,.int .i64 (c:Int)) oS).1,(cs (b4,.int .i64 (t:Int)) oS).1,?_,?_,?_,hv,bt.IS f (by have:=lf.II;omega) oD⟩
 ·rw[<-i];exact ai bt.r rfl
 ·rw[<-e8];exact ai bt.r rfl
 ·rw[<-f];exact ai bt.r rfl
theorem iD.below {B:Nat} {w w':World} {v:Value} {l:List Ent} (h:iD B w v l) (d:Below w.heap.size w w'):iD B w' v l:=by
 obtain⟨q,b,off,cap,e,a,c,f,g,i,j⟩:=h;have k:b<w.heap.size:=aj _ _ (c 0 a.1).1;exact⟨q,b,off,cap,e,a,c.below d,f,g,i,fun o=>((Kp.IM (T:=fun _=>False) d).frozen (p:=⟨b,o,none⟩) k id).trans (j o)⟩
theorem CC (wb:Nat) (tag:Nat->Nat) (V:Nat->Value) (p:PW) (b2 b3 b4 c t:Nat) (a:Int) (w:World) (bt:cb w wb tag V p) (j:Lv p) (J:c<p.IK.length) (h6:p.k t=6) (cs:je [(b2,ptr wb),(b3,.int .i64 (c:Int)),(b4,.int .i64 (t:Int))] tag w):
  Calls Tryz.prog 127 #[.int .i64 a,ptr b2,ptr b3,ptr b4] w fun r w'=>∃(v:Int) (ok:Bool),r=.returned (.tuple #[.int .i64 v,.bool ok])∧(0<=v∧v<=65535)∧Tb p wb tag V w w':=by
 have ht:=iN (p:=p) (f:=t) (by rw[h6];decide);obtain⟨A,M,B,gt,kt,v,Z,e8,e3,ag,hr⟩:=Ih bt j J ht cs;obtain⟨L,hL⟩:∃L,iS p.IL (p.IK.getD c []) (p.t t 12) a false=L:=⟨_,rfl⟩
 have TL:=j.JX J;have hs:fB p (p.t t 12) 4=true:=j.w.m.tk.a.ok t h6 12 oD;have T:=hid (xz j.w TL (wr:=false) (a:=a) hs);obtain⟨x,l',e⟩:=L;rw[hL] at T;have lf:=j.w.m.tk.lf;have z:=hid (show Below w.heap.size w w.drew from aD w 1);have X:=bt.JW j;rw[Z] at X;have ae:=(ag.JR (by have:=TL.n;omega)).1;obtain⟨F,E,kv,ev⟩:∃q n k,v=.slice q n k:=by obtain⟨q,b,off,cap,h,_⟩:=ae;exact⟨_,_,_,h⟩
 subst ev;have U:=oj (.slice (some ⟨A,0,none⟩) p.IL.length M) (.slice F E kv) p.IL (p.IK.getD c []) (p.t t 12) a false w.drew (X.below z) (ae.below z);rw[hL] at U;have LK:=hid U;have Q:=hid bt;have CS:=hid cs;have y:=hid j;have E0:=hid Z;have E8:=hid e8;have HC:=hid J;have H1:=hid hr;have i:=hid (hr.below z);have ax:(c:Int)<(p.IK.length:Int):=oA;have aF:(t:Int)<(p.II.length:Int):=by have:=lf.II;omega
 have ay:(p.IK.length:Int)<=1000:=by have:=lf.IK;have:=lf.c2;omega
 have aG:(p.II.length:Int)<=1000:=by have:=lf.II;have:=lf.k2;omega
 have aw:(0:Int)<=(c:Int):=oA;have aE:(0:Int)<=(t:Int):=oA;generalize p.t t 12=s at*;clear bt cs j Z e8 e3 ag hr hL U lf X ae hs TL ht J h6;unfold ptr;go_enter Tryz.func127,Tryz.ntmps127
 go_wp2_with fail
 refine Rf.ei (S:=StR b2 b3 b4 wb A p.IL.length M B p.IK.length gt p.II.length kt c t (.slice F E kv) s) (R:=fun _=>True) [] oK i trivial (fun _ _=>?_);generalize w.drew=w1 at*;refine bS oK _ i trivial [0,4,8,11,15] 23 _ _ oK ?_
 repeat (refine Rf.rs ?_;simp only[jj])
 refine aL ?_;refine bS oK _ i trivial [1,2,5,6,12,13,19] 16 _ _ oK ?_
 repeat (refine Rf.rs ?_;simp only[jj])
 refine aL ?_;refine bS oK _ i trivial [3,7,14] 13 _ _ oK ?_
 repeat (refine Rf.rs ?_;simp only[jj])
 refine aL ?_;refine bS oK _ i trivial [9,16,17] 10 _ _ oK ?_
 repeat (refine Rf.rs ?_;simp only[jj])
 refine aL ?_;refine bS oK _ i trivial [10,18] 8 _ _ oK ?_
 repeat (refine Rf.rs ?_;simp only[jj])
 refine aL ?_;refine Rf.r1 20 rfl (fun K C=>?_);refine wnt oR ?_;go_simp
 refine LK.mono ?_;rintro r w2 ⟨u,rfl,hT,hb⟩;have G:=hid (i.below hb);have O:=hid (btr z hb);have T2:=hid (fun (I:e=0)=>show _∨_ from (hT I).elim Or.inl fun g=>Or.inr (g.low z.size));clear hT hb LK i;go_wp2_with fail
 refine C _ _ G (fun _=>trivial) (fun _ _=>?_);clear C K
 try simp only[jj]
 refine bS oK _ G trivial [21,22,23,24,25,26,27] 0 _ _ oK ?_
 repeat (refine Rf.rs ?_;simp only[jj])
 refine aL ?_;refine bc oK ?_ _;by_cases I:e=0
 ·subst I;obtain⟨ah,f,ab,hx,am⟩:=T.out rfl;have Y:=hid (T2.out rfl);have HX:=hid hx;have hk:=ab;obtain⟨d,D⟩:∃d:Nat,d=f*16+(a%16).toNat:=⟨_,rfl⟩
  have an:x=(d:Int):=oA;subst an;have af:d<p.IL.length:=by
   have:=iN (p:=p) (f:=f) (by rw[ab];decide);have:=y.w.m.tk.lf.IL;omega
  have HD:=hid af;have aA:(d:Int)<(p.IL.length:Int):=oA;have az:(0:Int)<=(d:Int):=oA;have aB:(p.IL.length:Int)<=1000:=by have:=y.w.m.tk.lf.IL;have:=y.w.m.tk.lf.k2;omega
  have aq:=hid (show d/16=f∧p.k f=2 by omega);have HL:=hid ah;obtain⟨qu,nu,ku,hu⟩:∃q n k,u=.slice q n k:=by
   rcases Y.out with g|g
   ·exact⟨_,_,_,g.1⟩
   ·obtain⟨q,b,off,cap,h,_⟩:=g;exact⟨_,_,_,h⟩
  subst hu;clear hx af ab hk ah D am T2 T;go_upto_region 4 with fail
  have P:=hid (show Below w2.heap.size w2 w2.drew from aD w2 1);have B3:=hid (btr O P);have W:=hid (G.below P);have FZ:=hid (show w2.drew.frozen? ⟨B,c,none⟩=false from by
   have h2:=(Q.below B3).o.IK;rw[E8.out] at h2;exact h2.fr c)
  have PT:=hid (Q.JL E8 HC B3 (v:=.slice F E kv) (u:=.slice qu nu ku) (l:=l') H1.2.2.2.2.2.2.1 (Y.elim .inl fun g=>.inr (iD.below g P)));refine bI (R:=StR b2 b3 b4 wb A p.IL.length M B p.IK.length gt p.II.length kt c t (.slice F E kv) s) [7] [0,1,2,3,4,5,6] 1 oK W oK oK oK (fun _=>?_);generalize w2.drew=w3 at*
  repeat (refine Rf.rs ?_;simp only[jj])
  refine aL ?_;refine Rf.r1 7 rfl (fun K C=>?_);have y4:w3.cell? ⟨B,c,none⟩=some (.slice F E kv):=W.2.2.2.2.2.2.1;have fz:=FZ.out;go_simp
  refine C _ _ trivial (bX oK) (fun _ _=>?_);clear C K y4 fz
  try simp only[jj]
  refine bc oK ?_ _;obtain⟨ap,H,ad⟩:=PT.out;generalize w3.setCell ⟨B,c,none⟩ (Value.slice qu nu ku)=N at*;have y0:N.cell? ⟨b2,0,none⟩=some (.pointer (some ⟨wb,0,none⟩)):=((CS.kt ad) (b2,ptr wb) oS).1;have y1:N.cell? ⟨wb,0,none⟩=some (.slice (some ⟨A,0,none⟩) p.IL.length M):=by rw[<-E0.out];exact ai H.r rfl
  obtain⟨y2,aj⟩:N.cell? ⟨A,d,none⟩=some (.int .i64 (p.IL.getD d 0))∧0<=p.IL.getD d 0∧p.IL.getD d 0<=65535:=by
   have D:=HD.out;obtain⟨q,b,o,k,e,hq,ao⟩:=dN H.o.IL.1;rw[E0.out] at e
   cases e
   have h9:=hq (by show 0<p.IL.length;omega)
   cases h9
   have h8:=ao d D;rw[aC] at h8;rw[aa,ac D];exact⟨h8,y.w.m.IL.w _ (av D)⟩
  have al:=hid (show Tb p wb tag V w N from⟨ap,_,ad,H,y.JR HL,_,_,rfl⟩);have HR:=hid aj;clear aj H ad PT W FZ H1 Y G;generalize p.IL.getD d 0=vv at*;go_wp2_with fail
  refine ar (v:=.tuple #[.int .i64 vv,.bool true]) (by simp[results,Tryz.results127,go_sem]) rfl ⟨vv,true,rfl,HR.out,al.out⟩
 ·have au:(e==0)=false:=by simp[I]
  go_wp2_with fail
  refine ar (v:=.tuple #[.int .i64 0,.bool false]) (by simp[results,Tryz.results127,go_sem]) rfl ⟨0,false,rfl,oD,tag,p,bp O,Q.below O,Rm.refl y⟩
theorem Av (wb:Nat) (tag:Nat->Nat) (V:Nat->Value) (p:PW) (b2 b3 b4 c t:Nat) (a:Int) (v0:Int) (ah:0<=v0∧v0<=65535) (w:World) (bt:cb w wb tag V p) (A:Lv p) (Q:c<p.IK.length) (h6:p.k t=6) (cs:je [(b2,ptr wb),(b3,.int .i64 (c:Int)),(b4,.int .i64 (t:Int))] tag w):
  Calls Tryz.prog 129 #[.int .i64 a,.int .i64 v0,ptr b2,ptr b3,ptr b4] w fun r w'=>∃ok:Bool,r=.returned (.bool ok)∧Tb p wb tag V w w':=by
 have ht:=iN (p:=p) (f:=t) (by rw[h6];decide);obtain⟨B,T,G,gt,kt,v,e0,e8,e3,af,hr⟩:=Ih bt A Q ht cs;obtain⟨L,hL⟩:∃L,iS p.IL (p.IK.getD c []) (p.t t 12) a true=L:=⟨_,rfl⟩
 have TL:=A.JX Q;have hs:fB p (p.t t 12) 4=true:=A.w.m.tk.a.ok t h6 12 oD;have Z:=hid (xz A.w TL (wr:=true) (a:=a) hs);obtain⟨x,l',e⟩:=L;rw[hL] at Z;have lf:=A.w.m.tk.lf;have E:=hid (show Below w.heap.size w w.drew from aD w 1);have RI:=bt.JW A;rw[e0] at RI;have ad:=(af.JR (by have:=TL.n;omega)).1;obtain⟨J,I,kv,ev⟩:∃q n k,v=.slice q n k:=by obtain⟨q,b,off,cap,h,_⟩:=ad;exact⟨_,_,_,h⟩
 subst ev;have aa:=oj (.slice (some ⟨B,0,none⟩) p.IL.length T) (.slice J I kv) p.IL (p.IK.getD c []) (p.t t 12) a true w.drew (RI.below E) (ad.below E);rw[hL] at aa;have LK:=hid aa;have X:=hid bt;have CS:=hid cs;have F:=hid A;have Y:=hid e0;have E8:=hid e8;have HC:=hid Q;have H1:=hid hr;have j:=hid (hr.below E);have ax:(c:Int)<(p.IK.length:Int):=oA;have aF:(t:Int)<(p.II.length:Int):=by have:=lf.II;omega
 have ay:(p.IK.length:Int)<=1000:=by have:=lf.IK;have:=lf.c2;omega
 have aG:(p.II.length:Int)<=1000:=by have:=lf.II;have:=lf.k2;omega
 have aw:(0:Int)<=(c:Int):=oA;have aE:(0:Int)<=(t:Int):=oA;generalize p.t t 12=s at*;clear bt cs A e0 e8 e3 af hr hL aa lf RI ad hs TL ht Q h6;unfold ptr;go_enter Tryz.func129,Tryz.ntmps129
 go_wp2_with fail
 refine Rf.ei (S:=StR b2 b3 b4 wb B p.IL.length T G p.IK.length gt p.II.length kt c t (.slice J I kv) s) (R:=fun _=>True) [] oK j trivial (fun _ _=>?_);generalize w.drew=w1 at*;refine bS oK _ j trivial [0,4,8,11,15] 23 _ _ oK ?_
 repeat (refine Rf.rs ?_;simp only[jj])
 refine aL ?_;refine bS oK _ j trivial [1,2,5,6,12,13,19] 16 _ _ oK ?_
 repeat (refine Rf.rs ?_;simp only[jj])
 refine aL ?_;refine bS oK _ j trivial [3,7,14] 13 _ _ oK ?_
 repeat (refine Rf.rs ?_;simp only[jj])
 refine aL ?_;refine bS oK _ j trivial [9,16,17] 10 _ _ oK ?_
 repeat (refine Rf.rs ?_;simp only[jj])
 refine aL ?_;refine bS oK _ j trivial [10,18] 8 _ _ oK ?_
 repeat (refine Rf.rs ?_;simp only[jj])
 refine aL ?_;refine Rf.r1 20 rfl (fun K H=>?_);refine wnt oR ?_;go_simp
 refine LK.mono ?_;rintro r w2 ⟨u,rfl,hT,hb⟩;have N:=hid (j.below hb);have U:=hid (btr E hb);have T2:=hid (fun (P:e=0)=>show _∨_ from (hT P).elim Or.inl fun g=>Or.inr (g.low E.size));clear hT hb LK j;go_wp2_with fail
 refine H _ _ N (fun _=>trivial) (fun _ _=>?_);clear H K
 try simp only[jj]
 refine bS oK _ N trivial [21,22,23,24,25,26,27] 0 _ _ oK ?_
 repeat (refine Rf.rs ?_;simp only[jj])
 refine aL ?_;refine bc oK ?_ _;by_cases P:e=0
 ·subst P;obtain⟨ag,f,ab,hx,am⟩:=Z.out rfl;have T3:=hid (T2.out rfl);have HX:=hid hx;have hk:=ab;obtain⟨d,hd⟩:∃d:Nat,d=f*16+(a%16).toNat:=⟨_,rfl⟩
  have an:x=(d:Int):=oA;subst an;have ae:d<p.IL.length:=by
   have:=iN (p:=p) (f:=f) (by rw[ab];decide);have:=F.w.m.tk.lf.IL;omega
  have HD:=hid ae;have aA:(d:Int)<(p.IL.length:Int):=oA;have az:(0:Int)<=(d:Int):=oA;have aB:(p.IL.length:Int)<=1000:=by have:=F.w.m.tk.lf.IL;have:=F.w.m.tk.lf.k2;omega
  have C:=hid (show d/16=f∧p.k f=2 by omega);have HL:=hid ag;obtain⟨qu,nu,ku,hu⟩:∃q n k,u=.slice q n k:=by
   rcases T3.out with g|g
   ·exact⟨_,_,_,g.1⟩
   ·obtain⟨q,b,off,cap,h,_⟩:=g;exact⟨_,_,_,h⟩
  subst hu;clear hx ae ab hk ag hd am T2 Z;go_upto_region 4 with fail
  have W:=hid (show Below w2.heap.size w2 w2.drew from aD w2 1);have B3:=hid (btr U W);have R3:=hid (N.below W);have FZ:=hid (show w2.drew.frozen? ⟨G,c,none⟩=false from by
   have D:=(X.below B3).o.IK;rw[E8.out] at D;exact D.fr c)
  have PT:=hid (X.JL E8 HC B3 (v:=.slice J I kv) (u:=.slice qu nu ku) (l:=l') H1.2.2.2.2.2.2.1 (T3.elim .inl fun g=>.inr (iD.below g W)));refine bI (R:=StR b2 b3 b4 wb B p.IL.length T G p.IK.length gt p.II.length kt c t (.slice J I kv) s) [7] [0,1,2,3,4,5,6] 1 oK R3 oK oK oK (fun _=>?_);generalize w2.drew=w3 at*
  repeat (refine Rf.rs ?_;simp only[jj])
  refine aL ?_;refine Rf.r1 7 rfl (fun K H=>?_);have y4:w3.cell? ⟨G,c,none⟩=some (.slice J I kv):=R3.2.2.2.2.2.2.1;have fz:=FZ.out;go_simp
  refine H _ _ trivial (bX oK) (fun _ _=>?_);clear H K y4 fz
  try simp only[jj]
  refine bc oK ?_ _;obtain⟨aq,O,ac⟩:=PT.out;generalize w3.setCell ⟨G,c,none⟩ (Value.slice qu nu ku)=M at*;have y0:M.cell? ⟨b2,0,none⟩=some (.pointer (some ⟨wb,0,none⟩)):=((CS.kt ac) (b2,ptr wb) oS).1;have y1:M.cell? ⟨wb,0,none⟩=some (.slice (some ⟨B,0,none⟩) p.IL.length T):=by rw[<-Y.out];exact ai O.r rfl
  obtain⟨y2,au⟩:(∃z:Int,M.cell? ⟨B,d,none⟩=some (.int .i64 z))∧M.frozen? ⟨B,d,none⟩=false:=by
   have hd:=HD.out;have D:=O.o.IL;rw[Y.out] at D;obtain⟨q,b,o,k,e,hq,ao⟩:=dN D.1
   cases e
   have h9:=hq (by show 0<p.IL.length;omega)
   cases h9
   have h8:=ao d hd;rw[aC] at h8;exact⟨⟨_,h8⟩,D.frozen d⟩
  obtain⟨z0,y2⟩:=y2;have aj:=hid (show Tb p wb tag V w (M.setCell ⟨B,d,none⟩ (.int .i64 v0)) from by
   obtain⟨al,ap⟩:=O.IU Y d v0;have s1:=F.JR (c:=c) HL;have s2:=s1.w.word (i:=d) (v:=v0) HD ah (fY.2 ⟨fun y=>by rw[C.1] at y;have:=C.2;have y:p.k f=4:=y;omega,fun y=>by rw[C.1] at y;have:=C.2;have y:p.k f=3:=y;omega⟩) (fun y=>by rw[C.1] at y;have:=C.2;have y:p.k f=3∨p.k f=4:=y;omega);exact⟨aq,_,ac.trans ap,al,s1.trans s2,_,_,rfl⟩)
  clear O ac PT R3 FZ H1 T3 N ah;go_wp2_with fail
  refine ar (v:=.bool true) (by simp[results,Tryz.results129,go_sem]) rfl ⟨true,rfl,aj.out⟩
 ·have av:(e==0)=false:=by simp[P]
  go_wp2_with fail
  refine ar (v:=.bool false) (by simp[results,Tryz.results129,go_sem]) rfl ⟨false,rfl,tag,p,bp U,X.below U,Rm.refl F⟩
theorem pW (p:PW) (n a:Int):(sAt p n a).2=0∨(sAt p n a).2=2∨(sAt p n a).2=3:=by
 unfold sAt;split
 ·split
  ·split
   ·exact .inl rfl
   ·split
    ·exact .inl rfl
    ·exact .inr (.inr rfl)
  ·exact .inr (.inl rfl)
 ·exact .inr (.inr rfl)
theorem gD (p:PW) (n a k r:Int):0<=(kAt p n a k r).2∧(kAt p n a k r).2<=13:=by
 unfold kAt;by_cases h:(sAt p n a).2=0
 ·rw[ag h];unfold kOf;split
  ·decide
  ·split
   ·split
    ·exact⟨Int.le_refl 0,show (0:Int)<=13 by decide⟩
    ·decide
   ·decide
 ·rw[ae h];have:=pW p n a;show 0<=(sAt p n a).2∧(sAt p n a).2<=13
  omega
theorem kE {p:PW} (h:Lw p) {n a k r:Int} (hk:2<=k) (e:(kAt p n a k r).2=0):∃f:Nat,(kAt p n a k r).1 1=f∧p.k f=k:=by
 obtain⟨u,o⟩:=h.m.keys;unfold kAt at e ⊢;by_cases b:(sAt p n a).2=0
 ·rw[ag b] at e ⊢;generalize (sAt p n a).1.toNat=i at e ⊢;have c:∀j,j<6->p.IH.getD i ft j=p.s i j:=fun j t=>by
   show p.IH.getD i ft j=p.IH.getD i eS j
   rw[aa,aa]
   cases p.IH[i]? with
   |some x=>rfl
   |none=>show ft j=eS j;unfold ft eS;rw[ae oA]
  unfold kOf at e ⊢;have s0:=c 0 oD;have q:=c 1 oD;by_cases c0:p.IH.getD i ft 0=0
  ·rw[ag c0] at e;cases e
  rw[ae c0] at e ⊢;by_cases c1:p.IH.getD i ft 0=k
  ·rw[ag c1] at e ⊢;split at e
   ·rename_i c2;rw[ag c2];have d:=(o.key i (by rw[<-s0];exact c0)).is;rw[<-s0, <-q,c1] at d;obtain⟨f,g,_,l⟩:=fE (d.resolve_left oA);exact⟨f,g,l⟩
   ·cases e
  ·rw[ae c1] at e;cases e
 ·rw[ae b] at e;exact absurd e b
theorem wA {p:PW} (h:Lw p) {f j:Nat} (a:p.k f=4) (i:j<16) (c:p.IL.getD (f*16+j) 0≠0):∃t:Nat,p.IL.getD (f*16+j) 0=32768+t∧p.k t=3:=by
 have lf:=h.m.tk.lf;have g:=iN (p:=p) (f:=f) (by rw[a];decide);have hl:f*16+j<p.IL.length:=by have:=lf.IL;omega
 have b1:=(fY.1 (h.m.IL.e _ hl)).1 (by rw[show (f*16+j)/16=f by omega];exact a);obtain⟨t,d,_,b⟩:=fE (b1.resolve_left c);exact⟨t,oA,b⟩
theorem CB (wb:Nat) (tag:Nat->Nat) (V:Nat->Value) (p:PW) (d:Int) (g:Nat->Int) (w:World) (bt:cb w wb tag V p) (D:Lv p) (hg:∀k,k<8->0<=g k∧g k<=65535):
  Calls Tryz.prog 238 #[.pointer (some ⟨wb,0,none⟩),.int .i64 d,.agg (cf 8 g).toArray] w fun r w'=>Okd p wb tag w r w':=by
 have lf:=D.w.m.tk.lf;have HV:=hid (bt.view D.w.fits D.w.I8);have y:=hid bt;have c:=hid D;obtain⟨F,k0,e0⟩:∃g cap,V 0=.slice (some ⟨g,0,none⟩) p.IL.length cap:=bt.o.IL.form (by have:=lf.IL;have:=lf.k1;show 0<p.IL.length;omega)
 have M:=hid e0;have S:=hid (bal (af w.heap.size w) (.cells (cf 8 g).toArray 35));have Y:=hid (hY w (cf 8 g) 35 _ rfl);obtain⟨a,ha⟩:∃a:Nat,g 3=a:=⟨(g 3).toNat,by have:=(hg 3 oD).1;omega⟩
 have a5:a<=65535:=by have:=(hg 3 oD).2;omega
 have t2:=ai Y (dk 8 g 2 oD);have KA:=hid (fC wb V p d (g 2) 4 2 _ (HV.below S) D.s);have ER:=hid (gD p d (g 2) 4 2);have ET:=hid (fun h=>kE D.w (n:=d) (a:=g 2) (k:=4) (r:=2) oD h);have S0:=hid (show (w.alloc (.cells (cf 8 g).toArray 35)).heap.size=w.heap.size+1 by simp);go_enter Tryz.func238,Tryz.ntmps238
 go_wp2_with fail
 generalize World.alloc _ _=w1 at S Y t2 KA S0 ⊢;refine KA.mono ?_;rintro r w2 ⟨rfl,hb⟩;have B2:=hid (btr S hb);have T2:=hid (bf Y hb);have S2:=hid (show w.heap.size<w2.heap.size by have:=hb.size;have:=S0.out;omega);generalize (kAt p d (g 2) 4 2).2=E at*;generalize (kAt p d (g 2) 4 2).1=K at*;have K3:=hid (fun o=>aM (T:=fun _=>False) (w:=w) (b:=w2.heap.size) (.inr (Nat.le_of_lt S2)) (cf 6 K) 0 _ ((Kp.IM B2).alloc o));have T3:=hid (fun o=>World.rangeAt_setCells_apart (World.rangeAt_alloc T2 o) w2.heap.size 0 (cf 6 K) (.inl (Nat.ne_of_lt S2)));have X3:=hid (fun z u (hz:6<=z.size)=>World.rangeAt_setCells_same (w2.alloc (.cells z u)) w2.heap.size 0 (cf 6 K) (by rw[ay];exact aP w2 z u _ 6 rfl hz));go_upto_region 2 with ((with_reducible refine gst 32 ?_);refine gQ rfl _ _ rfl w2.heap.size 0 rfl (cf 6 K) rfl (ay _ _) (bQ _ _) (aP _ _ _ _ _ oS oD) ?_)
 generalize Z:World.setCells _ _ _ _=x;have N:=hid (show Kp (fun _=>False) w x by rw[<-Z];exact K3 _);have T4:=hid (show x.rangeAt w.heap.size 0 (cf 8 g) by rw[<-Z];exact T3 _);have X4:=hid (show x.rangeAt w2.heap.size 0 (cf 6 K) by rw[<-Z];exact X3 _ _ oS);by_cases hE:E=0
 case neg=>
  have a4:(E==0)=false:=by simp[hE]
  go_wp2_with fail
  refine ar (v:=.int .i64 (E)) (by simp[results,Tryz.results238,go_sem]) rfl ⟨E,rfl,ER.out,dt c y N.all⟩
 case pos=>
  subst hE;obtain⟨f,aN,aO⟩:=ET.out rfl;have aj:=hid aO;have I:=ai T4 (dk 8 g 3 oD);rw[ha] at I;by_cases a3:255<a
  ·have aI:(255:Int)<(a:Int):=oA;go_wp2_with fail
   refine ar (v:=.int .i64 (2)) (by simp[results,Tryz.results238,go_sem]) rfl ⟨2,rfl,oD,dt c y N.all⟩
  ·have aI:¬(255:Int)<(a:Int):=oA;have lf:=c.w.m.tk.lf;have aQ:=iN (p:=p) (f:=f) (by rw[aj.out];decide);obtain⟨B,al⟩:∃e:Nat,p.IL.getD (f*16+a/16) 0=e:=⟨(p.IL.getD (f*16+a/16) 0).toNat,by
    have:=(c.w.m.IL.w _ (av (show f*16+a/16<p.IL.length by have:=lf.IL;omega))).1;rw[aa,ac (show f*16+a/16<p.IL.length by have:=lf.IL;omega)];simp only[aT];omega⟩
   have ag:=hid (y.below N.all);have ax:∀i,i<p.IL.length->x.cell? ⟨F,i,none⟩=some (.int .i64 (p.IL.getD i 0)):=fun i hi=>by
    obtain⟨q,b,o,k,e,hq,ad⟩:=dN ag.o.IL.1;rw[M.out] at e
    cases e
    have h9:=hq oA
    cases h9
    have h8:=ad i hi;rw[aC] at h8;rw[aa,ac hi];exact h8
   have Q:x.cell? ⟨wb,0,none⟩=some (.slice (some ⟨F,0,none⟩) p.IL.length k0):=by rw[<-M.out];exact ai ag.r rfl
   have y1:x.cell? ⟨w2.heap.size,1,none⟩=some (.int .i64 (f:Int)):=by rw[<-aN];exact ai X4 (dk 6 K 1 oD)
   have P:f*16+a/16<p.IL.length:=by have:=lf.IL;omega
   have J:=ax _ P;rw[al] at J;have a7:(f:Int)<=1000:=by have:=lf.k2;omega
   have ba:(p.IL.length:Int)<=1000:=by have:=lf.IL;have:=lf.k2;omega
   have RC:=hid ax;have ah:=hid al;have a0:=hid P;have a2:=hid aQ;obtain⟨j,hj⟩:∃j:Nat,f*16+a/16=j:=⟨_,rfl⟩
   rw[hj] at J P;have aJ:(j:Int)<(p.IL.length:Int):=oA;have aK:(0:Int)<=(j:Int):=oA;have aS:(f:Int)*16+(a:Int)/16=(j:Int):=oA;have HJ:=hid hj;clear hj P;have KC:=hid (fun W (h:Below x.heap.size x W)=>(⟨cu h I,cu h Q,cu h y1,cu h J⟩:_∧_∧_∧_));go_upto_region 6 with fail
   refine bj oK oK ?_
   repeat (first|go_big_quiet_skip|(go_big_quiet_want;go_big_quiet_op;first|go_big_quiet_on|go_big_quiet_call (fail)))
   refine cJ ?_;intro _ G;obtain⟨nq,H⟩:=G;subst H;have U:=hid (aG (af x.heap.size x) nq);clear Q y1 J I;obtain⟨I,Q,y1,J⟩:=KC.out _ U;generalize x.drewN nq=O at*;have BB:=hid (btr N.all U);by_cases an:B=0
   ·subst an;have ad:((((0:Nat):Int))==0)=true:=rfl;go_upto_region 7 with fail
    refine bj oK oK ?_
    repeat (first|go_big_quiet_skip|(go_big_quiet_want;go_big_quiet_op;first|go_big_quiet_on|go_big_quiet_call (fail)))
    refine cJ ?_;intro _ G;obtain⟨nq,H⟩:=G;subst H;have C:=hid (aG BB nq);generalize O.drewN nq=A at*;go_wp2_with fail
    refine ar (v:=.int .i64 (9)) (by simp[results,Tryz.results238,go_sem]) rfl ⟨9,rfl,oD,dt c y C⟩
   ·have ad:((B:Int)==0)=false:=by simp;omega
    obtain⟨t,aq,aw⟩:=wA c.w (f:=f) (j:=a/16) aj oA (by rw[ah.out];omega);rw[ah.out] at aq;have aV:=iN (p:=p) (f:=t) (by rw[aw];decide);have lf:=c.w.m.tk.lf;obtain⟨m,hm⟩:∃m:Nat,t*16+a%16=m:=⟨_,rfl⟩
    have ab:m<p.IL.length:=by have:=lf.IL;omega
    have aU:(B:Int)%1024*16+(a:Int)%16=(m:Int):=by have:=lf.k2;omega
    have a8:(m:Int)<(p.IL.length:Int):=oA;have a9:(0:Int)<=(m:Int):=oA;have a6:(B:Int)<=65535:=by have:=lf.k2;omega
    obtain⟨pv,ap⟩:∃z,p.IL.getD m 0=z:=⟨_,rfl⟩
    have y3:=cu U (RC.out m ab);rw[ap] at y3;have az:=hid ab;clear aq aw aV lf hm ab ap an aS aJ aK;go_upto_region 7 with fail
    refine bj oK oK ?_
    repeat (first|go_big_quiet_skip|(go_big_quiet_want;go_big_quiet_op;first|go_big_quiet_on|go_big_quiet_call (fail)))
    refine cJ ?_;intro _ G;obtain⟨nq,H⟩:=G;subst H;have C:=hid (aG (af O.heap.size O) nq);have b0:=cu C Q;have b3:=cu C y3;have b4:=cu C I;generalize O.drewN nq=A at*;have ae:=hid (btr BB C);by_cases ao:pv=0
    ·have aR:(pv==0)=true:=by simp[ao]
     go_wp2_with fail
     refine ar (v:=.int .i64 (9)) (by simp[results,Tryz.results238,go_sem]) rfl ⟨9,rfl,oD,dt c y ae⟩
    ·have aR:(pv==0)=false:=by simp[ao]
     go_upto_region 9 with fail
     have L:=hid (show Below A.heap.size A A.drew from aD A 1);have hW:IntKind.i64.wrap (IntKind.i64.wrap ((B:Int).tmod 1024*16)+(a:Int).tmod 16)=(m:Int):=by
      rw[cZ oA,cZ oA,show IntKind.i64.wrap ((B:Int)%1024*16)=(B:Int)%1024*16 from bZ _ oA oA,aU];exact bZ _ oA oA
     have X:=hid (btr ae L);have FZ:=hid (show A.drew.frozen? ⟨F,m,none⟩=false from by
      have h2:=(y.below X).o.IL;rw[M.out] at h2;exact h2.frozen m)
     have aE:=hid ((y.below X).IU M m 0);have y5:=cu L b3;refine bI (R:=fun W=>W.cell? ⟨wb,0,none⟩=some (.slice (some ⟨F,0,none⟩) p.IL.length k0)∧W.cell? ⟨w.heap.size,3,none⟩=some (.int .i64 (a:Int))) [12] [0,1,2,3,4,5,6,7,8,9,10,11] 1 oK ⟨cu L b0,cu L b4⟩ oK oK oK (fun _=>?_);generalize A.drew=W6 at*
     repeat (refine Rf.rs ?_;simp only[jj])
     refine aL ?_;refine Rf.r1 12 rfl (fun K hK=>?_);have fz:=FZ.out;go_simp
     refine hK _ _ trivial (bX oK) (fun _ _=>?_)
     try simp only[jj]
     refine bc oK ?_ _;obtain⟨aH,aX⟩:=aE.out;generalize W6.setCell ⟨F,m,none⟩ (Value.int IntKind.i64 0)=W7 at*;have HU:=hid (c.JO az);have FW:=hid (ff wb tag V {p with IL:=p.IL.set m 0} 0 (-1) W7 aH (by
      have h:=c.w.fits;exact⟨by show (p.IL.set m 0).length<=_;rw[au];exact h.IL,h.kinds,h.IH,h.II,h.lines,h.line,h.bits,h.IJ,h.ready,h.next,h.IK,h.IQ⟩) c.w.I8 (fun l hl e he=>by
      have:=(c.w.tl l hl).t e he;unfold d7 at this;simp only[am,bg] at this;exact this.1.2) (fun z hz=>by
      rcases aZ hz with h|h
      ·have:=c.w.m.IL.w z h;omega
      ·rw[h];decide) (by show (p.IL.set m 0).length<=600;rw[au];have:=c.w.m.tk.lf.IL;have:=c.w.m.tk.lf.k2;omega))
     have aA:=hid ((bp (tag:=tag) X).trans aX);go_wp2_with fail
     refine FW.mono ?_;rintro r W8 ⟨rfl,aY,aF,aW⟩;have aB:=hid (show Bx p wb tag w W8 from⟨aY,V,_,aA.trans aW,aF,HU.out⟩);go_wp2_with fail
     refine ar (v:=.int .i64 (0)) (by simp[results,Tryz.results238,go_sem]) rfl ⟨0,rfl,oD,aB.out⟩
