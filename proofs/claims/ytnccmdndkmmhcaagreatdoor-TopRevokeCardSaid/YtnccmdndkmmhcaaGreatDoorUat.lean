/- Uat -/
import Derived.Test.YtnccmdndkmmhcaaGreatDoorUas
set_option maxRecDepth 100000
set_option maxHeartbeats 16000000
namespace Go.Proofs.YtnccmdndkmmhcaaGreatDoor
namespace Wd
open Go.RowKit Mem Bw Nums Mmu
theorem Ai (s:Int):pl s=0∨(pl s=7∧(s=2∨s=3∨s=4))∨(pl s=8∧s=6):=by
 unfold pl;by_cases h:s=2∨s=3∨s=4
 ·exact .inr (.inl ⟨ag h,h⟩)
 ·rw[ae h];by_cases a:s=6
  ·exact .inr (.inr ⟨ag a,a⟩)
  ·exact .inl (ae a)
def rgP (p:PW) (b g:Int):PW:=match p.lines.getD b.toNat [] with
 |[]=>{p with bits:=p.bits.set b.toNat (bits .or .i64 (p.bits.getD b.toNat 0) g)}
 |z::l=>wnP (((frP p b.toNat z.toNat l).task z.toNat 1 0).task z.toNat 2 g) z.toNat (rdN p z.toNat)
def hbP (p:PW) (t b:Int):PW:=if p.bits.getD b.toNat 0=0 then ssP p t.toNat b.toNat 6 else {(p.task t.toNat 1 0).task t.toNat 2 (p.bits.getD b.toNat 0) with bits:=p.bits.set b.toNat 0}
theorem uT {p:PW} (h:Snd p) {a t:Nat} (f:a<p.kinds.length) (i:p.kinds[a]=8) (j:t<p.kinds.length) (hk:p.kinds[t]=6) (g:p.II.getD t bl 14=a):p.II.getD t bl 9=6:=by
 obtain⟨c,_,_,_,d⟩:=rM h j hk g;have e:=AY f c;rw[i] at e;rcases Ai (p.II.getD t bl 9) with b|⟨b,_⟩|⟨_,b⟩
 ·exact absurd b d
 ·omega
 ·exact b
theorem cb.Jr {W:World} {wb:Nat} {tag:Nat->Nat} {V:Nat->Value} {p:PW} (h:cb W wb tag V p) {g cap:Nat} (e:V 5=.slice (some ⟨g,0,none⟩) p.bits.length cap) {i:Nat} (hi:i<p.bits.length):W.cell? ⟨g,i,none⟩=some (.int .i64 (p.bits.getD i 0))∧W.frozen? ⟨g,i,none⟩=false:=by
 have a:=h.o.bits;rw[e] at a;refine⟨(a.int hi).trans ?_,a.frozen i⟩;rw[aa,ac hi];rfl
theorem rC (wb:Nat) (tag:Nat->Nat) (V:Nat->Value) (p:PW) (a:Nat) (g:Int) (W:World) (bt:cb W wb tag V p) (F:p.Fits) (O:a<p.lines.length) (P:a<p.bits.length) (Q:p.lines.getD a []=[]) (n:0<=p.bits.getD a 0∧p.bits.getD a 0<65536) (B:0<=g∧g<65536):
  Calls Tryz.prog 235 #[.pointer (some ⟨wb,0,none⟩),.int .i64 a,.int .i64 g] W fun r W'=>r=.returned (.tuple #[])∧∃tag',cb W' wb tag' V {p with bits:=p.bits.set a (bits .or .i64 (p.bits.getD a 0) g)}∧Kt tag tag' W W':=by
 have ac:(p.lines.length:Int)<=1000:=by have:=F.lines;omega
 have aa:(a:Int)<(p.lines.length:Int):=oA;have ad:(p.bits.length:Int)<=1000:=by have:=F.bits;omega
 have ab:(a:Int)<(p.bits.length:Int):=oA;obtain⟨gL,A⟩:=bt.o.lines.form;have C:=bt.o.lines;rw[A] at C;obtain⟨u,cu,s⟩:=C.at O;unfold ci at s;rw[Q] at s;obtain⟨q,gu,cap,rfl, -⟩:=s.shape;simp only[List.length_nil] at cu;have Y:=bD bt A;obtain⟨d,j,e5⟩:=bt.o.bits.form oA;have f:=hid e5;have l:=hid bt;have w:=hid P;obtain⟨y,G⟩:∃y,p.bits.getD a 0=y:=⟨_,rfl⟩
 rw[G] at n ⊢;have z:=hid G;have x:=hid (fun X=>Cpu.iO 7 (.inr (.inl rfl)) (y) g X n.1 n.2 B.1 B.2);have I:=hid (show ((Bw.bw 7 y.toNat g.toNat:Nat):Int)=bits .or .i64 (y) g by
  have h:=Bw.Bc y.toNat g.toNat oA oA;rw[show ((y.toNat:Nat):Int)=y by omega,show ((g.toNat:Nat):Int)=g by omega] at h;exact h.symm)
 rw[I.out] at x;go_enter Tryz.func235,Tryz.ntmps235
 go_wp2_with fail
 have e:Hid (Below W.heap.size W W.drew):=hid (aD W 1);have M:=hid (fun X (h:Below W.heap.size W X)=>show X.cell? ⟨wb,5,none⟩=some (.slice (some ⟨d,0,none⟩) p.bits.length j) by rw[ai (l.below h).r (k:=5) rfl,f.out]);have L:=hid (fun X (h:Below W.heap.size W X)=>show X.cell? ⟨d,a,none⟩=some (.int .i64 y) by rw[<-z.out];exact ((l.below h).Jr f w).1);refine ei (S:=fun X=>X.cell? ⟨wb,5,none⟩=some (.slice (some ⟨d,0,none⟩) p.bits.length j)) (R:=fun X=>X.cell? ⟨d,a,none⟩=some (.int .i64 y)) [15] oK (M.out _ e) (L.out _ e) (fun E D=>?_);have c:=hid E;have b:=hid D;clear E D;refine tF 0 (.pointer (some ⟨wb,0,none⟩)) rfl c (fun _=>b.out) ?_;simp only[jj];refine tF 1 (.pointer (some ⟨wb,0,none⟩)) rfl c (fun _=>b.out) ?_;simp only[jj];refine tF 2 (.pointer (some ⟨wb,5,none⟩)) rfl c (fun _=>b.out) ?_;simp only[jj];refine tG 3 (.slice (some ⟨d,0,none⟩) p.bits.length j) rfl c (fun _=>b.out) ?_;simp only[jj];refine tF 4 (.int .i64 a) rfl c (fun _=>b.out) ?_;simp only[jj];refine tF 5 (.pointer (some ⟨wb,0,none⟩)) rfl c (fun _=>b.out) ?_;simp only[jj];refine tF 6 (.pointer (some ⟨wb,0,none⟩)) rfl c (fun _=>b.out) ?_;simp only[jj];refine tF 7 (.pointer (some ⟨wb,5,none⟩)) rfl c (fun _=>b.out) ?_;simp only[jj];refine tG 8 (.slice (some ⟨d,0,none⟩) p.bits.length j) rfl c (fun _=>b.out) ?_;simp only[jj];refine tF 9 (.int .i64 a) rfl c (fun _=>b.out) ?_;simp only[jj];refine tF 10 (.pointer (some ⟨d,a,none⟩)) rfl c (fun _=>b.out) ?_;simp only[jj];refine eZ (i:=11) (v:=.int .i64 y) rfl oK oK oK oK oK oK (fun _ _ _ h=>h) (Or.inl ⟨oR,fun W h=>by have h3:=h.2;clear h;go_simp⟩) c (fun _=>b.out) ?_;simp only[jj];refine tF 12 (.int .i64 g) rfl c (fun _=>b.out) ?_;simp only[jj];refine r1 13 rfl (fun K m=>?_);go_simp
 refine (x.out _).mono ?_;rintro q w1 ⟨rfl,rfl⟩;go_wp2_with fail
 refine m _ _ c (fun _=>b.out) (fun _ _=>?_);clear m K
 try simp only[Act.put,jD,jE,jF]
 refine tF 14 (.pointer (some ⟨d,a,none⟩)) rfl c (fun _=>b.out) ?_;simp only[jj];obtain⟨T,Z⟩:=(l.below e).Jr f w;rw[z.out] at T;obtain⟨b6,H⟩:=(l.below e).Jb f a (bits .or .i64 y g);have t:=hid (show cb (W.setCell ⟨d,a,none⟩ (.int .i64 (bits .or .i64 y g))).drew wb tag V {p with bits:=p.bits.set a (bits .or .i64 y g)} from b6);have J:=hid (show Kt tag tag W (W.setCell ⟨d,a,none⟩ (.int .i64 (bits .or .i64 y g))).drew from Kt.trans (.below e) H);have N:=hid (show (W.setCell ⟨d,a,none⟩ (.int .i64 (bits .or .i64 y g))).drew.cell? ⟨wb,5,none⟩=some (.slice (some ⟨d,0,none⟩) p.bits.length j) by rw[ai t.r (k:=5) rfl,f.out]);clear b6 H;refine r1 15 rfl (fun K m=>?_);go_simp
 refine m _ _ N (fv oK) (fun _ _=>?_)
 try simp only[Act.put]
 refine ec oK ?_ _;generalize World.drew (World.setCell _ _ _)=U at*;go_wp2_with fail
 exact ar (aF rfl _ _ _) rfl ⟨rfl,tag,t.out,J.out⟩
theorem pT (wb:Nat) (tag:Nat->Nat) (V:Nat->Value) (p:PW) (a t:Nat) (l:List Int) (g:Int) (W:World) (bt:cb W wb tag V p) (f:p.Fits) (q:Snd p) (e:a<p.lines.length) (j:p.lines.getD a []=(t:Int)::l) (s:t<p.kinds.length) (hk:p.kinds[t]=6) (F:p.II.getD t bl 9=6):
  Calls Tryz.prog 235 #[.pointer (some ⟨wb,0,none⟩),.int .i64 a,.int .i64 g] W fun r W'=>r=.returned (.tuple #[])∧∃tag',cb W' wb tag' V (wnP (((frP p a t l).task t 1 0).task t 2 g) t (rdN p t))∧Kt tag tag' W W':=by
 have b:t<p.II.length:=by rw[q.lf.II];exact s
 have Q:(p.lines.length:Int)<=1000:=by have:=f.lines;omega
 have P:(a:Int)<(p.lines.length:Int):=oA;have S:l.length+1<=1000:=by
  have c:=f.line _ (av e);have d:=j;rw[aa,ac e,aT] at d;rw[d] at c;exact c
 obtain⟨N,k⟩:=bt.o.lines.form;have m:=bt.o.lines;rw[k] at m;obtain⟨u,cu,i⟩:=m.at e;unfold ci at i;rw[j] at i;obtain⟨O,cap,rfl⟩:=i.form oS;simp only[dY] at cu;have M:=bD bt k;have G:¬(((l.length+1:Nat):Int)=0):=oA;have T:(((l.length+1:Nat):Int)==0)=false:=by simpa using G
 have R:((l.length+1:Nat):Int)<=1000:=oA;obtain⟨I,J,K,r4⟩:=m9 q s hk;have y:=hid (mI wb tag V p a false W bt f e t l j b (by rw[F];decide));have n:=kX f a t l oA;have z:=hid (fun X tg (h:cb X wb tg V (frP p a t l))=>iG wb tg V (frP p a t l) t 0 g X h n (by rw[jT];exact b));have A:=hid (fun X tg (h:cb X wb tg V (((frP p a t l).task t 1 0).task t 2 g))=>gN wb tg V (((frP p a t l).task t 1 0).task t 2 g) t (rdN p t) X h (fm (fm n t 1 0) t 2 g) (by rw[ap,ap,jT];exact b) I (by rw[jm p a t l 0 g 18 b oD oD oD];exact K) (by rw[jm p a t l 0 g 10 b oD oD oD];exact r4) (by rw[jm p a t l 0 g 18 b oD oD oD,jm p a t l 0 g 10 b oD oD oD];exact J));go_enter Tryz.func235,Tryz.ntmps235
 go_wp2_with fail
 refine y.mono ?_;rintro r w1 ⟨rfl,U,c,k1⟩;have v:=hid c;have B:=hid k1;go_wp2_with fail
 refine (z.out _ _ v).mono ?_;rintro r w2 ⟨rfl,d,k2⟩;have w:=hid d;have C:=hid (B.trans k2);go_wp2_with fail
 refine (A.out _ _ w).mono ?_;rintro r Y ⟨rfl,L,E,H⟩;have x:=hid E;have D:=hid (C.trans H);go_wp2_with fail
 exact aH (aF rfl _ _ _) rfl ⟨rfl,L,x.out,D.out⟩
theorem qK (wb:Nat) (tag:Nat->Nat) (V:Nat->Value) (p:PW) (t a:Nat) (W:World) (bt:cb W wb tag V p) (i:p.Fits) (l:t<p.II.length) (v:a<p.lines.length) (k:a<p.bits.length):
  Calls Tryz.prog 234 #[.pointer (some ⟨wb,0,none⟩),.int .i64 t,.int .i64 a] W fun r W'=>r=.returned (.tuple #[])∧∃tag',cb W' wb tag' V (hbP p t a)∧Kt tag tag' W W':=by
 have D:(p.bits.length:Int)<=1000:=by have:=i.bits;omega
 have C:(a:Int)<(p.bits.length:Int):=oA;obtain⟨B,z,e5⟩:=bt.o.bits.form oA;have d:=hid e5;have n:=hid k;have u:=bD bt e5;have x:=(bt.Jr e5 k).1;have e:=hid (show hbP p t a=if p.bits.getD a 0=0 then ssP p t a 6 else {(p.task t 1 0).task t 2 (p.bits.getD a 0) with bits:=p.bits.set a 0} by unfold hbP;rw[ah,ah]);have q:=hid (lq wb tag V p t a 6 W bt i l v);have j:=hid (iG wb tag V p t 0 (p.bits.getD a 0) W bt i l);generalize p.bits.getD a 0=y at x e j;by_cases c:y=0
 ·have f:=hid (e.trans (ag c));subst c;go_enter Tryz.func234,Tryz.ntmps234
  go_wp2_with fail
  refine q.mono ?_;rintro r w1 ⟨rfl,w,h,k1⟩;have b:=hid h;have g:=hid k1;go_wp2_with fail
  exact ar (aF rfl _ _ _) rfl ⟨rfl,w,by rw[f.out];exact b,g.out⟩
 ·have f:=hid (e.trans (ae c));have E:(y==0)=false:=by simpa using c
  go_enter Tryz.func234,Tryz.ntmps234
  go_wp2_with fail
  refine j.mono ?_;rintro r w1 ⟨rfl,h,k1⟩;have b:=hid h;have g:=hid k1;have u:=bD b d;obtain⟨F,A⟩:=b.Jr d n;obtain⟨b2,k2⟩:=b.Jb d a 0;have m:=hid b2;have s:=hid (g.trans k2);go_wp2_with fail
  exact aH (aF rfl _ _ _) rfl ⟨rfl,tag,by rw[f.out];exact m,s.out⟩
theorem gJ (p:PW) (t u k:Nat) (x:Int) (h:u≠t):(p.task u k x).II.getD t bl=p.II.getD t bl:=by
 unfold PW.task;rw[aa];show ((p.II.set u _)[t]?).getD bl=_
 rw[cR h,aa]
theorem Aj {ls:List (List Int)} {k:Nat} {x:Int} {n:Nat} (h:∀l∈ls,l.length<=n):∀l∈ls.set k (ls.getD k []++[x]),l.length<=n+1:=fun l hl=>by
 rcases aZ hl with a|a
 ·exact aB (h l a) (Nat.le_succ _)
 ·rw[a,ax,aa]
  cases e:ls[k]? with
  |none=>simp
  |some l0=>exact Nat.succ_le_succ (h l0 (ef e))
theorem DI {p:PW} (h:p.Fits) (a:∀l∈p.ready,l.length<=50) (t n:Nat):(wnP p t n).Fits:=
 ⟨h.IL,h.kinds,h.IH,(fm (fm h t 9 1) t 14 (-1)).II,h.lines,h.line,h.bits,h.IJ,by show (p.ready.set n _).length<=1000;rw[au];exact h.ready,fun l hl=>aB (Aj a l hl) oA,h.IK,h.IQ⟩
theorem F5 {p:PW} (h:p.Fits) {d:Nat} {z:Int} {l:List Int} (a:p.lines.getD d []=z::l):l.length+1<=1000:=by
 rw[aa] at a
 cases e:p.lines[d]? with
 |none=>rw[e] at a;cases a
 |some y=>
  rw[e,aT] at a;have b:=h.line y (ef e);rw[a,dY] at b;exact b
theorem rR (p:PW) (t u i j:Nat) (x y:Int) (h:t≠u):(p.task t i x).task u j y=(p.task u j y).task t i x:=by
 have e1:=gJ p u t i x h;have e2:=gJ p t u j y (Ne.symm h);show ({p with II:=(p.task t i x).II.set u (upd ((p.task t i x).II.getD u bl) j y)}:PW)={p with II:=(p.task u j y).II.set t (upd ((p.task u j y).II.getD t bl) i x)}
 rw[e1,e2];unfold PW.task;simp only;rw[List.set_comm _ _ h]
theorem C4 {s:Int} (h:pl s=7):s=2∨s=3∨s=4:=by
 unfold pl at h;by_cases a:s=2∨s=3∨s=4
 ·exact a
 ·rw[ae a] at h;by_cases b:s=6
  ·rw[ag b] at h;omega
  ·rw[ae b] at h;omega
def fkV (p:PW) (d:Nat):Int:=match p.lines.getD d [] with
 |[]=> -1
 |z::_=>if p.II.getD z.toNat bl 9=4 then -1 else z
theorem EH {p:PW} {d u:Nat} {l:List Int} (a:p.lines.getD d []=(u:Int)::l):fkV p d=if p.II.getD u bl 9=4 then -1 else (u:Int):=by
 unfold fkV;rw[a];rfl
theorem uZ {p:PW} (h:Snd p) {d u:Nat} (e:d<p.kinds.length) (f:p.kinds[d]=7) (g:u<p.kinds.length) (hk:p.kinds[u]=6) (c:p.II.getD u bl 14=d):p.II.getD u bl 9=2∨p.II.getD u bl 9=3∨p.II.getD u bl 9=4:=by
 obtain⟨a,_⟩:=rM h g hk c;have b:=AY e a;exact C4 (by rw[<-b];exact f)
theorem zv {p:PW} (h:Snd p) {d:Nat} (g:d<p.kinds.length) (i:p.kinds[d]=7):(fkV p d= -1)∨(∃(u:Nat) (l:List Int) (b:u<p.kinds.length),fkV p d=u∧p.lines.getD d []=(u:Int)::l∧p.kinds[u]=6∧p.II.getD u bl 14=d∧(p.II.getD u bl 9=2∨p.II.getD u bl 9=3)):=by
 cases hz:p.lines.getD d [] with
 |nil=>left;unfold fkV;rw[hz]
 |cons z l=>
  obtain⟨u,b,rfl,hk,f⟩:=iH h (by rw[h.lf.lines];exact g) hz;have e:=EH hz;by_cases c:p.II.getD u bl 9=4
  ·left;rw[e,ag c]
  ·right
   rw[ae c] at e;rcases uZ h g i b hk f with a|a|a
   ·exact⟨u,l,b,e,rfl,hk,f,.inl a⟩
   ·exact⟨u,l,b,e,rfl,hk,f,.inr a⟩
   ·exact absurd a c
def tkQ (p:PW) (d t u:Nat) (l:List Int):PW:=((((({p with lines:=p.lines.set d l}:PW).task t 1 (p.II.getD u bl 16)).task t 2 (p.II.getD u bl 15)).task u 16 0).task u 15 0).task u 14 (-1)
theorem Dx (p:PW) (d t u:Nat) (l:List Int) (a:t≠u) (c:u<p.II.length):((((frP p d u l).task t 1 (p.II.getD u bl 16)).task t 2 (p.II.getD u bl 15)).task u 16 0).task u 15 0=tkQ p d t u l:=by
 unfold tkQ frP;have b:u<(({p with lines:=p.lines.set d l}:PW)).II.length:=c;rw[rR _ u t 14 1 _ _ (Ne.symm a),rR _ u t 14 2 _ _ (Ne.symm a),rQ _ u 14 16 _ _ (by rw[ap,ap];exact b) oD,rQ _ u 14 15 _ _ (by rw[ap,ap,ap];exact b) oD]
def tkU (p:PW) (t u:Nat):PW:=(((p.task t 1 (p.II.getD u bl 16)).task t 2 (p.II.getD u bl 15)).task u 16 0).task u 15 0
theorem Dy (p:PW) (t u:Nat):(tkU p t u).II.length=p.II.length:=by
 unfold tkU;rw[ap,ap,ap,ap]
theorem yG (p:PW) (d t u:Nat) (l:List Int):(tkQ p d t u l).II.length=p.II.length:=by
 unfold tkQ;rw[ap,ap,ap,ap,ap]
theorem F4 (p:PW) (t u k:Nat) (a:t≠u) (b:u<p.II.length) (c:k≠15) (d:k≠16):(tkU p t u).II.getD u bl k=p.II.getD u bl k:=by
 unfold tkU;rw[ia _ u 15 k _ (by rw[ap,ap,ap];exact b) c,ia _ u 16 k _ (by rw[ap,ap];exact b) d,gJ _ u t 2 _ a,gJ _ u t 1 _ a]
theorem yF (p:PW) (d t u k:Nat) (l:List Int) (f:t≠u) (a:u<p.II.length) (b:k≠15) (c:k≠16) (e:k≠14):(tkQ p d t u l).II.getD u bl k=p.II.getD u bl k:=by
 have h:=ia (tkU p t u) u 14 k (-1) (by rw[Dy];exact a) e;rw[F4 p t u k f a b c] at h;exact h
def tkP (p:PW) (t0 d0:Int):PW:=if fkV p d0.toNat= -1 then ssP p t0.toNat d0.toNat 4
 else (if p.II.getD (fkV p d0.toNat).toNat bl 9=3 then ((tkQ p d0.toNat t0.toNat (fkV p d0.toNat).toNat (p.lines.getD d0.toNat []).tail).task (fkV p d0.toNat).toNat 9 5).task t0.toNat 17 (fkV p d0.toNat) else wnP (tkQ p d0.toNat t0.toNat (fkV p d0.toNat).toNat (p.lines.getD d0.toNat []).tail) (fkV p d0.toNat).toNat (rdN p (fkV p d0.toNat).toNat))
theorem F3 {p:PW} {t d:Nat} (h:fkV p d= -1):tkP p t d=ssP p t d 4:=by
 unfold tkP;rw[ah,ah,ag h]
theorem Dw {p:PW} {t d u:Nat} {l:List Int} (h:fkV p d=u) (a:p.lines.getD d []=(u:Int)::l):tkP p t d=if p.II.getD u bl 9=3 then ((tkQ p d t u l).task u 9 5).task t 17 u else wnP (tkQ p d t u l) u (rdN p u):=by
 unfold tkP;rw[ah,ah,h,ae oA,ah,a];rfl
theorem Az {p:PW} (h:p.Fits) (d t u:Nat) (l:List Int) (hl:l.length<=1000):(tkQ p d t u l).Fits:=by
 unfold tkQ;exact fm (fm (fm (fm (fm (show ({p with lines:=p.lines.set d l}:PW).Fits from⟨h.IL,h.kinds,h.IH,h.II,(kX h d u l hl).lines,(kX h d u l hl).line,h.bits,h.IJ,h.ready,h.next,h.IK,h.IQ⟩) t 1 _) t 2 _) u 16 0) u 15 0) u 14 (-1)
def anP (p:PW) (t0 v:Int):PW:=wnP (((p.task t0.toNat 17 (-1)).task (p.II.getD t0.toNat bl 17).toNat 1 0).task (p.II.getD t0.toNat bl 17).toNat 2 v) (p.II.getD t0.toNat bl 17).toNat (rdN p (p.II.getD t0.toNat bl 17).toNat)
theorem DT {p:PW} {t u:Nat} (v:Int) (h:p.II.getD t bl 17=u):anP p t v=wnP (((p.task t 17 (-1)).task u 1 0).task u 2 v) u (rdN p u):=by
 unfold anP;rw[ah,h,ah]
theorem CY {p:PW} (h:Snd p) {t:Nat} (s:t<p.kinds.length) (hk:p.kinds[t]=6) (r:p.II.getD t bl 17≠ -1):∃(u:Nat) (b:u<p.kinds.length),p.II.getD t bl 17=u∧p.kinds[u]=6∧p.II.getD u bl 9=5∧lvs u p.lines=p.lines∧lvs u p.ready=p.ready∧p.IJ.map (noT u)=p.IJ:=by
 obtain⟨_,g,f,_,_⟩:=iY h s hk;unfold ffB at g;rw[am] at g;have a:=g.2;unfold fB at a;have k:(p.II.getD t bl 17== -1)=false:=by simpa using r
 rw[k,eU] at a;generalize e:p.II.getD t bl 17=z at*;obtain⟨u,b,rfl,n⟩:∃(u:Nat) (b:u<p.kinds.length),z=u∧p.kinds[u]=6:=by
  unfold isB fH at a;by_cases q:0<=z
  ·rw[ag q] at a;obtain⟨u,rfl⟩:∃u:Nat,z=u:=⟨z.toNat,oA⟩
   rw[ah] at a;obtain⟨b,m⟩:=List.getElem?_eq_some_iff.1 (eq_of_beq a);exact⟨u,b,rfl,m⟩
  ·rw[ae q] at a
   cases a
 unfold dbB at f;rw[am] at f;have c:=f.1;unfold owB at c;rw[e,k,eU,am] at c;have o:u<p.II.length:=by rw[h.lf.II];exact b
 have l:=eq_of_beq c.1;rw[yx o] at l;have d:p.II.getD u bl 9=5:=by rw[aa,ac o];exact l
 obtain⟨_,_,_,j,i⟩:=iY h b n;unfold srB at j;rw[d,ag oD,am] at j;unfold rrB at i;rw[d,ae oD] at i;have m:=eq_of_beq j.2;have v:=eq_of_beq i;exact⟨u,b,rfl,n,d,jI oA,jI oA,pJ oA⟩
def akP (q:PW) (t u:Nat):PW:=(({q with IJ:=q.IJ.map (noT t)}:PW).task t 9 5).task u 17 t
def fsV (p:PW) (d:Nat):Int:=match p.lines.getD d [] with
 |[]=> -1
 |z::_=>if p.II.getD z.toNat bl 9=4 then z else -1
def wdP (p:PW) (d u:Nat) (l:List Int) (b v:Int):PW:=wnP (((frP p d u l).task u 1 b).task u 2 v) u (rdN p u)
def snP (p:PW) (t0 d0 b v:Int) (c:Bool):PW:=if fsV p d0.toNat= -1 then ssP ((p.task t0.toNat 15 v).task t0.toNat 16 b) t0.toNat d0.toNat (if c then 3 else 2)
 else (if c then akP (wdP p d0.toNat (fsV p d0.toNat).toNat (p.lines.getD d0.toNat []).tail b v) t0.toNat (fsV p d0.toNat).toNat else wdP p d0.toNat (fsV p d0.toNat).toNat (p.lines.getD d0.toNat []).tail b v)
theorem zA {p:PW} (h:Snd p) {d:Nat} (e:d<p.lines.length):(fsV p d= -1)∨(∃(u:Nat) (l:List Int) (b:u<p.kinds.length),fsV p d=u∧p.lines.getD d []=(u:Int)::l∧p.kinds[u]=6∧p.II.getD u bl 14=d∧p.II.getD u bl 9=4):=by
 cases hz:p.lines.getD d [] with
 |nil=>left;unfold fsV;rw[hz]
 |cons z l=>
  obtain⟨u,b,rfl,hk,c⟩:=iH h e hz;by_cases a:p.II.getD u bl 9=4
  ·right
   exact⟨u,l,b,by unfold fsV;rw[hz];show (if p.II.getD u bl 9=4 then (u:Int) else -1)=u;rw[ag a],rfl,hk,c,a⟩
  ·left
   unfold fsV;rw[hz];show (if p.II.getD u bl 9=4 then (u:Int) else -1)= -1
   rw[ae a]
theorem F1 {p:PW} {t d:Nat} (b v:Int) (c:Bool) (h:fsV p d= -1):snP p t d b v c=ssP ((p.task t 15 v).task t 16 b) t d (if c then 3 else 2):=by
 unfold snP;rw[ah,ah,ag h]
theorem Dm {p:PW} {t d u:Nat} {l:List Int} (b v:Int) (c:Bool) (h:fsV p d=u) (a:p.lines.getD d []=(u:Int)::l):snP p t d b v c=if c then akP (wdP p d u l b v) t u else wdP p d u l b v:=by
 unfold snP;rw[ah,ah,h,ae oA,ah,a];rfl
theorem F9 (p:PW) (d u:Nat) (l:List Int) (b v:Int):(wdP p d u l b v).II.length=p.II.length:=by
 show (((((frP p d u l).task u 1 b).task u 2 v).task u 9 1).task u 14 (-1)).II.length=_
 rw[ap,ap,ap,ap,jT]
theorem DH {p:PW} (h:p.Fits) (a:∀l∈p.ready,l.length<=50) (d u:Nat) (l:List Int) (hl:l.length<=1000) (b v:Int):(wdP p d u l b v).Fits:=DI (fm (fm (kX h d u l hl) u 1 b) u 2 v) a _ _
theorem rI (wb:Nat) (tag:Nat->Nat) (V:Nat->Value) (p:PW) (t d:Nat) (b v:Int) (c:Bool) (W:World) (bt:cb W wb tag V p) (E:p.Fits) (F:t<p.II.length) (J:d<p.lines.length)
  (K:Calls Tryz.prog 183 #[.pointer (some ⟨wb,0,none⟩),.int .i64 d,.bool true] W fun r W'=>r=.returned (.int .i64 (-1))∧W=W'):
  Calls Tryz.prog 133 #[.pointer (some ⟨wb,0,none⟩),.int .i64 t,.int .i64 d,.int .i64 b,.int .i64 v,.bool c] W fun r W'=>r=.returned (.tuple #[])∧∃tag',cb W' wb tag' V (ssP ((p.task t 15 v).task t 16 b) t d (if c then 3 else 2))∧Kt tag tag' W W':=by
 have C:=hid K;have j:=hid (fun X tg (h:cb X wb tg V ((p.task t 15 v).task t 16 b))=>lq wb tg V ((p.task t 15 v).task t 16 b) t d (if c then 3 else 2) X h (fm (fm E t 15 v) t 16 b) (by rw[ap,ap];exact F) J);have M:(p.II.length:Int)<=1000:=by have:=E.II;omega
 have N:(t:Int)<(p.II.length:Int):=oA;obtain⟨l,k,I⟩:=bt.o.II.form oA;have f:=hid I;have g:=hid F;have e:=hid bt;have D:=hid (ew tag W)
 cases c with
 |false=>
  simp only[Bool.false_eq_true,if_false] at j ⊢;go_enter Tryz.func133,Tryz.ntmps133
  go_wp2_with fail
  refine C.mono ?_;rintro r w1 ⟨rfl,rfl⟩;have e4:=hid (show V 3=.slice (some ⟨l,0,none⟩) (p).II.length k by exact f);have w:=bD e f;have B:=e.IS e4 (i:=t) (by exact g) (show 15<20 by omega);have x:=e.IT e4 (t*20+15);obtain⟨b1,q1⟩:=e.task e4 (i:=t) (by exact g) (show 15<20 by omega) v;have a:=hid b1;have q:=hid (D.trans q1);go_upto_region 3 with fail
  generalize World.setCell _ _ _=G at*;have e4:=hid (show V 3=.slice (some ⟨l,0,none⟩) (p.task t 15 v).II.length k by rw[ap];exact f);have w:=bD a f;have B:=a.IS e4 (i:=t) (by rw[ap];exact g) (show 16<20 by omega);have x:=a.IT e4 (t*20+16);obtain⟨b1,q1⟩:=a.task e4 (i:=t) (by rw[ap];exact g) (show 16<20 by omega) b;have m:=hid b1;have s:=hid (q.trans q1);go_upto_region 4 with fail
  generalize World.setCell _ _ _=H at*;go_wp2_with fail
  refine (j.out _ _ m).mono ?_;rintro r L ⟨rfl,A,y,z⟩;have n:=hid y;have u:=hid (s.trans z);go_wp2_with fail
  exact ar (aF rfl _ _ _) rfl ⟨rfl,A,n.out,u.out⟩
 |true=>
  simp only[if_true] at j ⊢;go_enter Tryz.func133,Tryz.ntmps133
  go_wp2_with fail
  refine C.mono ?_;rintro r w1 ⟨rfl,rfl⟩;have e4:=hid (show V 3=.slice (some ⟨l,0,none⟩) (p).II.length k by exact f);have w:=bD e f;have B:=e.IS e4 (i:=t) (by exact g) (show 15<20 by omega);have x:=e.IT e4 (t*20+15);obtain⟨b1,q1⟩:=e.task e4 (i:=t) (by exact g) (show 15<20 by omega) v;have a:=hid b1;have q:=hid (D.trans q1);go_upto_region 3 with fail
  generalize World.setCell _ _ _=G at*;have e4:=hid (show V 3=.slice (some ⟨l,0,none⟩) (p.task t 15 v).II.length k by rw[ap];exact f);have w:=bD a f;have B:=a.IS e4 (i:=t) (by rw[ap];exact g) (show 16<20 by omega);have x:=a.IT e4 (t*20+16);obtain⟨b1,q1⟩:=a.task e4 (i:=t) (by rw[ap];exact g) (show 16<20 by omega) b;have m:=hid b1;have s:=hid (q.trans q1);go_upto_region 4 with fail
  generalize World.setCell _ _ _=H at*;go_wp2_with fail
  refine (j.out _ _ m).mono ?_;rintro r L ⟨rfl,A,y,z⟩;have n:=hid y;have u:=hid (s.trans z);go_wp2_with fail
  exact ar (aF rfl _ _ _) rfl ⟨rfl,A,n.out,u.out⟩
theorem te (wb:Nat) (tag:Nat->Nat) (V:Nat->Value) (p:PW) (t d u:Nat) (l:List Int) (b v:Int) (c:Bool) (W:World) (bt:cb W wb tag V p) (g:p.Fits) (hn:∀l∈p.ready,l.length<=50) (hs:Snd p) (ht:t<p.II.length) (Z:d<p.lines.length) (N:p.lines.getD d []=(u:Int)::l) (hu:u<p.kinds.length) (aa:u<p.II.length) (hk:p.kinds[u]=6) (B:p.II.getD u bl 9=4):
  Calls Tryz.prog 133 #[.pointer (some ⟨wb,0,none⟩),.int .i64 t,.int .i64 d,.int .i64 b,.int .i64 v,.bool c] W fun r W'=>r=.returned (.tuple #[])∧∃tag',cb W' wb tag' V (if c then akP (wdP p d u l b v) t u else wdP p d u l b v)∧Kt tag tag' W W':=by
 have a:=aa;obtain⟨r1,r2,r3,r4⟩:=m9 hs hu hk;have ad:=F5 g N;have E:=hid (mI wb tag V p d true W bt g Z u l N a (by rw[B];decide));have M:=kX g d u l oA;have F:=hid (fun X tg (h:cb X wb tg V (frP p d u l))=>iG wb tg V (frP p d u l) u b v X h M (by rw[jT];exact a));have I:=hid (fun X tg (h:cb X wb tg V (((frP p d u l).task u 1 b).task u 2 v))=>gN wb tg V (((frP p d u l).task u 1 b).task u 2 v) u (rdN p u) X h (fm (fm M u 1 b) u 2 v) (by rw[ap,ap,jT];exact a) r1 (by rw[jm p d u l b v 18 a oD oD oD];exact r3) (by rw[jm p d u l b v 10 a oD oD oD];exact r4) (by rw[jm p d u l b v 18 a oD oD oD,jm p d u l b v 10 a oD oD oD];exact r2));have P:=hid (fun X tg (h:cb X wb tg V (wdP p d u l b v))=>xS wb tg V (wdP p d u l b v) t X h (DH g hn d u l oA b v));have e:=hid (F9 p d u l b v);have af:¬((u:Int)<0):=oA;have ac:(p.II.length:Int)<=1000:=by have:=g.II;omega
 have ae:(t:Int)<(p.II.length:Int):=oA;obtain⟨L,K,U⟩:=bt.o.II.form oA;have m:=hid U;have G:=hid ht;have ag:(u:Int)<(p.II.length:Int):=oA;have H:=hid a;have J:=hid (show wnP (((frP p d u l).task u 1 b).task u 2 v) u (rdN p u)=wdP p d u l b v from rfl)
 cases c with
 |false=>
  simp only[Bool.false_eq_true,if_false];go_enter Tryz.func133,Tryz.ntmps133
  go_wp2_with fail
  refine E.mono ?_;rintro r w1 ⟨rfl,ab,z,k1⟩;have n:=hid z;have w:=hid k1;go_wp2_with fail
  refine (F.out _ _ n).mono ?_;rintro r w2 ⟨rfl,A,k2⟩;have q:=hid A;have x:=hid (w.trans k2);go_wp2_with fail
  refine (I.out _ _ q).mono ?_;rintro r w3 ⟨rfl,D,f,C⟩;rw[J.out] at f;have s:=hid f;have y:=hid (x.trans C);go_wp2_with fail
  exact aH (aF rfl _ _ _) rfl ⟨rfl,D,s.out,y.out⟩
 |true=>
  simp only[if_true];unfold akP;go_enter Tryz.func133,Tryz.ntmps133
  go_wp2_with fail
  refine E.mono ?_;rintro r w1 ⟨rfl,ab,z,k1⟩;have n:=hid z;have w:=hid k1;go_wp2_with fail
  refine (F.out _ _ n).mono ?_;rintro r w2 ⟨rfl,A,k2⟩;have q:=hid A;have x:=hid (w.trans k2);go_wp2_with fail
  refine (I.out _ _ q).mono ?_;rintro r w3 ⟨rfl,D,f,C⟩;rw[J.out] at f;have s:=hid f;have y:=hid (x.trans C);go_wp2_with fail
  refine (P.out _ _ s).mono ?_;rintro r w4 ⟨rfl,B,k4⟩;have j:=hid B;have Q:=hid (y.trans k4);have e4:=hid (show V 3=.slice (some ⟨L,0,none⟩) (({wdP p d u l b v with IJ:=(wdP p d u l b v).IJ.map (noT t)}:PW)).II.length K by rw[show ({wdP p d u l b v with IJ:=(wdP p d u l b v).IJ.map (noT t)}:PW).II.length=p.II.length from e];exact m);have T:=bD j m;have xa:=j.IS e4 (i:=t) (by rw[show ({wdP p d u l b v with IJ:=(wdP p d u l b v).IJ.map (noT t)}:PW).II.length=p.II.length from e];exact G) (show 9<20 by omega);have Y:=j.IT e4 (t*20+9);obtain⟨b1,q1⟩:=j.task e4 (i:=t) (by rw[show ({wdP p d u l b v with IJ:=(wdP p d u l b v).IJ.map (noT t)}:PW).II.length=p.II.length from e];exact G) (show 9<20 by omega) 5;have k:=hid b1;have R:=hid (Q.trans q1);go_upto_region 12 with fail
  generalize World.setCell _ _ _=W5 at*;have e4:=hid (show V 3=.slice (some ⟨L,0,none⟩) (({wdP p d u l b v with IJ:=(wdP p d u l b v).IJ.map (noT t)}:PW).task t 9 5).II.length K by rw[ap,show ({wdP p d u l b v with IJ:=(wdP p d u l b v).IJ.map (noT t)}:PW).II.length=p.II.length from e];exact m);have T:=bD k m;have xa:=k.IS e4 (i:=u) (by rw[ap,show ({wdP p d u l b v with IJ:=(wdP p d u l b v).IJ.map (noT t)}:PW).II.length=p.II.length from e];exact H) (show 17<20 by omega);have Y:=k.IT e4 (u*20+17);obtain⟨b1,q1⟩:=k.task e4 (i:=u) (by rw[ap,show ({wdP p d u l b v with IJ:=(wdP p d u l b v).IJ.map (noT t)}:PW).II.length=p.II.length from e];exact H) (show 17<20 by omega) t;have O:=hid b1;have S:=hid (R.trans q1);go_wp2_with fail
  exact aH (aF rfl _ _ _) rfl ⟨rfl,D,O.out,S.out⟩
theorem Hx (p:PW) (t n:Nat) (a:t<p.II.length) (b:lvs t p.lines=p.lines) (c:p.IJ.map (noT t)=p.IJ):wkP p t n=wnP {p with ready:=lvs t p.ready} t n:=by
 unfold wkP wnP lvP PW.task;simp only;rw[jL _ t _ _ a,jL _ t _ _ a,ep,ep,mi _ 14 9 _ _ oD,b,c]
def srE (p:PW) (a:Int):Int:=if thE p a 6=0 then (if p.II.getD a.toNat bl 9=0 then 0 else 7) else thE p a 6
def srP (p:PW) (a:Int):PW:=wnP p a.toNat (rdN p a.toNat)
def rkE (p:PW) (a b:Int):Int:=if thE p a 6=0 then (if ek 0 3 b then 0 else 2) else thE p a 6
def rkP (p:PW) (a b:Int):PW:=if p.II.getD a.toNat bl 9=1∧inB a p.IJ=false then wkP (p.task a.toNat 10 b) a.toNat (rdN (p.task a.toNat 10 b) a.toNat) else p.task a.toNat 10 b
theorem Am {p:PW} (h:Snd p) {t:Nat} (g:t<p.kinds.length) (hk:p.kinds[t]=6) (c:p.II.getD t bl 9=1) (d:inB t p.IJ=false):lvs t p.lines=p.lines∧cna t p.ready=1∧p.IJ.map (noT t)=p.IJ:=by
 obtain⟨_,_,_,b,a⟩:=iY h g hk;unfold srB at b;rw[c,ag oD,am] at b;unfold rrB at a;rw[c,ag rfl] at a;have e:cn t p.IJ=0:=by
  unfold inB at d;have:=dh d;omega
 have f:cna t p.lines=0:=by have:=b.2;simpa using this
 have i:=eq_of_beq a;exact⟨jI f,oA,pJ e⟩
theorem rz {p:PW} (h:Snd p) {t:Nat} (g:t<p.kinds.length) (hk:p.kinds[t]=6) (f:¬(p.II.getD t bl 9=1∧inB t p.IJ=false)):cna t p.ready=0:=by
 obtain⟨_,_,_,_,a⟩:=iY h g hk;unfold rrB at a;by_cases b:p.II.getD t bl 9=1
 ·rw[b,ag rfl] at a;have d:=eq_of_beq a;have c:¬inB t p.IJ=false:=fun e=>f ⟨b,e⟩;unfold inB at c;simp only[decide_eq_false_iff_not,Classical.not_not] at c;omega
 ·rw[ae b] at a;have d:=eq_of_beq a;omega
def rfP (p:PW) (t:Nat) (b:Int):PW:=if 0<cna t p.ready then wnP (({p with ready:=lvs t p.ready}:PW).task t 10 b) t (rdN (p.task t 10 b) t) else ({p with ready:=lvs t p.ready}:PW).task t 10 b
theorem Dd {p:PW} (h:Snd p) {t:Nat} (c:t<p.kinds.length) (hk:p.kinds[t]=6) (b:Int):rfP p t b=rkP p t b:=by
 have hl:t<p.II.length:=by rw[h.lf.II];exact c
 unfold rfP rkP;rw[ah];by_cases a:p.II.getD t bl 9=1∧inB t p.IJ=false
 ·obtain⟨d,f,e⟩:=Am h c hk a.1 a.2;rw[ag oA,ag a,Hx (p.task t 10 b) t _ (by rw[ap];exact hl) d e];rfl
 ·rw[ae a,ae (by rw[rz h c hk a];omega),jI (rz h c hk a)]
theorem ke (vb:Nat) (V:Nat->Value) (p:PW) (f:Int) (w:World) (hv:d6 w vb V p):
  Calls Tryz.prog 123 #[.pointer (some ⟨vb,0,none⟩),.int .i64 f] w fun r w'=>r=.returned (.int .i64 (thE p f 6))∧w=w':=by
 have c1:=r11 1 hv.r;obtain⟨q,b,off,cap,e1,i,k⟩:=hv.v.kinds;have hl:(p.kinds.length:Int)<=1000:=by have:=hv.f.kinds;omega
 cases h1:frB p f with
 |false=>
  have c:=hid (show thE p f 6=2 by unfold thE;rw[h1];rfl);have h:=dh h1;by_cases l:f<0
  ·clear h;go_enter Tryz.func123,Tryz.ntmps123
   go_wp2_with fail
   go_ret
   exact⟨by rw[c.out];rfl,rfl⟩
  ·have m:(p.kinds.length:Int)<=f:=oA;go_enter Tryz.func123,Tryz.ntmps123
   go_wp2_with fail
   go_ret
   exact⟨by rw[c.out];rfl,rfl⟩
 |true=>
  have n:=aA h1;obtain⟨j,rfl⟩:∃j:Nat,f=j:=⟨f.toNat,oA⟩
  have e:j<p.kinds.length:=oA;have s:(j:Int)<(p.kinds.length:Int):=oA;have n0:¬((j:Int)<0):=oA;have n1:¬((p.kinds.length:Int)<=(j:Int)):=oA;obtain rfl:=i oA;have g:=k j e;have d:=hid (show thE p j 6=if p.kinds[j]=6 then 0 else 3 by
   unfold thE isB;rw[h1,ag rfl,fZ e];by_cases a:p.kinds[j]=6
   ·rw[ag a,a];rfl
   ·rw[ae a,ae (by simpa using a)])
  generalize p.kinds[j]=z at g d;by_cases a:z=6
  ·subst a;have c:=hid (show thE p j 6=0 by rw[d.out];rfl);go_enter Tryz.func123,Tryz.ntmps123
   go_wp2_with fail
   go_ret
   exact⟨by rw[c.out];rfl,rfl⟩
  ·have c:=hid (show thE p j 6=3 by rw[d.out,ae a]);have o:(z !=6)=true:=by simpa using a
   go_enter Tryz.func123,Tryz.ntmps123
   go_wp2_with fail
   go_ret
   exact⟨by rw[c.out];rfl,rfl⟩
