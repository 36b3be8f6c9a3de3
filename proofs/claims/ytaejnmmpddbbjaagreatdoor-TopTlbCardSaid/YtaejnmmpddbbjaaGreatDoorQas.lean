/- Qas -/
import Derived.Test.YtaejnmmpddbbjaaGreatDoorQar
set_option maxRecDepth 100000
set_option maxHeartbeats 16000000
namespace Go.Proofs.YtaejnmmpddbbjaaGreatDoor
namespace Wd
open Go.RowKit Mem Bw Nums Mmu
theorem hP {p:PW} (h:Snd p) {a:Nat} (j:a<p.lines.length) {z:Int} {l:List Int} (n:p.lines.getD a []=z::l):∃(t:Nat) (g:t<p.kinds.length),z=t∧p.kinds[t]=6∧p.DY.getD t bl 14=a:=by
 have e:p.lines[a]=z::l:=by rw[<-n,aa,ac j];rfl
 have c:blB p a (p.kinds.getD a 0) (p.bits.getD a 0) p.lines[a]=false:=h.b6 a j;rw[e] at c;unfold blB at c;rw[dU,List.any_cons,dU] at c;have d:=c.2.1;unfold tB at d;rw[cq,al,al] at d;have b:=d.1.1;have f:=eq_of_beq d.1.2;unfold isB eX at b;by_cases i:0<=z
 ·rw[af i] at b;obtain⟨t,rfl⟩:∃t:Nat,z=t:=⟨z.toNat,oA⟩
  rw[ag] at b;have k:=eq_of_beq b;obtain⟨g,m⟩:=List.getElem?_eq_some_iff.1 k;have hl:t<p.DY.length:=by rw[h.lf.DY];exact g
  unfold atV at f;rw[ag,ac hl] at f;refine⟨t,g,rfl,m,?_⟩;rw[aa,ac hl];exact f
 ·rw[ae i] at b
  cases b
theorem pa {p:PW} (h:Snd p) {t a:Nat} (i:t<p.kinds.length) (hk:p.kinds[t]=6) (g:p.DY.getD t bl 14=a):isB p a (pl (p.DY.getD t bl 9))=true∧cna t p.lines=1∧lvs t p.ready=p.ready∧p.D6.map (noT t)=p.D6∧pl (p.DY.getD t bl 9)≠0:=by
 obtain⟨_,_,_,b,d⟩:=ir h i hk;unfold srB at b;rw[g] at b;by_cases c:pl (p.DY.getD t bl 9)=0
 ·rw[af c,al] at b;have:=eq_of_beq b.1;omega
 ·rw[ae c,al,al] at b;have j:=eq_of_beq b.1.2;have f:¬p.DY.getD t bl 9=1:=fun e=>c (by rw[e];decide);unfold rrB at d;rw[ae f] at d;have k:=eq_of_beq d;exact⟨b.1.1,oA,iS oA,nA oA,c⟩
theorem xI {p:PW} {a:Nat} {k:Int} (b:a<p.kinds.length) (h:isB p a k=true):p.kinds[a]=k:=by
 unfold isB at h;rw[gJ b] at h;simpa using h
theorem pf (p:PW) (t i j:Nat) (x y:Int) (a:t<p.DY.length) (h:i≠j):(p.task t i x).task t j y=(p.task t j y).task t i x:=by
 unfold PW.task;simp only;rw[kL _ t _ _ a,kL _ t _ _ a,d9,d9,nO _ i j _ _ h]
theorem jV {p:PW} (h:p.Fits) (a t:Nat) (l:List Int) (hl:l.length<=1000):(frP p a t l).Fits:=by
 have b:({p with lines:=p.lines.set a l}:PW).Fits:=⟨h.Eb,h.kinds,h.DZ,h.DY,by show (p.lines.set a l).length<=1000;rw[au];exact h.lines,fun x d=>by
  rcases ba d with c|c
  ·exact h.line x c
  ·rw[c];exact hl,h.bits,h.D6,h.ready,h.next,h.D9,h.Ee⟩
 unfold frP;exact⟨b.Eb,b.kinds,b.DZ,by rw[am];exact b.DY,b.lines,b.line,b.bits,b.D6,b.ready,b.next,b.D9,b.Ee⟩
theorem eB {p:PW} (h:p.Fits) (t k:Nat) (x:Int):(p.task t k x).Fits:=⟨h.Eb,h.kinds,h.DZ,by rw[am];exact h.DY,h.lines,h.line,h.bits,h.D6,h.ready,h.next,h.D9,h.Ee⟩
theorem pP (p:PW) (a t:Nat) (l:List Int) (k:Nat) (b:t<p.DY.length) (hk:k≠14):(frP p a t l).DY.getD t bl k=p.DY.getD t bl k:=by
 unfold frP;exact gN ({p with lines:=p.lines.set a l}:PW) t 14 k (-1) b hk
theorem i5 (p:PW) (a t:Nat) (l:List Int):(frP p a t l).DY.length=p.DY.length:=am _ t 14 (-1)
theorem iH (p:PW) (a t:Nat) (l:List Int) (x y:Int) (k:Nat) (b:t<p.DY.length) (c:k≠1) (d:k≠2) (e:k≠14):(((frP p a t l).task t 1 x).task t 2 y).DY.getD t bl k=p.DY.getD t bl k:=by
 rw[gN _ t 2 k _ (by rw[am,i5];exact b) d,gN _ t 1 k _ (by rw[i5];exact b) c,pP p a t l k b e]
theorem wM (s:Int):pl s=0∨(pl s=7∧(s=2∨s=3∨s=4))∨(pl s=8∧s=6):=by
 unfold pl;by_cases h:s=2∨s=3∨s=4
 ·exact .inr (.inl ⟨af h,h⟩)
 ·rw[ae h];by_cases a:s=6
  ·exact .inr (.inr ⟨af a,a⟩)
  ·exact .inl (ae a)
def rgP (p:PW) (b g:Int):PW:=match p.lines.getD b.toNat [] with
 |[]=>{p with bits:=p.bits.set b.toNat (bits .or .i64 (p.bits.getD b.toNat 0) g)}
 |z::l=>wnP (((frP p b.toNat z.toNat l).task z.toNat 1 0).task z.toNat 2 g) z.toNat (rdN p z.toNat)
def hbP (p:PW) (t b:Int):PW:=if p.bits.getD b.toNat 0=0 then ssP p t.toNat b.toNat 6 else {(p.task t.toNat 1 0).task t.toNat 2 (p.bits.getD b.toNat 0) with bits:=p.bits.set b.toNat 0}
theorem sf {p:PW} (h:Snd p) {a t:Nat} (f:a<p.kinds.length) (i:p.kinds[a]=8) (j:t<p.kinds.length) (hk:p.kinds[t]=6) (g:p.DY.getD t bl 14=a):p.DY.getD t bl 9=6:=by
 obtain⟨c,_,_,_,d⟩:=pa h j hk g;have e:=xI f c;rw[i] at e;rcases wM (p.DY.getD t bl 9) with b|⟨b,_⟩|⟨_,b⟩
 ·exact absurd b d
 ·omega
 ·exact b
theorem cb.EO {W:World} {wb:Nat} {tag:Nat->Nat} {V:Nat->Value} {p:PW} (h:cb W wb tag V p) {g cap:Nat} (e:V 5=.slice (some ⟨g,0,none⟩) p.bits.length cap) {i:Nat} (hi:i<p.bits.length):W.cell? ⟨g,i,none⟩=some (.int .i64 (p.bits.getD i 0))∧W.frozen? ⟨g,i,none⟩=false:=by
 have a:=h.o.bits;rw[e] at a;refine⟨(a.int hi).trans ?_,a.frozen i⟩;rw[aa,ac hi];rfl
theorem oY (wb:Nat) (tag:Nat->Nat) (V:Nat->Value) (p:PW) (a:Nat) (g:Int) (W:World) (bt:cb W wb tag V p) (F:p.Fits) (O:a<p.lines.length) (P:a<p.bits.length) (Q:p.lines.getD a []=[]) (n:0<=p.bits.getD a 0∧p.bits.getD a 0<65536) (B:0<=g∧g<65536):
  Calls Tryz.prog 139 #[.pointer (some ⟨wb,0,none⟩),.int .i64 a,.int .i64 g] W fun r W'=>r=.returned (.tuple #[])∧∃tag',cb W' wb tag' V {p with bits:=p.bits.set a (bits .or .i64 (p.bits.getD a 0) g)}∧Kt tag tag' W W':=by
 have ac:(p.lines.length:Int)<=1000:=by have:=F.lines;omega
 have aa:(a:Int)<(p.lines.length:Int):=oA;have ad:(p.bits.length:Int)<=1000:=by have:=F.bits;omega
 have ab:(a:Int)<(p.bits.length:Int):=oA;obtain⟨gL,A⟩:=bt.o.lines.form;have C:=bt.o.lines;rw[A] at C;obtain⟨u,cu,s⟩:=C.at O;unfold ci at s;rw[Q] at s;obtain⟨q,gu,cap,rfl, -⟩:=s.shape;simp only[List.length_nil] at cu;have Y:=bg bt A;obtain⟨d,j,e5⟩:=bt.o.bits.form oA;have f:=hid e5;have l:=hid bt;have w:=hid P;obtain⟨y,G⟩:∃y,p.bits.getD a 0=y:=⟨_,rfl⟩
 rw[G] at n ⊢;have z:=hid G;have x:=hid (fun X=>Cpu.ia 7 (.inr (.inl rfl)) (y) g X n.1 n.2 B.1 B.2);have I:=hid (show ((Bw.bw 7 y.toNat g.toNat:Nat):Int)=bits .or .i64 (y) g by
  have h:=Bw.xR y.toNat g.toNat oA oA;rw[show ((y.toNat:Nat):Int)=y by omega,show ((g.toNat:Nat):Int)=g by omega] at h;exact h.symm)
 rw[I.out] at x;go_enter Tryz.func139,Tryz.ntmps139
 go_wp2_with fail
 have e:Hid (Below W.heap.size W W.drew):=hid (aC W 1);have M:=hid (fun X (h:Below W.heap.size W X)=>show X.cell? ⟨wb,5,none⟩=some (.slice (some ⟨d,0,none⟩) p.bits.length j) by rw[ah (l.below h).r (k:=5) rfl,f.out]);have L:=hid (fun X (h:Below W.heap.size W X)=>show X.cell? ⟨d,a,none⟩=some (.int .i64 y) by rw[<-z.out];exact ((l.below h).EO f w).1);refine d7 (S:=fun X=>X.cell? ⟨wb,5,none⟩=some (.slice (some ⟨d,0,none⟩) p.bits.length j)) (R:=fun X=>X.cell? ⟨d,a,none⟩=some (.int .i64 y)) [15] oK (M.out _ e) (L.out _ e) (fun E D=>?_);have c:=hid E;have b:=hid D;clear E D;refine tF 0 (.pointer (some ⟨wb,0,none⟩)) rfl c (fun _=>b.out) ?_;simp only[jj];refine tF 1 (.pointer (some ⟨wb,0,none⟩)) rfl c (fun _=>b.out) ?_;simp only[jj];refine tF 2 (.pointer (some ⟨wb,5,none⟩)) rfl c (fun _=>b.out) ?_;simp only[jj];refine tG 3 (.slice (some ⟨d,0,none⟩) p.bits.length j) rfl c (fun _=>b.out) ?_;simp only[jj];refine tF 4 (.int .i64 a) rfl c (fun _=>b.out) ?_;simp only[jj];refine tF 5 (.pointer (some ⟨wb,0,none⟩)) rfl c (fun _=>b.out) ?_;simp only[jj];refine tF 6 (.pointer (some ⟨wb,0,none⟩)) rfl c (fun _=>b.out) ?_;simp only[jj];refine tF 7 (.pointer (some ⟨wb,5,none⟩)) rfl c (fun _=>b.out) ?_;simp only[jj];refine tG 8 (.slice (some ⟨d,0,none⟩) p.bits.length j) rfl c (fun _=>b.out) ?_;simp only[jj];refine tF 9 (.int .i64 a) rfl c (fun _=>b.out) ?_;simp only[jj];refine tF 10 (.pointer (some ⟨d,a,none⟩)) rfl c (fun _=>b.out) ?_;simp only[jj];refine eu (i:=11) (v:=.int .i64 y) rfl oK oK oK oK oK oK (fun _ _ _ h=>h) (Or.inl ⟨oR,fun W h=>by have h3:=h.2;clear h;go_simp⟩) c (fun _=>b.out) ?_;simp only[jj];refine tF 12 (.int .i64 g) rfl c (fun _=>b.out) ?_;simp only[jj];refine r1 13 rfl (fun K m=>?_);go_simp
 refine (x.out _).mono ?_;rintro q w1 ⟨rfl,rfl⟩;go_wp2_with fail
 refine m _ _ c (fun _=>b.out) (fun _ _=>?_);clear m K
 try simp only[Act.put,jD,jE,jF]
 refine tF 14 (.pointer (some ⟨d,a,none⟩)) rfl c (fun _=>b.out) ?_;simp only[jj];obtain⟨T,Z⟩:=(l.below e).EO f w;rw[z.out] at T;obtain⟨b6,H⟩:=(l.below e).Ew f a (bits .or .i64 y g);have t:=hid (show cb (W.setCell ⟨d,a,none⟩ (.int .i64 (bits .or .i64 y g))).drew wb tag V {p with bits:=p.bits.set a (bits .or .i64 y g)} from b6);have J:=hid (show Kt tag tag W (W.setCell ⟨d,a,none⟩ (.int .i64 (bits .or .i64 y g))).drew from Kt.trans (.below e) H);have N:=hid (show (W.setCell ⟨d,a,none⟩ (.int .i64 (bits .or .i64 y g))).drew.cell? ⟨wb,5,none⟩=some (.slice (some ⟨d,0,none⟩) p.bits.length j) by rw[ah t.r (k:=5) rfl,f.out]);clear b6 H;refine r1 15 rfl (fun K m=>?_);go_simp
 refine m _ _ N (eF oK) (fun _ _=>?_)
 try simp only[Act.put]
 refine d5 oK ?_ _;generalize World.drew (World.setCell _ _ _)=U at*;go_wp2_with fail
 exact aq (aK rfl _ _ _) rfl ⟨rfl,tag,t.out,J.out⟩
theorem nG (wb:Nat) (tag:Nat->Nat) (V:Nat->Value) (p:PW) (a t:Nat) (l:List Int) (g:Int) (W:World) (bt:cb W wb tag V p) (f:p.Fits) (q:Snd p) (e:a<p.lines.length) (j:p.lines.getD a []=(t:Int)::l) (s:t<p.kinds.length) (hk:p.kinds[t]=6) (F:p.DY.getD t bl 9=6):
  Calls Tryz.prog 139 #[.pointer (some ⟨wb,0,none⟩),.int .i64 a,.int .i64 g] W fun r W'=>r=.returned (.tuple #[])∧∃tag',cb W' wb tag' V (wnP (((frP p a t l).task t 1 0).task t 2 g) t (rdN p t))∧Kt tag tag' W W':=by
 have b:t<p.DY.length:=by rw[q.lf.DY];exact s
 have Q:(p.lines.length:Int)<=1000:=by have:=f.lines;omega
 have P:(a:Int)<(p.lines.length:Int):=oA;have S:l.length+1<=1000:=by
  have c:=f.line _ (aw e);have d:=j;rw[aa,ac e,aT] at d;rw[d] at c;exact c
 obtain⟨N,k⟩:=bt.o.lines.form;have m:=bt.o.lines;rw[k] at m;obtain⟨u,cu,i⟩:=m.at e;unfold ci at i;rw[j] at i;obtain⟨O,cap,rfl⟩:=i.form oS;simp only[dO] at cu;have M:=bg bt k;have G:¬(((l.length+1:Nat):Int)=0):=oA;have T:(((l.length+1:Nat):Int)==0)=false:=by simpa using G
 have R:((l.length+1:Nat):Int)<=1000:=oA;obtain⟨I,J,K,r4⟩:=lD q s hk;have y:=hid (ld wb tag V p a false W bt f e t l j b (by rw[F];decide));have n:=jV f a t l oA;have z:=hid (fun X tg (h:cb X wb tg V (frP p a t l))=>hJ wb tg V (frP p a t l) t 0 g X h n (by rw[i5];exact b));have A:=hid (fun X tg (h:cb X wb tg V (((frP p a t l).task t 1 0).task t 2 g))=>gn wb tg V (((frP p a t l).task t 1 0).task t 2 g) t (rdN p t) X h (eB (eB n t 1 0) t 2 g) (by rw[am,am,i5];exact b) I (by rw[iH p a t l 0 g 18 b oD oD oD];exact K) (by rw[iH p a t l 0 g 10 b oD oD oD];exact r4) (by rw[iH p a t l 0 g 18 b oD oD oD,iH p a t l 0 g 10 b oD oD oD];exact J));go_enter Tryz.func139,Tryz.ntmps139
 go_wp2_with fail
 refine y.mono ?_;rintro r w1 ⟨rfl,U,c,k1⟩;have v:=hid c;have B:=hid k1;go_wp2_with fail
 refine (z.out _ _ v).mono ?_;rintro r w2 ⟨rfl,d,k2⟩;have w:=hid d;have C:=hid (B.trans k2);go_wp2_with fail
 refine (A.out _ _ w).mono ?_;rintro r Y ⟨rfl,L,E,H⟩;have x:=hid E;have D:=hid (C.trans H);go_wp2_with fail
 exact aX (aK rfl _ _ _) rfl ⟨rfl,L,x.out,D.out⟩
theorem ou (wb:Nat) (tag:Nat->Nat) (V:Nat->Value) (p:PW) (t a:Nat) (W:World) (bt:cb W wb tag V p) (i:p.Fits) (l:t<p.DY.length) (v:a<p.lines.length) (k:a<p.bits.length):
  Calls Tryz.prog 138 #[.pointer (some ⟨wb,0,none⟩),.int .i64 t,.int .i64 a] W fun r W'=>r=.returned (.tuple #[])∧∃tag',cb W' wb tag' V (hbP p t a)∧Kt tag tag' W W':=by
 have D:(p.bits.length:Int)<=1000:=by have:=i.bits;omega
 have C:(a:Int)<(p.bits.length:Int):=oA;obtain⟨B,z,e5⟩:=bt.o.bits.form oA;have d:=hid e5;have n:=hid k;have u:=bg bt e5;have x:=(bt.EO e5 k).1;have e:=hid (show hbP p t a=if p.bits.getD a 0=0 then ssP p t a 6 else {(p.task t 1 0).task t 2 (p.bits.getD a 0) with bits:=p.bits.set a 0} by unfold hbP;rw[ag,ag]);have q:=hid (ke wb tag V p t a 6 W bt i l v);have j:=hid (hJ wb tag V p t 0 (p.bits.getD a 0) W bt i l);generalize p.bits.getD a 0=y at x e j;by_cases c:y=0
 ·have f:=hid (e.trans (af c));subst c;go_enter Tryz.func138,Tryz.ntmps138
  go_wp2_with fail
  refine q.mono ?_;rintro r w1 ⟨rfl,w,h,k1⟩;have b:=hid h;have g:=hid k1;go_wp2_with fail
  exact aq (aK rfl _ _ _) rfl ⟨rfl,w,by rw[f.out];exact b,g.out⟩
 ·have f:=hid (e.trans (ae c));have E:(y==0)=false:=by simpa using c
  go_enter Tryz.func138,Tryz.ntmps138
  go_wp2_with fail
  refine j.mono ?_;rintro r w1 ⟨rfl,h,k1⟩;have b:=hid h;have g:=hid k1;have u:=bg b d;obtain⟨F,A⟩:=b.EO d n;obtain⟨b2,k2⟩:=b.Ew d a 0;have m:=hid b2;have s:=hid (g.trans k2);go_wp2_with fail
  exact aX (aK rfl _ _ _) rfl ⟨rfl,tag,by rw[f.out];exact m,s.out⟩
theorem gh (p:PW) (t u k:Nat) (x:Int) (h:u≠t):(p.task u k x).DY.getD t bl=p.DY.getD t bl:=by
 unfold PW.task;rw[aa];show ((p.DY.set u _)[t]?).getD bl=_
 rw[cF h,aa]
theorem wO {ls:List (List Int)} {k:Nat} {x:Int} {n:Nat} (h:∀l∈ls,l.length<=n):∀l∈ls.set k (ls.getD k []++[x]),l.length<=n+1:=fun l hl=>by
 rcases ba hl with a|a
 ·exact aB (h l a) (Nat.le_succ _)
 ·rw[a,av,aa]
  cases e:ls[k]? with
  |none=>simp
  |some l0=>exact Nat.succ_le_succ (h l0 (dG e))
theorem Ad {p:PW} (h:p.Fits) (a:∀l∈p.ready,l.length<=50) (t n:Nat):(wnP p t n).Fits:=
 ⟨h.Eb,h.kinds,h.DZ,(eB (eB h t 9 1) t 14 (-1)).DY,h.lines,h.line,h.bits,h.D6,by show (p.ready.set n _).length<=1000;rw[au];exact h.ready,fun l hl=>aB (wO a l hl) oA,h.D9,h.Ee⟩
theorem Ce {p:PW} (h:p.Fits) {d:Nat} {z:Int} {l:List Int} (a:p.lines.getD d []=z::l):l.length+1<=1000:=by
 rw[aa] at a
 cases e:p.lines[d]? with
 |none=>rw[e] at a;cases a
 |some y=>
  rw[e,aT] at a;have b:=h.line y (dG e);rw[a,dO] at b;exact b
theorem ph (p:PW) (t u i j:Nat) (x y:Int) (h:t≠u):(p.task t i x).task u j y=(p.task u j y).task t i x:=by
 have e1:=gh p u t i x h;have e2:=gh p t u j y (Ne.symm h);show ({p with DY:=(p.task t i x).DY.set u (upd ((p.task t i x).DY.getD u bl) j y)}:PW)={p with DY:=(p.task u j y).DY.set t (upd ((p.task u j y).DY.getD t bl) i x)}
 rw[e1,e2];unfold PW.task;simp only;rw[List.set_comm _ _ h]
theorem zu {s:Int} (h:pl s=7):s=2∨s=3∨s=4:=by
 unfold pl at h;by_cases a:s=2∨s=3∨s=4
 ·exact a
 ·rw[ae a] at h;by_cases b:s=6
  ·rw[af b] at h;omega
  ·rw[ae b] at h;omega
def fkV (p:PW) (d:Nat):Int:=match p.lines.getD d [] with
 |[]=> -1
 |z::_=>if p.DY.getD z.toNat bl 9=4 then -1 else z
theorem AR {p:PW} {d u:Nat} {l:List Int} (a:p.lines.getD d []=(u:Int)::l):fkV p d=if p.DY.getD u bl 9=4 then -1 else (u:Int):=by
 unfold fkV;rw[a];rfl
theorem sk {p:PW} (h:Snd p) {d u:Nat} (e:d<p.kinds.length) (f:p.kinds[d]=7) (g:u<p.kinds.length) (hk:p.kinds[u]=6) (c:p.DY.getD u bl 14=d):p.DY.getD u bl 9=2∨p.DY.getD u bl 9=3∨p.DY.getD u bl 9=4:=by
 obtain⟨a,_⟩:=pa h g hk c;have b:=xI e a;exact zu (by rw[<-b];exact f)
theorem vR {p:PW} (h:Snd p) {d:Nat} (g:d<p.kinds.length) (i:p.kinds[d]=7):(fkV p d= -1)∨(∃(u:Nat) (l:List Int) (b:u<p.kinds.length),fkV p d=u∧p.lines.getD d []=(u:Int)::l∧p.kinds[u]=6∧p.DY.getD u bl 14=d∧(p.DY.getD u bl 9=2∨p.DY.getD u bl 9=3)):=by
 cases hz:p.lines.getD d [] with
 |nil=>left;unfold fkV;rw[hz]
 |cons z l=>
  obtain⟨u,b,rfl,hk,f⟩:=hP h (by rw[h.lf.lines];exact g) hz;have e:=AR hz;by_cases c:p.DY.getD u bl 9=4
  ·left;rw[e,af c]
  ·right
   rw[ae c] at e;rcases sk h g i b hk f with a|a|a
   ·exact⟨u,l,b,e,rfl,hk,f,.inl a⟩
   ·exact⟨u,l,b,e,rfl,hk,f,.inr a⟩
   ·exact absurd a c
def tkQ (p:PW) (d t u:Nat) (l:List Int):PW:=((((({p with lines:=p.lines.set d l}:PW).task t 1 (p.DY.getD u bl 16)).task t 2 (p.DY.getD u bl 15)).task u 16 0).task u 15 0).task u 14 (-1)
theorem zO (p:PW) (d t u:Nat) (l:List Int) (a:t≠u) (c:u<p.DY.length):((((frP p d u l).task t 1 (p.DY.getD u bl 16)).task t 2 (p.DY.getD u bl 15)).task u 16 0).task u 15 0=tkQ p d t u l:=by
 unfold tkQ frP;have b:u<(({p with lines:=p.lines.set d l}:PW)).DY.length:=c;rw[ph _ u t 14 1 _ _ (Ne.symm a),ph _ u t 14 2 _ _ (Ne.symm a),pf _ u 14 16 _ _ (by rw[am,am];exact b) oD,pf _ u 14 15 _ _ (by rw[am,am,am];exact b) oD]
def tkU (p:PW) (t u:Nat):PW:=(((p.task t 1 (p.DY.getD u bl 16)).task t 2 (p.DY.getD u bl 15)).task u 16 0).task u 15 0
theorem zP (p:PW) (t u:Nat):(tkU p t u).DY.length=p.DY.length:=by
 unfold tkU;rw[am,am,am,am]
theorem vf (p:PW) (d t u:Nat) (l:List Int):(tkQ p d t u l).DY.length=p.DY.length:=by
 unfold tkQ;rw[am,am,am,am,am]
theorem Cd (p:PW) (t u k:Nat) (a:t≠u) (b:u<p.DY.length) (c:k≠15) (d:k≠16):(tkU p t u).DY.getD u bl k=p.DY.getD u bl k:=by
 unfold tkU;rw[gN _ u 15 k _ (by rw[am,am,am];exact b) c,gN _ u 16 k _ (by rw[am,am];exact b) d,gh _ u t 2 _ a,gh _ u t 1 _ a]
theorem ve (p:PW) (d t u k:Nat) (l:List Int) (f:t≠u) (a:u<p.DY.length) (b:k≠15) (c:k≠16) (e:k≠14):(tkQ p d t u l).DY.getD u bl k=p.DY.getD u bl k:=by
 have h:=gN (tkU p t u) u 14 k (-1) (by rw[zP];exact a) e;rw[Cd p t u k f a b c] at h;exact h
def tkP (p:PW) (t0 d0:Int):PW:=if fkV p d0.toNat= -1 then ssP p t0.toNat d0.toNat 4
 else (if p.DY.getD (fkV p d0.toNat).toNat bl 9=3 then ((tkQ p d0.toNat t0.toNat (fkV p d0.toNat).toNat (p.lines.getD d0.toNat []).tail).task (fkV p d0.toNat).toNat 9 5).task t0.toNat 17 (fkV p d0.toNat) else wnP (tkQ p d0.toNat t0.toNat (fkV p d0.toNat).toNat (p.lines.getD d0.toNat []).tail) (fkV p d0.toNat).toNat (rdN p (fkV p d0.toNat).toNat))
theorem Cc {p:PW} {t d:Nat} (h:fkV p d= -1):tkP p t d=ssP p t d 4:=by
 unfold tkP;rw[ag,ag,af h]
theorem zN {p:PW} {t d u:Nat} {l:List Int} (h:fkV p d=u) (a:p.lines.getD d []=(u:Int)::l):tkP p t d=if p.DY.getD u bl 9=3 then ((tkQ p d t u l).task u 9 5).task t 17 u else wnP (tkQ p d t u l) u (rdN p u):=by
 unfold tkP;rw[ag,ag,h,ae oA,ag,a];rfl
theorem xh {p:PW} (h:p.Fits) (d t u:Nat) (l:List Int) (hl:l.length<=1000):(tkQ p d t u l).Fits:=by
 unfold tkQ;exact eB (eB (eB (eB (eB (show ({p with lines:=p.lines.set d l}:PW).Fits from⟨h.Eb,h.kinds,h.DZ,h.DY,(jV h d u l hl).lines,(jV h d u l hl).line,h.bits,h.D6,h.ready,h.next,h.D9,h.Ee⟩) t 1 _) t 2 _) u 16 0) u 15 0) u 14 (-1)
def anP (p:PW) (t0 v:Int):PW:=wnP (((p.task t0.toNat 17 (-1)).task (p.DY.getD t0.toNat bl 17).toNat 1 0).task (p.DY.getD t0.toNat bl 17).toNat 2 v) (p.DY.getD t0.toNat bl 17).toNat (rdN p (p.DY.getD t0.toNat bl 17).toNat)
theorem Ah {p:PW} {t u:Nat} (v:Int) (h:p.DY.getD t bl 17=u):anP p t v=wnP (((p.task t 17 (-1)).task u 1 0).task u 2 v) u (rdN p u):=by
 unfold anP;rw[ag,h,ag]
theorem zn {p:PW} (h:Snd p) {t:Nat} (s:t<p.kinds.length) (hk:p.kinds[t]=6) (r:p.DY.getD t bl 17≠ -1):∃(u:Nat) (b:u<p.kinds.length),p.DY.getD t bl 17=u∧p.kinds[u]=6∧p.DY.getD u bl 9=5∧lvs u p.lines=p.lines∧lvs u p.ready=p.ready∧p.D6.map (noT u)=p.D6:=by
 obtain⟨_,g,f,_,_⟩:=ir h s hk;unfold ffB at g;rw[al] at g;have a:=g.2;unfold fB at a;have k:(p.DY.getD t bl 17== -1)=false:=by simpa using r
 rw[k,Bool.false_or] at a;generalize e:p.DY.getD t bl 17=z at*;obtain⟨u,b,rfl,n⟩:∃(u:Nat) (b:u<p.kinds.length),z=u∧p.kinds[u]=6:=by
  unfold isB eX at a;by_cases q:0<=z
  ·rw[af q] at a;obtain⟨u,rfl⟩:∃u:Nat,z=u:=⟨z.toNat,oA⟩
   rw[ag] at a;obtain⟨b,m⟩:=List.getElem?_eq_some_iff.1 (eq_of_beq a);exact⟨u,b,rfl,m⟩
  ·rw[ae q] at a
   cases a
 unfold dbB at f;rw[al] at f;have c:=f.1;unfold owB at c;rw[e,k,Bool.false_or,al] at c;have o:u<p.DY.length:=by rw[h.lf.DY];exact b
 have l:=eq_of_beq c.1;rw[xY o] at l;have d:p.DY.getD u bl 9=5:=by rw[aa,ac o];exact l
 obtain⟨_,_,_,j,i⟩:=ir h b n;unfold srB at j;rw[d,af oD,al] at j;unfold rrB at i;rw[d,ae oD] at i;have m:=eq_of_beq j.2;have v:=eq_of_beq i;exact⟨u,b,rfl,n,d,iS oA,iS oA,nA oA⟩
def akP (q:PW) (t u:Nat):PW:=(({q with D6:=q.D6.map (noT t)}:PW).task t 9 5).task u 17 t
def fsV (p:PW) (d:Nat):Int:=match p.lines.getD d [] with
 |[]=> -1
 |z::_=>if p.DY.getD z.toNat bl 9=4 then z else -1
def wdP (p:PW) (d u:Nat) (l:List Int) (b v:Int):PW:=wnP (((frP p d u l).task u 1 b).task u 2 v) u (rdN p u)
def snP (p:PW) (t0 d0 b v:Int) (c:Bool):PW:=if fsV p d0.toNat= -1 then ssP ((p.task t0.toNat 15 v).task t0.toNat 16 b) t0.toNat d0.toNat (if c then 3 else 2)
 else (if c then akP (wdP p d0.toNat (fsV p d0.toNat).toNat (p.lines.getD d0.toNat []).tail b v) t0.toNat (fsV p d0.toNat).toNat else wdP p d0.toNat (fsV p d0.toNat).toNat (p.lines.getD d0.toNat []).tail b v)
theorem vT {p:PW} (h:Snd p) {d:Nat} (e:d<p.lines.length):(fsV p d= -1)∨(∃(u:Nat) (l:List Int) (b:u<p.kinds.length),fsV p d=u∧p.lines.getD d []=(u:Int)::l∧p.kinds[u]=6∧p.DY.getD u bl 14=d∧p.DY.getD u bl 9=4):=by
 cases hz:p.lines.getD d [] with
 |nil=>left;unfold fsV;rw[hz]
 |cons z l=>
  obtain⟨u,b,rfl,hk,c⟩:=hP h e hz;by_cases a:p.DY.getD u bl 9=4
  ·right
   exact⟨u,l,b,by unfold fsV;rw[hz];show (if p.DY.getD u bl 9=4 then (u:Int) else -1)=u;rw[af a],rfl,hk,c,a⟩
  ·left
   unfold fsV;rw[hz];show (if p.DY.getD u bl 9=4 then (u:Int) else -1)= -1
   rw[ae a]
theorem BZ {p:PW} {t d:Nat} (b v:Int) (c:Bool) (h:fsV p d= -1):snP p t d b v c=ssP ((p.task t 15 v).task t 16 b) t d (if c then 3 else 2):=by
 unfold snP;rw[ag,ag,af h]
theorem zH {p:PW} {t d u:Nat} {l:List Int} (b v:Int) (c:Bool) (h:fsV p d=u) (a:p.lines.getD d []=(u:Int)::l):snP p t d b v c=if c then akP (wdP p d u l b v) t u else wdP p d u l b v:=by
 unfold snP;rw[ag,ag,h,ae oA,ag,a];rfl
theorem Cj (p:PW) (d u:Nat) (l:List Int) (b v:Int):(wdP p d u l b v).DY.length=p.DY.length:=by
 show (((((frP p d u l).task u 1 b).task u 2 v).task u 9 1).task u 14 (-1)).DY.length=_
 rw[am,am,am,am,i5]
theorem Ac {p:PW} (h:p.Fits) (a:∀l∈p.ready,l.length<=50) (d u:Nat) (l:List Int) (hl:l.length<=1000) (b v:Int):(wdP p d u l b v).Fits:=Ad (eB (eB (jV h d u l hl) u 1 b) u 2 v) a _ _
theorem o7 (wb:Nat) (tag:Nat->Nat) (V:Nat->Value) (p:PW) (t d:Nat) (b v:Int) (c:Bool) (W:World) (bt:cb W wb tag V p) (E:p.Fits) (F:t<p.DY.length) (J:d<p.lines.length)
  (K:Calls Tryz.prog 87 #[.pointer (some ⟨wb,0,none⟩),.int .i64 d,.bool true] W fun r W'=>r=.returned (.int .i64 (-1))∧W=W'):
  Calls Tryz.prog 51 #[.pointer (some ⟨wb,0,none⟩),.int .i64 t,.int .i64 d,.int .i64 b,.int .i64 v,.bool c] W fun r W'=>r=.returned (.tuple #[])∧∃tag',cb W' wb tag' V (ssP ((p.task t 15 v).task t 16 b) t d (if c then 3 else 2))∧Kt tag tag' W W':=by
 have C:=hid K;have j:=hid (fun X tg (h:cb X wb tg V ((p.task t 15 v).task t 16 b))=>ke wb tg V ((p.task t 15 v).task t 16 b) t d (if c then 3 else 2) X h (eB (eB E t 15 v) t 16 b) (by rw[am,am];exact F) J);have M:(p.DY.length:Int)<=1000:=by have:=E.DY;omega
 have N:(t:Int)<(p.DY.length:Int):=oA;obtain⟨l,k,I⟩:=bt.o.DY.form oA;have f:=hid I;have g:=hid F;have e:=hid bt;have D:=hid (Kt.refl tag W)
 cases c with
 |false=>
  simp only[Bool.false_eq_true,if_false] at j ⊢;go_enter Tryz.func51,Tryz.ntmps51
  go_wp2_with fail
  refine C.mono ?_;rintro r w1 ⟨rfl,rfl⟩;have e4:=hid (show V 3=.slice (some ⟨l,0,none⟩) (p).DY.length k by exact f);have w:=bg e f;have B:=e.Ec e4 (i:=t) (by exact g) (show 15<20 by omega);have x:=e.Ef e4 (t*20+15);obtain⟨b1,q1⟩:=e.task e4 (i:=t) (by exact g) (show 15<20 by omega) v;have a:=hid b1;have q:=hid (D.trans q1);go_upto_region 3 with fail
  generalize World.setCell _ _ _=G at*;have e4:=hid (show V 3=.slice (some ⟨l,0,none⟩) (p.task t 15 v).DY.length k by rw[am];exact f);have w:=bg a f;have B:=a.Ec e4 (i:=t) (by rw[am];exact g) (show 16<20 by omega);have x:=a.Ef e4 (t*20+16);obtain⟨b1,q1⟩:=a.task e4 (i:=t) (by rw[am];exact g) (show 16<20 by omega) b;have m:=hid b1;have s:=hid (q.trans q1);go_upto_region 4 with fail
  generalize World.setCell _ _ _=H at*;go_wp2_with fail
  refine (j.out _ _ m).mono ?_;rintro r L ⟨rfl,A,y,z⟩;have n:=hid y;have u:=hid (s.trans z);go_wp2_with fail
  exact aq (aK rfl _ _ _) rfl ⟨rfl,A,n.out,u.out⟩
 |true=>
  simp only[if_true] at j ⊢;go_enter Tryz.func51,Tryz.ntmps51
  go_wp2_with fail
  refine C.mono ?_;rintro r w1 ⟨rfl,rfl⟩;have e4:=hid (show V 3=.slice (some ⟨l,0,none⟩) (p).DY.length k by exact f);have w:=bg e f;have B:=e.Ec e4 (i:=t) (by exact g) (show 15<20 by omega);have x:=e.Ef e4 (t*20+15);obtain⟨b1,q1⟩:=e.task e4 (i:=t) (by exact g) (show 15<20 by omega) v;have a:=hid b1;have q:=hid (D.trans q1);go_upto_region 3 with fail
  generalize World.setCell _ _ _=G at*;have e4:=hid (show V 3=.slice (some ⟨l,0,none⟩) (p.task t 15 v).DY.length k by rw[am];exact f);have w:=bg a f;have B:=a.Ec e4 (i:=t) (by rw[am];exact g) (show 16<20 by omega);have x:=a.Ef e4 (t*20+16);obtain⟨b1,q1⟩:=a.task e4 (i:=t) (by rw[am];exact g) (show 16<20 by omega) b;have m:=hid b1;have s:=hid (q.trans q1);go_upto_region 4 with fail
  generalize World.setCell _ _ _=H at*;go_wp2_with fail
  refine (j.out _ _ m).mono ?_;rintro r L ⟨rfl,A,y,z⟩;have n:=hid y;have u:=hid (s.trans z);go_wp2_with fail
  exact aq (aK rfl _ _ _) rfl ⟨rfl,A,n.out,u.out⟩
theorem qd (wb:Nat) (tag:Nat->Nat) (V:Nat->Value) (p:PW) (t d u:Nat) (l:List Int) (b v:Int) (c:Bool) (W:World) (bt:cb W wb tag V p) (g:p.Fits) (hn:∀l∈p.ready,l.length<=50) (hs:Snd p) (ht:t<p.DY.length) (Z:d<p.lines.length) (N:p.lines.getD d []=(u:Int)::l) (hu:u<p.kinds.length) (aa:u<p.DY.length) (hk:p.kinds[u]=6) (B:p.DY.getD u bl 9=4):
  Calls Tryz.prog 51 #[.pointer (some ⟨wb,0,none⟩),.int .i64 t,.int .i64 d,.int .i64 b,.int .i64 v,.bool c] W fun r W'=>r=.returned (.tuple #[])∧∃tag',cb W' wb tag' V (if c then akP (wdP p d u l b v) t u else wdP p d u l b v)∧Kt tag tag' W W':=by
 have a:=aa;obtain⟨r1,r2,r3,r4⟩:=lD hs hu hk;have ad:=Ce g N;have E:=hid (ld wb tag V p d true W bt g Z u l N a (by rw[B];decide));have M:=jV g d u l oA;have F:=hid (fun X tg (h:cb X wb tg V (frP p d u l))=>hJ wb tg V (frP p d u l) u b v X h M (by rw[i5];exact a));have I:=hid (fun X tg (h:cb X wb tg V (((frP p d u l).task u 1 b).task u 2 v))=>gn wb tg V (((frP p d u l).task u 1 b).task u 2 v) u (rdN p u) X h (eB (eB M u 1 b) u 2 v) (by rw[am,am,i5];exact a) r1 (by rw[iH p d u l b v 18 a oD oD oD];exact r3) (by rw[iH p d u l b v 10 a oD oD oD];exact r4) (by rw[iH p d u l b v 18 a oD oD oD,iH p d u l b v 10 a oD oD oD];exact r2));have P:=hid (fun X tg (h:cb X wb tg V (wdP p d u l b v))=>uE wb tg V (wdP p d u l b v) t X h (Ac g hn d u l oA b v));have e:=hid (Cj p d u l b v);have af:¬((u:Int)<0):=oA;have ac:(p.DY.length:Int)<=1000:=by have:=g.DY;omega
 have ae:(t:Int)<(p.DY.length:Int):=oA;obtain⟨L,K,U⟩:=bt.o.DY.form oA;have m:=hid U;have G:=hid ht;have ag:(u:Int)<(p.DY.length:Int):=oA;have H:=hid a;have J:=hid (show wnP (((frP p d u l).task u 1 b).task u 2 v) u (rdN p u)=wdP p d u l b v from rfl)
 cases c with
 |false=>
  simp only[Bool.false_eq_true,if_false];go_enter Tryz.func51,Tryz.ntmps51
  go_wp2_with fail
  refine E.mono ?_;rintro r w1 ⟨rfl,ab,z,k1⟩;have n:=hid z;have w:=hid k1;go_wp2_with fail
  refine (F.out _ _ n).mono ?_;rintro r w2 ⟨rfl,A,k2⟩;have q:=hid A;have x:=hid (w.trans k2);go_wp2_with fail
  refine (I.out _ _ q).mono ?_;rintro r w3 ⟨rfl,D,f,C⟩;rw[J.out] at f;have s:=hid f;have y:=hid (x.trans C);go_wp2_with fail
  exact aX (aK rfl _ _ _) rfl ⟨rfl,D,s.out,y.out⟩
 |true=>
  simp only[if_true];unfold akP;go_enter Tryz.func51,Tryz.ntmps51
  go_wp2_with fail
  refine E.mono ?_;rintro r w1 ⟨rfl,ab,z,k1⟩;have n:=hid z;have w:=hid k1;go_wp2_with fail
  refine (F.out _ _ n).mono ?_;rintro r w2 ⟨rfl,A,k2⟩;have q:=hid A;have x:=hid (w.trans k2);go_wp2_with fail
  refine (I.out _ _ q).mono ?_;rintro r w3 ⟨rfl,D,f,C⟩;rw[J.out] at f;have s:=hid f;have y:=hid (x.trans C);go_wp2_with fail
  refine (P.out _ _ s).mono ?_;rintro r w4 ⟨rfl,B,k4⟩;have j:=hid B;have Q:=hid (y.trans k4);have e4:=hid (show V 3=.slice (some ⟨L,0,none⟩) (({wdP p d u l b v with D6:=(wdP p d u l b v).D6.map (noT t)}:PW)).DY.length K by rw[show ({wdP p d u l b v with D6:=(wdP p d u l b v).D6.map (noT t)}:PW).DY.length=p.DY.length from e];exact m);have T:=bg j m;have xa:=j.Ec e4 (i:=t) (by rw[show ({wdP p d u l b v with D6:=(wdP p d u l b v).D6.map (noT t)}:PW).DY.length=p.DY.length from e];exact G) (show 9<20 by omega);have Y:=j.Ef e4 (t*20+9);obtain⟨b1,q1⟩:=j.task e4 (i:=t) (by rw[show ({wdP p d u l b v with D6:=(wdP p d u l b v).D6.map (noT t)}:PW).DY.length=p.DY.length from e];exact G) (show 9<20 by omega) 5;have k:=hid b1;have R:=hid (Q.trans q1);go_upto_region 12 with fail
  generalize World.setCell _ _ _=W5 at*;have e4:=hid (show V 3=.slice (some ⟨L,0,none⟩) (({wdP p d u l b v with D6:=(wdP p d u l b v).D6.map (noT t)}:PW).task t 9 5).DY.length K by rw[am,show ({wdP p d u l b v with D6:=(wdP p d u l b v).D6.map (noT t)}:PW).DY.length=p.DY.length from e];exact m);have T:=bg k m;have xa:=k.Ec e4 (i:=u) (by rw[am,show ({wdP p d u l b v with D6:=(wdP p d u l b v).D6.map (noT t)}:PW).DY.length=p.DY.length from e];exact H) (show 17<20 by omega);have Y:=k.Ef e4 (u*20+17);obtain⟨b1,q1⟩:=k.task e4 (i:=u) (by rw[am,show ({wdP p d u l b v with D6:=(wdP p d u l b v).D6.map (noT t)}:PW).DY.length=p.DY.length from e];exact H) (show 17<20 by omega) t;have O:=hid b1;have S:=hid (R.trans q1);go_wp2_with fail
  exact aX (aK rfl _ _ _) rfl ⟨rfl,D,O.out,S.out⟩
