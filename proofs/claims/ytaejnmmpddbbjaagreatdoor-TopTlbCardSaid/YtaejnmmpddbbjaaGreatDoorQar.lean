/- Qar -/
import Derived.Test.YtaejnmmpddbbjaaGreatDoorQaq
namespace Go.Proofs.YtaejnmmpddbbjaaGreatDoor.Wd
open Go.RowKit Mem Bw Nums Mmu
theorem line_first {p:PW} (h:Snd p) {a:Nat} (j:a<p.lines.length) {z:Int} {l:List Int} (n:p.lines.getD a []=z::l):∃(t:Nat) (g:t<p.kinds.length),z=t∧p.kinds[t]=6∧p.tasks.getD t bl 14=a:=by
 have e:p.lines[a]=z::l:=by rw[←n,aa,ac j];rfl
 have c:blB p a (p.kinds.getD a 0) (p.bits.getD a 0) p.lines[a]=false:=h.b6 a j;rw[e] at c;unfold blB at c;rw[d6,List.any_cons,d6] at c;have d:=c.2.1;unfold tB at d;rw[cD,am,am] at d;have b:=d.1.1;have f:=eq_of_beq d.1.2;unfold isB kindAt at b;by_cases i:0≤z
 ·rw[ag i] at b;obtain⟨t,rfl⟩:∃t:Nat,z=t:=⟨z.toNat,by omega⟩
  rw[ah] at b;have k:=eq_of_beq b;obtain⟨g,m⟩:=List.getElem?_eq_some_iff.1 k;have hl:t<p.tasks.length:=by rw[h.lf.tasks];exact g
  unfold atV at f;rw[ah,ac hl] at f;refine⟨t,g,rfl,m,?_⟩;rw[aa,ac hl];exact f
 ·rw[ae i] at b
  cases b
theorem stands_at {p:PW} (h:Snd p) {t a:Nat} (i:t<p.kinds.length) (hk:p.kinds[t]=6) (g:p.tasks.getD t bl 14=a):isB p a (pl (p.tasks.getD t bl 9))=true∧cna t p.lines=1∧lvs t p.ready=p.ready∧p.cores.map (noT t)=p.cores∧pl (p.tasks.getD t bl 9)≠0:=by
 obtain⟨_,_,_,b,d⟩:=snd_task h i hk;unfold srB at b;rw[g] at b;by_cases c:pl (p.tasks.getD t bl 9)=0
 ·rw[ag c,am] at b;have:=eq_of_beq b.1;omega
 ·rw[ae c,am,am] at b;have j:=eq_of_beq b.1.2;have f:¬p.tasks.getD t bl 9=1:=fun e=>c (by rw[e];decide);unfold rrB at d;rw[ae f] at d;have k:=eq_of_beq d;exact⟨b.1.1,by omega,lvs_self (by omega),noT_self (by omega),c⟩
theorem isB_at {p:PW} {a:Nat} {k:Int} (b:a<p.kinds.length) (h:isB p a k=true):p.kinds[a]=k:=by
 unfold isB at h;rw[kindAt_some b] at h;simpa using h
theorem task_comm (p:PW) (t i j:Nat) (x y:Int) (a:t<p.tasks.length) (h:i≠j):(p.task t i x).task t j y=(p.task t j y).task t i x:=by
 unfold PW.task;simp only;rw[set_getD _ t _ _ a,set_getD _ t _ _ a,eo,eo,upd_comm _ i j _ _ h]
theorem fr_fits {p:PW} (h:p.Fits) (a t:Nat) (l:List Int) (hl:l.length≤1000):(frP p a t l).Fits:=by
 have b:({p with lines:=p.lines.set a l}:PW).Fits:=⟨h.ram,h.kinds,h.slots,h.tasks,by show (p.lines.set a l).length≤1000;rw[ar];exact h.lines,fun x d=>by
  rcases bj d with c|c
  ·exact h.line x c
  ·rw[c];exact hl,h.bits,h.cores,h.ready,h.next,h.tlbs,h.doms⟩
 unfold frP;exact⟨b.ram,b.kinds,b.slots,by rw[ap];exact b.tasks,b.lines,b.line,b.bits,b.cores,b.ready,b.next,b.tlbs,b.doms⟩
theorem tsk_fits {p:PW} (h:p.Fits) (t k:Nat) (x:Int):(p.task t k x).Fits:=⟨h.ram,h.kinds,h.slots,by rw[ap];exact h.tasks,h.lines,h.line,h.bits,h.cores,h.ready,h.next,h.tlbs,h.doms⟩
theorem fr_task (p:PW) (a t:Nat) (l:List Int) (k:Nat) (b:t<p.tasks.length) (hk:k≠14):(frP p a t l).tasks.getD t bl k=p.tasks.getD t bl k:=by
 unfold frP;exact task_at ({p with lines:=p.lines.set a l}:PW) t 14 k (-1) b hk
theorem fr_len (p:PW) (a t:Nat) (l:List Int):(frP p a t l).tasks.length=p.tasks.length:=ap _ t 14 (-1)
theorem hand_at (p:PW) (a t:Nat) (l:List Int) (x y:Int) (k:Nat) (b:t<p.tasks.length) (c:k≠1) (d:k≠2) (e:k≠14):(((frP p a t l).task t 1 x).task t 2 y).tasks.getD t bl k=p.tasks.getD t bl k:=by
 rw[task_at _ t 2 k _ (by rw[ap,fr_len];exact b) d,task_at _ t 1 k _ (by rw[fr_len];exact b) c,fr_task p a t l k b e]
theorem pl_cases (s:Int):pl s=0∨(pl s=7∧(s=2∨s=3∨s=4))∨(pl s=8∧s=6):=by
 unfold pl;by_cases h:s=2∨s=3∨s=4
 ·exact .inr (.inl ⟨ag h,h⟩)
 ·rw[ae h];by_cases a:s=6
  ·exact .inr (.inr ⟨ag a,a⟩)
  ·exact .inl (ae a)
def rgP (p:PW) (b g:Int):PW:=match p.lines.getD b.toNat [] with
 |[]=>{p with bits:=p.bits.set b.toNat (bits .or .i64 (p.bits.getD b.toNat 0) g)}
 |z::l=>wnP (((frP p b.toNat z.toNat l).task z.toNat 1 0).task z.toNat 2 g) z.toNat (rdN p z.toNat)
def hbP (p:PW) (t b:Int):PW:=if p.bits.getD b.toNat 0=0 then ssP p t.toNat b.toNat 6 else {(p.task t.toNat 1 0).task t.toNat 2 (p.bits.getD b.toNat 0) with bits:=p.bits.set b.toNat 0}
theorem bell_first {p:PW} (h:Snd p) {a t:Nat} (f:a<p.kinds.length) (i:p.kinds[a]=8) (j:t<p.kinds.length) (hk:p.kinds[t]=6) (g:p.tasks.getD t bl 14=a):p.tasks.getD t bl 9=6:=by
 obtain⟨c,_,_,_,d⟩:=stands_at h j hk g;have e:=isB_at f c;rw[i] at e;rcases pl_cases (p.tasks.getD t bl 9) with b|⟨b,_⟩|⟨_,b⟩
 ·exact absurd b d
 ·omega
 ·exact b
theorem BoxT.bitsAt {W:World} {wb:Nat} {tag:Nat→Nat} {V:Nat→Value} {p:PW} (h:BoxT W wb tag V p) {g cap:Nat} (e:V 5=.slice (some ⟨g,0,none⟩) p.bits.length cap) {i:Nat} (hi:i<p.bits.length):W.cell? ⟨g,i,none⟩=some (.int .i64 (p.bits.getD i 0))∧W.frozen? ⟨g,i,none⟩=false:=by
 have a:=h.o.bits;rw[e] at a;refine⟨(a.int hi).trans ?_,a.frozen i⟩;rw[aa,ac hi];rfl
set_option maxRecDepth 100000
set_option maxHeartbeats 4000000
theorem ringBell_nil (wb:Nat) (tag:Nat→Nat) (V:Nat→Value) (p:PW) (a:Nat) (g:Int) (W:World) (bt:BoxT W wb tag V p) (z:p.Fits) (M:a<p.lines.length) (N:a<p.bits.length) (O:p.lines.getD a []=[]) (n:0≤p.bits.getD a 0∧p.bits.getD a 0<65536) (w:0≤g∧g<65536):
  Calls Tryz.prog 139 #[.pointer (some ⟨wb,0,none⟩),.int .i64 a,.int .i64 g] W fun r W'=>r=.returned (.tuple #[])∧∃tag',BoxT W' wb tag' V {p with bits:=p.bits.set a (bits .or .i64 (p.bits.getD a 0) g)}∧Kt tag tag' W W':=by
 have ac:(p.lines.length:Int)≤1000:=by have:=z.lines;omega
 have aa:(a:Int)<(p.lines.length:Int):=by omega
 have ad:(p.bits.length:Int)≤1000:=by have:=z.bits;omega
 have ab:(a:Int)<(p.bits.length:Int):=by omega
 obtain⟨Z,t⟩:=bt.o.lines.form;have x:=bt.o.lines;rw[t] at x;obtain⟨u,cu,s⟩:=x.at M;unfold ci at s;rw[O] at s;obtain⟨q,gu,cap,rfl, -⟩:=s.shape;simp only[List.length_nil] at cu;have U:W.cell? ⟨wb,4,none⟩=some (.slice (some ⟨Z,0,none⟩) p.lines.length p.lines.length):=by rw[af bt.r (k:=4) rfl,t]
 obtain⟨d,j,e5⟩:=bt.o.bits.form (by omega);have f:=hid e5;have m:=hid bt;have D:=hid N;obtain⟨y,A⟩:∃y,p.bits.getD a 0=y:=⟨_,rfl⟩
 rw[A] at n ⊢;have F:=hid A;have E:=hid (fun X=>Cpu.bitwise_int 7 (.inr (.inl rfl)) (y) g X n.1 n.2 w.1 w.2);have C:=hid (show ((Bw.bw 7 y.toNat g.toNat:Nat):Int)=bits .or .i64 (y) g by
  have h:=Bw.or_nat y.toNat g.toNat (by omega) (by omega);rw[show ((y.toNat:Nat):Int)=y by omega,show ((g.toNat:Nat):Int)=g by omega] at h;exact h.symm)
 rw[C.out] at E;clear bt z M N O t x s n w e5 A C;go_enter Tryz.func139,Tryz.ntmps139
 go_wp2_with fail
 clear cu U;have e:Hid (Below W.heap.size W W.drew):=hid (aA W 1);have H:=hid (fun X (h:Below W.heap.size W X)=>show X.cell? ⟨wb,5,none⟩=some (.slice (some ⟨d,0,none⟩) p.bits.length j) by rw[af (m.below h).r (k:=5) rfl,f.out]);have G:=hid (fun X (h:Below W.heap.size W X)=>show X.cell? ⟨d,a,none⟩=some (.int .i64 y) by rw[←F.out];exact ((m.below h).bitsAt f D).1);refine wp_region_F (S:=fun X=>X.cell? ⟨wb,5,none⟩=some (.slice (some ⟨d,0,none⟩) p.bits.length j)) (R:=fun X=>X.cell? ⟨d,a,none⟩=some (.int .i64 y)) [15] (by kernel_rfl) (H.out _ e) (G.out _ e) (fun L J=>?_);have c:=hid L;have b:=hid J;clear L J;refine tF 0 (.pointer (some ⟨wb,0,none⟩)) rfl c (fun _=>b.out) ?_;simp only[jj];refine tF 1 (.pointer (some ⟨wb,0,none⟩)) rfl c (fun _=>b.out) ?_;simp only[jj];refine tF 2 (.pointer (some ⟨wb,5,none⟩)) rfl c (fun _=>b.out) ?_;simp only[jj];refine tG 3 (.slice (some ⟨d,0,none⟩) p.bits.length j) rfl c (fun _=>b.out) ?_;simp only[jj];refine tF 4 (.int .i64 a) rfl c (fun _=>b.out) ?_;simp only[jj];refine tF 5 (.pointer (some ⟨wb,0,none⟩)) rfl c (fun _=>b.out) ?_;simp only[jj];refine tF 6 (.pointer (some ⟨wb,0,none⟩)) rfl c (fun _=>b.out) ?_;simp only[jj];refine tF 7 (.pointer (some ⟨wb,5,none⟩)) rfl c (fun _=>b.out) ?_;simp only[jj];refine tG 8 (.slice (some ⟨d,0,none⟩) p.bits.length j) rfl c (fun _=>b.out) ?_;simp only[jj];refine tF 9 (.int .i64 a) rfl c (fun _=>b.out) ?_;simp only[jj];refine tF 10 (.pointer (some ⟨d,a,none⟩)) rfl c (fun _=>b.out) ?_;simp only[jj];refine wpAnyF_takeR (i:=11) (v:=.int .i64 y) rfl (by kernel_rfl) (by kernel_rfl) (by kernel_rfl) (by kernel_rfl) (by kernel_rfl) (by kernel_rfl) (fun _ _ _ h=>h) (Or.inl ⟨by rfl,fun W h=>by have h3:=h.2;clear h;go_simp⟩) c (fun _=>b.out) ?_;simp only[jj];refine tF 12 (.int .i64 g) rfl c (fun _=>b.out) ?_;simp only[jj];refine r1 13 rfl (fun K l=>?_);go_simp
 refine (E.out _).mono ?_;rintro q w1 ⟨rfl,rfl⟩;go_wp2_with fail
 refine l _ _ c (fun _=>b.out) (fun _ _=>?_);clear l K
 try simp only[Act.put,jD,jE,jF]
 refine tF 14 (.pointer (some ⟨d,a,none⟩)) rfl c (fun _=>b.out) ?_;simp only[jj];obtain⟨Q,Y⟩:=(m.below e).bitsAt f D;rw[F.out] at Q;obtain⟨b6,P⟩:=(m.below e).bitsCell f a (bits .or .i64 y g);have B:=hid (show BoxT (W.setCell ⟨d,a,none⟩ (.int .i64 (bits .or .i64 y g))).drew wb tag V {p with bits:=p.bits.set a (bits .or .i64 y g)} from b6);have T:=hid (show Kt tag tag W (W.setCell ⟨d,a,none⟩ (.int .i64 (bits .or .i64 y g))).drew from Kt.trans (.below e) P);have I:=hid (show (W.setCell ⟨d,a,none⟩ (.int .i64 (bits .or .i64 y g))).drew.cell? ⟨wb,5,none⟩=some (.slice (some ⟨d,0,none⟩) p.bits.length j) by rw[af B.r (k:=5) rfl,f.out]);clear b6 P;refine r1 15 rfl (fun K l=>?_);go_simp
 refine l _ _ I (notClean (by kernel_rfl)) (fun _ _=>?_);clear l K
 try simp only[Act.put]
 refine wpAnyF_done (by kernel_rfl) ?_ _;generalize World.drew (World.setCell _ _ _)=W6 at*;clear H G e I Q Y c b;go_wp2_with fail
 exact aq (aN rfl _ _ _) rfl ⟨rfl,tag,B.out,T.out⟩
theorem ringBell_cons (wb:Nat) (tag:Nat→Nat) (V:Nat→Value) (p:PW) (a t:Nat) (l:List Int) (g:Int) (W:World) (bt:BoxT W wb tag V p) (f:p.Fits) (s:Snd p) (e:a<p.lines.length) (j:p.lines.getD a []=(t:Int)::l) (A:t<p.kinds.length) (hk:p.kinds[t]=6) (z:p.tasks.getD t bl 9=6):
  Calls Tryz.prog 139 #[.pointer (some ⟨wb,0,none⟩),.int .i64 a,.int .i64 g] W fun r W'=>r=.returned (.tuple #[])∧∃tag',BoxT W' wb tag' V (wnP (((frP p a t l).task t 1 0).task t 2 g) t (rdN p t))∧Kt tag tag' W W':=by
 have b:t<p.tasks.length:=by rw[s.lf.tasks];exact A
 have S:(p.lines.length:Int)≤1000:=by have:=f.lines;omega
 have R:(a:Int)<(p.lines.length:Int):=by omega
 have N:l.length+1≤1000:=by
  have c:=f.line _ (aw e);have d:=j;rw[aa,ac e,aS] at d;rw[d] at c;exact c
 obtain⟨M,m⟩:=bt.o.lines.form;have n:=bt.o.lines;rw[m] at n;obtain⟨u,cu,i⟩:=n.at e;unfold ci at i;rw[j] at i;obtain⟨Q,cap,rfl⟩:=i.form (by simp);simp only[dU] at cu;have L:W.cell? ⟨wb,4,none⟩=some (.slice (some ⟨M,0,none⟩) p.lines.length p.lines.length):=by rw[af bt.r (k:=4) rfl,m]
 have O:¬(((l.length+1:Nat):Int)=0):=by omega
 have U:(((l.length+1:Nat):Int)==0)=false:=by simpa using O
 have T:((l.length+1:Nat):Int)≤1000:=by omega
 obtain⟨C,D,E,r4⟩:=rdN_eq s A hk;have v:=hid (front_yes wb tag V p a false W bt f e t l j b (by rw[z];decide));have q:=fr_fits f a t l (by omega);have w:=hid (fun X tg (h:BoxT X wb tg V (frP p a t l))=>handed_ref wb tg V (frP p a t l) t 0 g X h q (by rw[fr_len];exact b));have x:=hid (fun X tg (h:BoxT X wb tg V (((frP p a t l).task t 1 0).task t 2 g))=>woken_ref wb tg V (((frP p a t l).task t 1 0).task t 2 g) t (rdN p t) X h (tsk_fits (tsk_fits q t 1 0) t 2 g) (by rw[ap,ap,fr_len];exact b) C (by rw[hand_at p a t l 0 g 18 b (by decide) (by decide) (by decide)];exact E) (by rw[hand_at p a t l 0 g 10 b (by decide) (by decide) (by decide)];exact r4) (by rw[hand_at p a t l 0 g 18 b (by decide) (by decide) (by decide),hand_at p a t l 0 g 10 b (by decide) (by decide) (by decide)];exact D));clear bt f s e j m n i hk z b C D E r4 q N;go_enter Tryz.func139,Tryz.ntmps139
 go_wp2_with fail
 refine v.mono ?_;rintro r w1 ⟨rfl,Y,c,k1⟩;have F:=hid c;have I:=hid k1;clear c k1 cu L v;go_wp2_with fail
 refine (w.out _ _ F).mono ?_;rintro r w2 ⟨rfl,d,k2⟩;have G:=hid d;have J:=hid (I.trans k2);clear d k2 w;go_wp2_with fail
 refine (x.out _ _ G).mono ?_;rintro r Z ⟨rfl,P,y,B⟩;have H:=hid y;have K:=hid (J.trans B);clear y B x;go_wp2_with fail
 exact aY (aN rfl _ _ _) rfl ⟨rfl,P,H.out,K.out⟩
theorem hearBell_ref (wb:Nat) (tag:Nat→Nat) (V:Nat→Value) (p:PW) (t a:Nat) (W:World) (bt:BoxT W wb tag V p) (g:p.Fits) (m:t<p.tasks.length) (v:a<p.lines.length) (l:a<p.bits.length):
  Calls Tryz.prog 138 #[.pointer (some ⟨wb,0,none⟩),.int .i64 t,.int .i64 a] W fun r W'=>r=.returned (.tuple #[])∧∃tag',BoxT W' wb tag' V (hbP p t a)∧Kt tag tag' W W':=by
 have E:(p.bits.length:Int)≤1000:=by have:=g.bits;omega
 have D:(a:Int)<(p.bits.length:Int):=by omega
 obtain⟨u,s,e5⟩:=bt.o.bits.form (by omega);have h:=hid e5;have z:=hid l;have q:W.cell? ⟨wb,5,none⟩=some (.slice (some ⟨u,0,none⟩) p.bits.length s):=by rw[af bt.r (k:=5) rfl,e5]
 have w:=(bt.bitsAt e5 l).1;have c:=hid (show hbP p t a=if p.bits.getD a 0=0 then ssP p t a 6 else {(p.task t 1 0).task t 2 (p.bits.getD a 0) with bits:=p.bits.set a 0} by unfold hbP;rw[ah,ah]);have n:=hid (stands_ref wb tag V p t a 6 W bt g m v);have f:=hid (handed_ref wb tag V p t 0 (p.bits.getD a 0) W bt g m);generalize p.bits.getD a 0=y at w c f;clear bt g m v l e5;by_cases e:y=0
 ·have i:=hid (c.trans (ag e));subst e;clear f c;go_enter Tryz.func138,Tryz.ntmps138
  go_wp2_with fail
  refine n.mono ?_;rintro r w1 ⟨rfl,B,d,k1⟩;have b:=hid d;have j:=hid k1;clear d k1;go_wp2_with fail
  exact aq (aN rfl _ _ _) rfl ⟨rfl,B,by rw[i.out];exact b,j.out⟩
 ·have i:=hid (c.trans (ae e));have F:(y==0)=false:=by simpa using e
  clear n c e;go_enter Tryz.func138,Tryz.ntmps138
  go_wp2_with fail
  refine f.mono ?_;rintro r w1 ⟨rfl,d,k1⟩;have b:=hid d;have j:=hid k1;clear d k1 f q w;have q:w1.cell? ⟨wb,5,none⟩=some (.slice (some ⟨u,0,none⟩) p.bits.length s):=by rw[af b.r (k:=5) rfl,h.out]
  obtain⟨G,C⟩:=b.bitsAt h z;obtain⟨b2,k2⟩:=b.bitsCell h a 0;have x:=hid b2;have A:=hid (j.trans k2);clear b2 k2;go_wp2_with fail
  exact aY (aN rfl _ _ _) rfl ⟨rfl,tag,by rw[i.out];exact x,A.out⟩
set_option maxRecDepth 512
set_option maxHeartbeats 200000
theorem task_els (p:PW) (t u k:Nat) (x:Int) (h:u≠t):(p.task u k x).tasks.getD t bl=p.tasks.getD t bl:=by
 unfold PW.task;rw[aa];show ((p.tasks.set u _)[t]?).getD bl=_
 rw[cM h,aa]
theorem pushl_le {ls:List (List Int)} {k:Nat} {x:Int} {n:Nat} (h:∀l∈ls,l.length≤n):∀l∈ls.set k (ls.getD k []++[x]),l.length≤n+1:=fun l hl=>by
 rcases bj hl with a|a
 ·exact aD (h l a) (Nat.le_succ _)
 ·rw[a,av,aa]
  cases e:ls[k]? with
  |none=>simp
  |some l0=>exact Nat.succ_le_succ (h l0 (dM e))
theorem wn_fits {p:PW} (h:p.Fits) (a:∀l∈p.ready,l.length≤50) (t n:Nat):(wnP p t n).Fits:=
 ⟨h.ram,h.kinds,h.slots,(tsk_fits (tsk_fits h t 9 1) t 14 (-1)).tasks,h.lines,h.line,h.bits,h.cores,by show (p.ready.set n _).length≤1000;rw[ar];exact h.ready,fun l hl=>aD (pushl_le a l hl) (by omega),h.tlbs,h.doms⟩
theorem tl_le {p:PW} (h:p.Fits) {d:Nat} {z:Int} {l:List Int} (a:p.lines.getD d []=z::l):l.length+1≤1000:=by
 rw[aa] at a
 cases e:p.lines[d]? with
 |none=>rw[e] at a;cases a
 |some y=>
  rw[e,aS] at a;have b:=h.line y (dM e);rw[a,dU] at b;exact b
theorem task_els2 (p:PW) (t u i j:Nat) (x y:Int) (h:t≠u):(p.task t i x).task u j y=(p.task u j y).task t i x:=by
 have e1:=task_els p u t i x h;have e2:=task_els p t u j y (Ne.symm h);show ({p with tasks:=(p.task t i x).tasks.set u (upd ((p.task t i x).tasks.getD u bl) j y)}:PW)={p with tasks:=(p.task u j y).tasks.set t (upd ((p.task u j y).tasks.getD t bl) i x)}
 rw[e1,e2];unfold PW.task;simp only;rw[List.set_comm _ _ h]
theorem pl_door {s:Int} (h:pl s=7):s=2∨s=3∨s=4:=by
 unfold pl at h;by_cases a:s=2∨s=3∨s=4
 ·exact a
 ·rw[ae a] at h;by_cases b:s=6
  ·rw[ag b] at h;omega
  ·rw[ae b] at h;omega
def fkV (p:PW) (d:Nat):Int:=match p.lines.getD d [] with
 |[]=> -1
 |z::_=>if p.tasks.getD z.toNat bl 9=4 then -1 else z
theorem fk_at {p:PW} {d u:Nat} {l:List Int} (a:p.lines.getD d []=(u:Int)::l):fkV p d=if p.tasks.getD u bl 9=4 then -1 else (u:Int):=by
 unfold fkV;rw[a];rfl
theorem door_state {p:PW} (h:Snd p) {d u:Nat} (e:d<p.kinds.length) (f:p.kinds[d]=7) (g:u<p.kinds.length) (hk:p.kinds[u]=6) (c:p.tasks.getD u bl 14=d):p.tasks.getD u bl 9=2∨p.tasks.getD u bl 9=3∨p.tasks.getD u bl 9=4:=by
 obtain⟨a,_⟩:=stands_at h g hk c;have b:=isB_at e a;exact pl_door (by rw[←b];exact f)
theorem fk_cases {p:PW} (h:Snd p) {d:Nat} (g:d<p.kinds.length) (i:p.kinds[d]=7):(fkV p d= -1)∨(∃(u:Nat) (l:List Int) (b:u<p.kinds.length),fkV p d=u∧p.lines.getD d []=(u:Int)::l∧p.kinds[u]=6∧p.tasks.getD u bl 14=d∧(p.tasks.getD u bl 9=2∨p.tasks.getD u bl 9=3)):=by
 cases hz:p.lines.getD d [] with
 |nil=>left;unfold fkV;rw[hz]
 |cons z l=>
  obtain⟨u,b,rfl,hk,f⟩:=line_first h (by rw[h.lf.lines];exact g) hz;have e:=fk_at hz;by_cases c:p.tasks.getD u bl 9=4
  ·left;rw[e,ag c]
  ·right
   rw[ae c] at e;rcases door_state h g i b hk f with a|a|a
   ·exact⟨u,l,b,e,rfl,hk,f,.inl a⟩
   ·exact⟨u,l,b,e,rfl,hk,f,.inr a⟩
   ·exact absurd a c
def tkQ (p:PW) (d t u:Nat) (l:List Int):PW:=((((({p with lines:=p.lines.set d l}:PW).task t 1 (p.tasks.getD u bl 16)).task t 2 (p.tasks.getD u bl 15)).task u 16 0).task u 15 0).task u 14 (-1)
theorem tkQ_ref (p:PW) (d t u:Nat) (l:List Int) (a:t≠u) (c:u<p.tasks.length):((((frP p d u l).task t 1 (p.tasks.getD u bl 16)).task t 2 (p.tasks.getD u bl 15)).task u 16 0).task u 15 0=tkQ p d t u l:=by
 unfold tkQ frP;have b:u<(({p with lines:=p.lines.set d l}:PW)).tasks.length:=c;rw[task_els2 _ u t 14 1 _ _ (Ne.symm a),task_els2 _ u t 14 2 _ _ (Ne.symm a),task_comm _ u 14 16 _ _ (by rw[ap,ap];exact b) (by decide),task_comm _ u 14 15 _ _ (by rw[ap,ap,ap];exact b) (by decide)]
def tkU (p:PW) (t u:Nat):PW:=(((p.task t 1 (p.tasks.getD u bl 16)).task t 2 (p.tasks.getD u bl 15)).task u 16 0).task u 15 0
theorem tkU_len (p:PW) (t u:Nat):(tkU p t u).tasks.length=p.tasks.length:=by
 unfold tkU;rw[ap,ap,ap,ap]
theorem tkQ_len (p:PW) (d t u:Nat) (l:List Int):(tkQ p d t u l).tasks.length=p.tasks.length:=by
 unfold tkQ;rw[ap,ap,ap,ap,ap]
theorem tkU_at (p:PW) (t u k:Nat) (a:t≠u) (b:u<p.tasks.length) (c:k≠15) (d:k≠16):(tkU p t u).tasks.getD u bl k=p.tasks.getD u bl k:=by
 unfold tkU;rw[task_at _ u 15 k _ (by rw[ap,ap,ap];exact b) c,task_at _ u 16 k _ (by rw[ap,ap];exact b) d,task_els _ u t 2 _ a,task_els _ u t 1 _ a]
theorem tkQ_at (p:PW) (d t u k:Nat) (l:List Int) (f:t≠u) (a:u<p.tasks.length) (b:k≠15) (c:k≠16) (e:k≠14):(tkQ p d t u l).tasks.getD u bl k=p.tasks.getD u bl k:=by
 have h:=task_at (tkU p t u) u 14 k (-1) (by rw[tkU_len];exact a) e;rw[tkU_at p t u k f a b c] at h;exact h
def tkP (p:PW) (t0 d0:Int):PW:=if fkV p d0.toNat= -1 then ssP p t0.toNat d0.toNat 4
 else (if p.tasks.getD (fkV p d0.toNat).toNat bl 9=3 then ((tkQ p d0.toNat t0.toNat (fkV p d0.toNat).toNat (p.lines.getD d0.toNat []).tail).task (fkV p d0.toNat).toNat 9 5).task t0.toNat 17 (fkV p d0.toNat) else wnP (tkQ p d0.toNat t0.toNat (fkV p d0.toNat).toNat (p.lines.getD d0.toNat []).tail) (fkV p d0.toNat).toNat (rdN p (fkV p d0.toNat).toNat))
theorem tkP_no {p:PW} {t d:Nat} (h:fkV p d= -1):tkP p t d=ssP p t d 4:=by
 unfold tkP;rw[ah,ah,ag h]
theorem tkP_yes {p:PW} {t d u:Nat} {l:List Int} (h:fkV p d=u) (a:p.lines.getD d []=(u:Int)::l):tkP p t d=if p.tasks.getD u bl 9=3 then ((tkQ p d t u l).task u 9 5).task t 17 u else wnP (tkQ p d t u l) u (rdN p u):=by
 unfold tkP;rw[ah,ah,h,ae (by omega),ah,a];rfl
theorem tkQ_fits {p:PW} (h:p.Fits) (d t u:Nat) (l:List Int) (hl:l.length≤1000):(tkQ p d t u l).Fits:=by
 unfold tkQ;exact tsk_fits (tsk_fits (tsk_fits (tsk_fits (tsk_fits (show ({p with lines:=p.lines.set d l}:PW).Fits from⟨h.ram,h.kinds,h.slots,h.tasks,(fr_fits h d u l hl).lines,(fr_fits h d u l hl).line,h.bits,h.cores,h.ready,h.next,h.tlbs,h.doms⟩) t 1 _) t 2 _) u 16 0) u 15 0) u 14 (-1)
def anP (p:PW) (t0 v:Int):PW:=wnP (((p.task t0.toNat 17 (-1)).task (p.tasks.getD t0.toNat bl 17).toNat 1 0).task (p.tasks.getD t0.toNat bl 17).toNat 2 v) (p.tasks.getD t0.toNat bl 17).toNat (rdN p (p.tasks.getD t0.toNat bl 17).toNat)
theorem anP_at {p:PW} {t u:Nat} (v:Int) (h:p.tasks.getD t bl 17=u):anP p t v=wnP (((p.task t 17 (-1)).task u 1 0).task u 2 v) u (rdN p u):=by
 unfold anP;rw[ah,h,ah]
theorem owed_in {p:PW} (h:Snd p) {t:Nat} (s:t<p.kinds.length) (hk:p.kinds[t]=6) (r:p.tasks.getD t bl 17≠ -1):∃(u:Nat) (b:u<p.kinds.length),p.tasks.getD t bl 17=u∧p.kinds[u]=6∧p.tasks.getD u bl 9=5∧lvs u p.lines=p.lines∧lvs u p.ready=p.ready∧p.cores.map (noT u)=p.cores:=by
 obtain⟨_,g,f,_,_⟩:=snd_task h s hk;unfold ffB at g;rw[am] at g;have a:=g.2;unfold isOrB at a;have k:(p.tasks.getD t bl 17== -1)=false:=by simpa using r
 rw[k,Bool.false_or] at a;generalize e:p.tasks.getD t bl 17=z at*;obtain⟨u,b,rfl,n⟩:∃(u:Nat) (b:u<p.kinds.length),z=u∧p.kinds[u]=6:=by
  unfold isB kindAt at a;by_cases q:0≤z
  ·rw[ag q] at a;obtain⟨u,rfl⟩:∃u:Nat,z=u:=⟨z.toNat,by omega⟩
   rw[ah] at a;obtain⟨b,m⟩:=List.getElem?_eq_some_iff.1 (eq_of_beq a);exact⟨u,b,rfl,m⟩
  ·rw[ae q] at a
   cases a
 unfold dbB at f;rw[am] at f;have c:=f.1;unfold owB at c;rw[e,k,Bool.false_or,am] at c;have o:u<p.tasks.length:=by rw[h.lf.tasks];exact b
 have l:=eq_of_beq c.1;rw[stV_at o] at l;have d:p.tasks.getD u bl 9=5:=by rw[aa,ac o];exact l
 obtain⟨_,_,_,j,i⟩:=snd_task h b n;unfold srB at j;rw[d,ag (by decide),am] at j;unfold rrB at i;rw[d,ae (by decide)] at i;have m:=eq_of_beq j.2;have v:=eq_of_beq i;exact⟨u,b,rfl,n,d,lvs_self (by omega),lvs_self (by omega),noT_self (by omega)⟩
def akP (q:PW) (t u:Nat):PW:=(({q with cores:=q.cores.map (noT t)}:PW).task t 9 5).task u 17 t
def fsV (p:PW) (d:Nat):Int:=match p.lines.getD d [] with
 |[]=> -1
 |z::_=>if p.tasks.getD z.toNat bl 9=4 then z else -1
def wdP (p:PW) (d u:Nat) (l:List Int) (b v:Int):PW:=wnP (((frP p d u l).task u 1 b).task u 2 v) u (rdN p u)
def snP (p:PW) (t0 d0 b v:Int) (c:Bool):PW:=if fsV p d0.toNat= -1 then ssP ((p.task t0.toNat 15 v).task t0.toNat 16 b) t0.toNat d0.toNat (if c then 3 else 2)
 else (if c then akP (wdP p d0.toNat (fsV p d0.toNat).toNat (p.lines.getD d0.toNat []).tail b v) t0.toNat (fsV p d0.toNat).toNat else wdP p d0.toNat (fsV p d0.toNat).toNat (p.lines.getD d0.toNat []).tail b v)
theorem fs_cases {p:PW} (h:Snd p) {d:Nat} (e:d<p.lines.length):(fsV p d= -1)∨(∃(u:Nat) (l:List Int) (b:u<p.kinds.length),fsV p d=u∧p.lines.getD d []=(u:Int)::l∧p.kinds[u]=6∧p.tasks.getD u bl 14=d∧p.tasks.getD u bl 9=4):=by
 cases hz:p.lines.getD d [] with
 |nil=>left;unfold fsV;rw[hz]
 |cons z l=>
  obtain⟨u,b,rfl,hk,c⟩:=line_first h e hz;by_cases a:p.tasks.getD u bl 9=4
  ·right
   exact⟨u,l,b,by unfold fsV;rw[hz];show (if p.tasks.getD u bl 9=4 then (u:Int) else -1)=u;rw[ag a],rfl,hk,c,a⟩
  ·left
   unfold fsV;rw[hz];show (if p.tasks.getD u bl 9=4 then (u:Int) else -1)= -1
   rw[ae a]
theorem snP_no {p:PW} {t d:Nat} (b v:Int) (c:Bool) (h:fsV p d= -1):snP p t d b v c=ssP ((p.task t 15 v).task t 16 b) t d (if c then 3 else 2):=by
 unfold snP;rw[ah,ah,ag h]
theorem snP_yes {p:PW} {t d u:Nat} {l:List Int} (b v:Int) (c:Bool) (h:fsV p d=u) (a:p.lines.getD d []=(u:Int)::l):snP p t d b v c=if c then akP (wdP p d u l b v) t u else wdP p d u l b v:=by
 unfold snP;rw[ah,ah,h,ae (by omega),ah,a];rfl
theorem wd_len (p:PW) (d u:Nat) (l:List Int) (b v:Int):(wdP p d u l b v).tasks.length=p.tasks.length:=by
 show (((((frP p d u l).task u 1 b).task u 2 v).task u 9 1).task u 14 (-1)).tasks.length=_
 rw[ap,ap,ap,ap,fr_len]
theorem wd_fits {p:PW} (h:p.Fits) (a:∀l∈p.ready,l.length≤50) (d u:Nat) (l:List Int) (hl:l.length≤1000) (b v:Int):(wdP p d u l b v).Fits:=wn_fits (tsk_fits (tsk_fits (fr_fits h d u l hl) u 1 b) u 2 v) a _ _
set_option maxRecDepth 100000
set_option maxHeartbeats 4000000
theorem sendNone_ref (wb:Nat) (tag:Nat→Nat) (V:Nat→Value) (p:PW) (t d:Nat) (b v:Int) (c:Bool) (W:World) (bt:BoxT W wb tag V p) (F:p.Fits) (G:t<p.tasks.length) (J:d<p.lines.length)
  (K:Calls Tryz.prog 87 #[.pointer (some ⟨wb,0,none⟩),.int .i64 d,.bool true] W fun r W'=>r=.returned (.int .i64 (-1))∧W=W'):
  Calls Tryz.prog 51 #[.pointer (some ⟨wb,0,none⟩),.int .i64 t,.int .i64 d,.int .i64 b,.int .i64 v,.bool c] W fun r W'=>r=.returned (.tuple #[])∧∃tag',BoxT W' wb tag' V (ssP ((p.task t 15 v).task t 16 b) t d (if c then 3 else 2))∧Kt tag tag' W W':=by
 have y:=hid K;have s:=hid (fun X tg (h:BoxT X wb tg V ((p.task t 15 v).task t 16 b))=>stands_ref wb tg V ((p.task t 15 v).task t 16 b) t d (if c then 3 else 2) X h (tsk_fits (tsk_fits F t 15 v) t 16 b) (by rw[ap,ap];exact G) J);have N:(p.tasks.length:Int)≤1000:=by have:=F.tasks;omega
 have O:(t:Int)<(p.tasks.length:Int):=by omega
 obtain⟨l,j,I⟩:=bt.o.tasks.form (by omega);have f:=hid I;have g:=hid G;have e:=hid bt;have z:=hid (Kt.refl tag W);clear bt F I G J K
 cases c with
 |false=>
  simp only[Bool.false_eq_true,if_false] at s ⊢;go_enter Tryz.func51,Tryz.ntmps51
  go_wp2_with fail
  refine y.mono ?_;rintro r w1 ⟨rfl,rfl⟩;clear y;have e4:=hid (show V 3=.slice (some ⟨l,0,none⟩) (p).tasks.length j by exact f);have m:W.cell? ⟨wb,3,none⟩=some (.slice (some ⟨l,0,none⟩) p.tasks.length j):=by rw[af e.r (k:=3) rfl,f.out]
  have q:=e.taskAt e4 (i:=t) (by exact g) (show 15<20 by omega);have n:=e.tasksFr e4 (t*20+15);obtain⟨b1,q1⟩:=e.task e4 (i:=t) (by exact g) (show 15<20 by omega) v;have a:=hid b1;have u:=hid (z.trans q1);clear b1 q1 e4;clear e z;go_upto_region 3 with fail
  generalize World.setCell _ _ _=E at*;clear m q n;have e4:=hid (show V 3=.slice (some ⟨l,0,none⟩) (p.task t 15 v).tasks.length j by rw[ap];exact f);have m:E.cell? ⟨wb,3,none⟩=some (.slice (some ⟨l,0,none⟩) p.tasks.length j):=by rw[af a.r (k:=3) rfl,f.out]
  have q:=a.taskAt e4 (i:=t) (by rw[ap];exact g) (show 16<20 by omega);have n:=a.tasksFr e4 (t*20+16);obtain⟨b1,q1⟩:=a.task e4 (i:=t) (by rw[ap];exact g) (show 16<20 by omega) b;have A:=hid b1;have C:=hid (u.trans q1);clear b1 q1 e4;clear a u;go_upto_region 4 with fail
  generalize World.setCell _ _ _=L at*;clear m q n;go_wp2_with fail
  refine (s.out _ _ A).mono ?_;rintro r M ⟨rfl,H,w,x⟩;have B:=hid w;have D:=hid (C.trans x);clear w x s;go_wp2_with fail
  exact aq (aN rfl _ _ _) rfl ⟨rfl,H,B.out,D.out⟩
 |true=>
  simp only[if_true] at s ⊢;go_enter Tryz.func51,Tryz.ntmps51
  go_wp2_with fail
  refine y.mono ?_;rintro r w1 ⟨rfl,rfl⟩;clear y;have e4:=hid (show V 3=.slice (some ⟨l,0,none⟩) (p).tasks.length j by exact f);have m:W.cell? ⟨wb,3,none⟩=some (.slice (some ⟨l,0,none⟩) p.tasks.length j):=by rw[af e.r (k:=3) rfl,f.out]
  have q:=e.taskAt e4 (i:=t) (by exact g) (show 15<20 by omega);have n:=e.tasksFr e4 (t*20+15);obtain⟨b1,q1⟩:=e.task e4 (i:=t) (by exact g) (show 15<20 by omega) v;have a:=hid b1;have u:=hid (z.trans q1);clear b1 q1 e4;clear e z;go_upto_region 3 with fail
  generalize World.setCell _ _ _=E at*;clear m q n;have e4:=hid (show V 3=.slice (some ⟨l,0,none⟩) (p.task t 15 v).tasks.length j by rw[ap];exact f);have m:E.cell? ⟨wb,3,none⟩=some (.slice (some ⟨l,0,none⟩) p.tasks.length j):=by rw[af a.r (k:=3) rfl,f.out]
  have q:=a.taskAt e4 (i:=t) (by rw[ap];exact g) (show 16<20 by omega);have n:=a.tasksFr e4 (t*20+16);obtain⟨b1,q1⟩:=a.task e4 (i:=t) (by rw[ap];exact g) (show 16<20 by omega) b;have A:=hid b1;have C:=hid (u.trans q1);clear b1 q1 e4;clear a u;go_upto_region 4 with fail
  generalize World.setCell _ _ _=L at*;clear m q n;go_wp2_with fail
  refine (s.out _ _ A).mono ?_;rintro r M ⟨rfl,H,w,x⟩;have B:=hid w;have D:=hid (C.trans x);clear w x s;go_wp2_with fail
  exact aq (aN rfl _ _ _) rfl ⟨rfl,H,B.out,D.out⟩
theorem sendYes_ref (wb:Nat) (tag:Nat→Nat) (V:Nat→Value) (p:PW) (t d u:Nat) (l:List Int) (b v:Int) (c:Bool) (W:World) (bt:BoxT W wb tag V p) (g:p.Fits) (Z:∀l∈p.ready,l.length≤50) (hs:Snd p) (ht:t<p.tasks.length) (Y:d<p.lines.length) (N:p.lines.getD d []=(u:Int)::l) (hu:u<p.kinds.length) (aa:u<p.tasks.length) (hk:p.kinds[u]=6) (A:p.tasks.getD u bl 9=4):
  Calls Tryz.prog 51 #[.pointer (some ⟨wb,0,none⟩),.int .i64 t,.int .i64 d,.int .i64 b,.int .i64 v,.bool c] W fun r W'=>r=.returned (.tuple #[])∧∃tag',BoxT W' wb tag' V (if c then akP (wdP p d u l b v) t u else wdP p d u l b v)∧Kt tag tag' W W':=by
 have a:u<p.tasks.length:=aa;obtain⟨r1,r2,r3,r4⟩:=rdN_eq hs hu hk;have ab:=tl_le g N;have D:=hid (front_yes wb tag V p d true W bt g Y u l N a (by rw[A];decide));have M:=fr_fits g d u l (by omega);have E:=hid (fun X tg (h:BoxT X wb tg V (frP p d u l))=>handed_ref wb tg V (frP p d u l) u b v X h M (by rw[fr_len];exact a));have F:=hid (fun X tg (h:BoxT X wb tg V (((frP p d u l).task u 1 b).task u 2 v))=>woken_ref wb tg V (((frP p d u l).task u 1 b).task u 2 v) u (rdN p u) X h (tsk_fits (tsk_fits M u 1 b) u 2 v) (by rw[ap,ap,fr_len];exact a) r1 (by rw[hand_at p d u l b v 18 a (by decide) (by decide) (by decide)];exact r3) (by rw[hand_at p d u l b v 10 a (by decide) (by decide) (by decide)];exact r4) (by rw[hand_at p d u l b v 18 a (by decide) (by decide) (by decide),hand_at p d u l b v 10 a (by decide) (by decide) (by decide)];exact r2));have J:=hid (fun X tg (h:BoxT X wb tg V (wdP p d u l b v))=>off_ref wb tg V (wdP p d u l b v) t X h (wd_fits g Z d u l (by omega) b v));have e:=hid (wd_len p d u l b v);have ag:¬((u:Int)<0):=by omega
 have ad:(p.tasks.length:Int)≤1000:=by have:=g.tasks;omega
 have ae:(t:Int)<(p.tasks.length:Int):=by omega
 obtain⟨I,H,T⟩:=bt.o.tasks.form (by omega);have s:=hid T;have K:=hid ht;have ah:(u:Int)<(p.tasks.length:Int):=by omega
 have L:=hid a;have R:=hid (show wnP (((frP p d u l).task u 1 b).task u 2 v) u (rdN p u)=wdP p d u l b v from rfl);clear bt g hs Y N hk A a r1 r2 r3 r4 M ab T ht aa hu Z
 cases c with
 |false=>
  simp only[Bool.false_eq_true,if_false];clear J K L s e;go_enter Tryz.func51,Tryz.ntmps51
  go_wp2_with fail
  refine D.mono ?_;rintro r w1 ⟨rfl,ac,y,k1⟩;have j:=hid y;have w:=hid k1;clear y k1 D;go_wp2_with fail
  refine (E.out _ _ j).mono ?_;rintro r w2 ⟨rfl,z,k2⟩;have m:=hid z;have x:=hid (w.trans k2);clear z k2 E j w;go_wp2_with fail
  refine (F.out _ _ m).mono ?_;rintro r w3 ⟨rfl,O,f,B⟩;rw[R.out] at f;have C:=hid f;have G:=hid (x.trans B);clear f B F m x;go_wp2_with fail
  exact aY (aN rfl _ _ _) rfl ⟨rfl,O,C.out,G.out⟩
 |true=>
  simp only[if_true];unfold akP;go_enter Tryz.func51,Tryz.ntmps51
  go_wp2_with fail
  refine D.mono ?_;rintro r w1 ⟨rfl,ac,y,k1⟩;have j:=hid y;have w:=hid k1;clear y k1 D;go_wp2_with fail
  refine (E.out _ _ j).mono ?_;rintro r w2 ⟨rfl,z,k2⟩;have m:=hid z;have x:=hid (w.trans k2);clear z k2 E j w;go_wp2_with fail
  refine (F.out _ _ m).mono ?_;rintro r w3 ⟨rfl,O,f,B⟩;rw[R.out] at f;have C:=hid f;have G:=hid (x.trans B);clear f B F m x;go_wp2_with fail
  refine (J.out _ _ C).mono ?_;rintro r w4 ⟨rfl,A,k4⟩;have n:=hid A;have P:=hid (G.trans k4);clear A k4 J C G;have e4:=hid (show V 3=.slice (some ⟨I,0,none⟩) (({wdP p d u l b v with cores:=(wdP p d u l b v).cores.map (noT t)}:PW)).tasks.length H by rw[show ({wdP p d u l b v with cores:=(wdP p d u l b v).cores.map (noT t)}:PW).tasks.length=p.tasks.length from e];exact s);have S:w4.cell? ⟨wb,3,none⟩=some (.slice (some ⟨I,0,none⟩) p.tasks.length H):=by rw[af n.r (k:=3) rfl,s.out]
  have xa:=n.taskAt e4 (i:=t) (by rw[show ({wdP p d u l b v with cores:=(wdP p d u l b v).cores.map (noT t)}:PW).tasks.length=p.tasks.length from e];exact K) (show 9<20 by omega);have U:=n.tasksFr e4 (t*20+9);obtain⟨b1,q1⟩:=n.task e4 (i:=t) (by rw[show ({wdP p d u l b v with cores:=(wdP p d u l b v).cores.map (noT t)}:PW).tasks.length=p.tasks.length from e];exact K) (show 9<20 by omega) 5;have q:=hid b1;have Q:=hid (P.trans q1);clear b1 q1 e4;clear n P;go_upto_region 12 with fail
  generalize World.setCell _ _ _=W5 at*;clear S xa U;have e4:=hid (show V 3=.slice (some ⟨I,0,none⟩) (({wdP p d u l b v with cores:=(wdP p d u l b v).cores.map (noT t)}:PW).task t 9 5).tasks.length H by rw[ap,show ({wdP p d u l b v with cores:=(wdP p d u l b v).cores.map (noT t)}:PW).tasks.length=p.tasks.length from e];exact s);have S:W5.cell? ⟨wb,3,none⟩=some (.slice (some ⟨I,0,none⟩) p.tasks.length H):=by rw[af q.r (k:=3) rfl,s.out]
  have xa:=q.taskAt e4 (i:=u) (by rw[ap,show ({wdP p d u l b v with cores:=(wdP p d u l b v).cores.map (noT t)}:PW).tasks.length=p.tasks.length from e];exact L) (show 17<20 by omega);have U:=q.tasksFr e4 (u*20+17);obtain⟨b1,q1⟩:=q.task e4 (i:=u) (by rw[ap,show ({wdP p d u l b v with cores:=(wdP p d u l b v).cores.map (noT t)}:PW).tasks.length=p.tasks.length from e];exact L) (show 17<20 by omega) t;have B6:=hid b1;have K6:=hid (Q.trans q1);clear b1 q1 e4;clear q Q;go_wp2_with fail
  exact aY (aN rfl _ _ _) rfl ⟨rfl,O,B6.out,K6.out⟩
end Go.Proofs.YtaejnmmpddbbjaaGreatDoor.Wd
