/- Qau -/
import Derived.Test.YtaejnmmpddbbjaaGreatDoorQat
namespace Go.Proofs.YtaejnmmpddbbjaaGreatDoor.Wd
open Go.RowKit Mem Bw Nums Mmu
def tnV (p:PW):Int:=p.doms.getD ((p.time/4)%(p.doms.length:Int)).toNat 0
def dmB (p:PW) (m x:Int):Bool:=p.tasks.getD x.toNat bl 19==m
theorem ix_lt {α:Type} {f:α→Bool} {l:List α} (h:0≤ixP f l):∃i:Nat,ixP f l=i∧i<l.length:=by
 unfold ixP at h ⊢;by_cases a:l.findIdx f<l.length
 ·rw[ag a];exact⟨_,rfl,a⟩
 ·rw[ae a] at h;omega
theorem push_le {ls:List (List Int)} {k:Nat} {x:Int} {n:Nat} (h:∀l∈ls,l.length≤n):∀l∈ls.set k (ls.getD k []++[x]),l.length≤n+1:=fun l hl=>by
 rcases bj hl with a|a
 ·exact aD (h l a) (Nat.le_succ _)
 ·rw[a,av,aa]
  cases e:ls[k]? with
  |none=>simp
  |some l0=>exact Nat.succ_le_succ (h l0 (dM e))
theorem task_fits {p:PW} (h:p.Fits) (t k:Nat) (x:Int):(p.task t k x).Fits:=⟨h.ram,h.kinds,h.slots,by rw[ap];exact h.tasks,h.lines,h.line,h.bits,h.cores,h.ready,h.next,h.tlbs,h.doms⟩
theorem wn_fitsP {p:PW} (h:p.Fits) (a:∀l∈p.ready,l.length≤50) (t n:Nat):(wnP p t n).Fits:=
 ⟨h.ram,h.kinds,h.slots,(task_fits (task_fits h t 9 1) t 14 (-1)).tasks,h.lines,h.line,h.bits,h.cores,by show (p.ready.set n _).length≤1000;rw[ar];exact h.ready,fun l hl=>aD (push_le a l hl) (by omega),h.tlbs,h.doms⟩
theorem BoxT.coresAt {W:World} {wb:Nat} {tag:Nat→Nat} {V:Nat→Value} {p:PW} (h:BoxT W wb tag V p) {g cap:Nat} (e:V 6=.slice (some ⟨g,0,none⟩) p.cores.length cap) {i:Nat} (hi:i<p.cores.length):W.cell? ⟨g,i,none⟩=some (.int .i64 (p.cores.getD i (-1)))∧W.frozen? ⟨g,i,none⟩=false:=by
 have a:=h.o.cores;rw[e] at a;exact⟨by rw[a.int hi,aa,ac hi,aS],a.frozen i⟩
theorem rd_in {p:PW} (h:Snd p):∀l∈p.ready,∀z∈l,0≤z∧z<(p.tasks.length:Int):=by
 intro l hl z i;obtain⟨n,g,rfl⟩:=List.mem_iff_getElem.1 hl;have b:brB p n p.ready[n]=false:=h.b8 n g;unfold brB at b;rw[bZ] at b;have e:=b z i;have c:rpB p z ((n:Int)/4) ((n:Int)%4)=true:=by simpa using e
 unfold rpB rdB at c;rw[am,am] at c;have a:=c.1.1;unfold isB kindAt at a;by_cases d:0≤z
 ·rw[ag d] at a;have f:=eq_of_beq a;obtain⟨j,_⟩:=List.getElem?_eq_some_iff.1 f;rw[h.lf.tasks];omega
 ·rw[ae d] at a
  cases a
set_option maxRecDepth 100000
set_option maxHeartbeats 4000000
theorem turn_quiet (wb:Nat) (tag:Nat→Nat) (V:Nat→Value) (p:PW) (W:World) (bt:BoxT W wb tag V p) (f:p.Fits) (s:1≤p.doms.length) (E:0≤p.time∧p.time≤1000000):
  Calls Tryz.prog 80 #[.pointer (some ⟨wb,0,none⟩)] W fun r g=>r=.returned (.int .i64 (tnV p))∧∃n,g=W.drewN n:=by
 have w:W.cell? ⟨wb,10,none⟩=some (.int .i64 p.time):=by rw[af bt.r (k:=10) rfl,bt.o.time]
 obtain⟨i,h,e9⟩:=bt.o.doms.form (by omega);have x:W.cell? ⟨wb,9,none⟩=some (.slice (some ⟨i,0,none⟩) p.doms.length h):=by rw[af bt.r (k:=9) rfl,e9]
 have a:=bt.o.doms;rw[e9] at a;have C:(p.doms.length:Int)≤1000:=by have:=f.doms;omega
 have D:(p.time).tdiv 4=p.time/4:=bR (by omega);have q:(p.time/4).tmod (p.doms.length:Int)=(p.time/4)%(p.doms.length:Int):=cH (by omega);have l:0≤(p.time/4)%(p.doms.length:Int):=Int.emod_nonneg _ (by omega);have m:(p.time/4)%(p.doms.length:Int)<(p.doms.length:Int):=Int.emod_lt_of_pos _ (by omega);obtain⟨j,b⟩:∃j:Nat,(p.time/4)%(p.doms.length:Int)=j:=⟨((p.time/4)%(p.doms.length:Int)).toNat,by omega⟩
 have c:j<p.doms.length:=by omega
 have B:(j:Int)<(p.doms.length:Int):=by omega
 have u:=a.int c;have e:=hid (show tnV p=p.doms[j] by unfold tnV;rw[b,ah,aa,ac c,aS]);generalize p.doms[j]=y at u e;rw[b] at q;have F:((p.doms.length:Int)==0)=false:=by simpa using show ¬((p.doms.length:Int)=0) by omega
 have G:¬((p.doms.length:Int)=0):=by omega
 have z:0≤p.time/4:=by omega
 have A:p.time/4≤250000:=by omega
 generalize p.time/4=H at*;clear bt f e9 a s l m b c;go_enter Tryz.func80,Tryz.ntmps80
 go_upto_region 1 with fail
 go_quiet (fail)
 have d:=hid (show ∃n,W.drewN nq=W.drewN n from⟨nq,rfl⟩);generalize t:W.drewN nq=v at d ⊢;clear t;go_wp2_with fail
 go_ret
 exact⟨by rw[e.out];rfl,d.out⟩
set_option maxRecDepth 512
set_option maxHeartbeats 200000
theorem app_more {w:World} {base:Nat} {v:Value} {zs:List Int} (l:w.ownsRow base 3 1 v zs.length (ints zs)) (h:base≤w.heap.size) (hl:zs.length≤1000) {b o c:Nat} {ys:List Int} (B:ys.length≤1000) (s:∀j (a:j<ys.length),w.cell? ⟨b,o+j,none⟩=some (.int .i64 ys[j])):
  ∃q d w',(Builtin.append_ #[22,22] 22 #[v,.slice (some ⟨b,o,none⟩) ys.length c]).run Tryz.prog w=.ok (.slice q (zs.length+ys.length) d) w'∧w'.ownsRow base 3 1 (.slice q (zs.length+ys.length) d) (zs++ys).length (ints (zs++ys))∧Below base w w':=by
 obtain⟨i,hi,A,u,z⟩:=info_get infoI;obtain⟨C,w',t,g,p,_⟩:=run_append_own (P:=Tryz.prog) w base 22 22 3 i (.int .i64 0) 1 8 Tryz.underlying22 hi A u z rfl (by decide) v zs.length (ints zs) l ⟨b,o,none⟩ ys.length c (ints ys) (by unfold ints;simp) (fun j v a=>by
  unfold ints at a;rw[cR] at a
  cases e:ys[j]? with
  |none=>rw[e] at a;cases a
  |some y=>
   rw[e] at a
   cases a
   obtain⟨n,r⟩:=List.getElem?_eq_some_iff.1 e;have:=s j n;rw[r] at this;by_cases f:j=0
   ·subst f;simpa [Addr.add] using this
   ·simpa [Addr.add,f] using this) (fun x m=>by
  unfold ints at m;obtain⟨y,_,rfl⟩:=List.mem_map.1 m;rfl) (by unfold maxLen;omega) (by omega) h
 obtain⟨q,cap,rfl⟩:=own_form g;have e:ints zs++ints ys=ints (zs++ys):=by unfold ints;simp
 exact⟨q,cap,w',t,by rw[←e,av];exact g,(aj base w).grown p h (fun k hk=>(l.lt k hk).1)⟩
def rnx (q:PW) (m:Int) (c:Nat):Nat→PW
 |0=>q
 |k+1=>if 0≤ixP (dmB q m) (q.ready.getD (c*4+k) []) then {q with cores:=q.cores.set c ((q.ready.getD (c*4+k) []).getD (ixP (dmB q m) (q.ready.getD (c*4+k) [])).toNat 0),ready:=q.ready.set (c*4+k) ((q.ready.getD (c*4+k) []).take (ixP (dmB q m) (q.ready.getD (c*4+k) [])).toNat++(q.ready.getD (c*4+k) []).drop ((ixP (dmB q m) (q.ready.getD (c*4+k) [])).toNat+1))} else rnx q m c k
def rlP (p:PW) (c:Nat):PW:=if p.cores.getD c (-1)= -1 then rnx p (tnV p) c 4 else if dmB p (tnV p) (p.cores.getD c (-1)) then p else rnx (wnP {p with cores:=p.cores.set c (-1)} (p.cores.getD c (-1)).toNat (rdN p (p.cores.getD c (-1)).toNat)) (tnV p) c 4
structure Rs (p q:PW):Prop where
 k:q.kinds=p.kinds
 s:q.slots=p.slots
 r:q.ram=p.ram
 l:q.tlbs=p.tlbs
 d:q.doms=p.doms
 t:q.time=p.time
theorem Rs.refl (p:PW):Rs p p:=⟨rfl,rfl,rfl,rfl,rfl,rfl⟩
theorem _root_.Go.Proofs.YtaejnmmpddbbjaaGreatDoor.dt:type_of% @Rs.refl:= @Rs.refl
theorem Rs.task {p q:PW} (h:Rs p q) (t k:Nat) (x:Int):Rs p (q.task t k x):=⟨h.k,h.s,h.r,h.l,h.d,h.t⟩
theorem Rs.wn {p q:PW} (h:Rs p q) (t n:Nat):Rs p (wnP q t n):=⟨h.k,h.s,h.r,h.l,h.d,h.t⟩
theorem Rs.ls {p q:PW} (h:Rs p q) {L R:List (List Int)} {B C:List Int}:Rs p {q with lines:=L,bits:=B,cores:=C,ready:=R}:=⟨h.k,h.s,h.r,h.l,h.d,h.t⟩
theorem Rs.trans {p q r:PW} (h:Rs p q) (g:Rs q r):Rs p r:=⟨g.k.trans h.k,g.s.trans h.s,g.r.trans h.r,g.l.trans h.l,g.d.trans h.d,g.t.trans h.t⟩
theorem Lw.tk {p q:PW} (h:Lw p) (x:Tk Nbd q) (e:Rs p q):Lw q:=by
 obtain⟨e1,e2,b,e4,e5,e6⟩:=e;obtain⟨r,j⟩:=h.m.keys;refine⟨⟨by rw[e1];exact h.m.ks,by rw[e5];exact h.m.ds,⟨r,j.to e1 e2⟩,fun n f=>?_,⟨by rw[b];exact h.m.ram.w,fun i hi=>?_⟩,x⟩,fun l hl=>?_,by rw[e6];exact h.tm⟩
 ·obtain⟨i,hi⟩:=h.m.op n (by show p.kinds.getD n 0≠0;rw[←e1];exact f);exact⟨i,by show opn n (q.slots.getD i eS)=true;rw[e2];exact hi⟩
 ·rw[b] at hi;have g:=beB_iff.1 (h.m.ram.e i hi);have c:∀a k,isB q a k=isB p a k:=fun a k=>by unfold isB kindAt;rw[e1]
  rw[show q.k (i/16)=p.k (i/16) by show q.kinds.getD _ 0=_;rw[e1],b];refine beB_iff.2 ?_;rw[c,c,c];exact g
 ·rw[e4] at hl;exact (h.tl l hl).keep fun e d=>(told_same b e1 e).trans d
theorem cut_mem {l:List Int} (d:l.Nodup) {i:Nat} (hi:i<l.length):(∀z,z∈l.take i++l.drop (i+1)↔z∈l∧z≠l[i])∧(l.take i++l.drop (i+1)).Nodup:=by
 have e:l=l.take i++l[i]::l.drop (i+1):=by rw[←List.drop_eq_getElem_cons hi,List.take_append_drop]
 have b:=d;rw[e,List.nodup_append,List.nodup_cons] at b;obtain⟨a,⟨b1,b2⟩,c⟩:=b;refine⟨fun z=>?_,?_⟩
 ·have m:z∈l↔z∈l.take i∨z=l[i]∨z∈l.drop (i+1):=by
   conv=>lhs;rw[e]
   rw[dA,bQ]
  rw[dA,m];constructor
  ·rintro (y|y)
   ·exact⟨.inl y,fun g=>c z y _ (cC ..) g⟩
   ·exact⟨.inr (.inr y),fun g=>b1 (g▸y)⟩
  ·rintro⟨y|y|y,g⟩
   ·exact .inl y
   ·exact absurd y g
   ·exact .inr y
 ·rw[List.nodup_append];exact⟨a,b2,fun x f y h=>c x f y (List.mem_cons_of_mem _ h)⟩
theorem Tk.rnx {q:PW} (x:Tk Nbd q) {m:Int} {c:Nat} (d:c<q.cores.length) (b:q.co c= -1):∀k,k≤4→Tk Nbd (rnx q m c k)
 |0,_=>x
 |k+1,hk=>by
  unfold Wd.rnx;split
  ·rename_i h;obtain⟨i,e,hi⟩:=ix_lt h;rw[e,ah];have j:(q.re (c*4+k))[i]∈q.re (c*4+k):=aw hi;obtain⟨t,et,_,n,o,f⟩:=x.q.rd _ _ j;have g:(t:Int)∈q.re (c*4+k):=by rw[←et];exact j
   have a:=cut_mem (x.q.ru (c*4+k)) hi;have y:=x.q.unre g (fun z=>by rw[←et];exact a.1 z) a.2;have p:=x.num n;have f:(q.t t 18*4+q.t t 10).toNat=c*4+k:=f;have z:=y.core (c:=c) o (x.q.inr g).2.2.2.2.1 (by show q.t t 18=c;omega) d b;have l:(q.ready.getD (c*4+k) []).getD i 0=t:=by
    rw[aa,ac hi];exact et
   rw[l];exact x.li' (L:=q.lines) (B:=q.bits) (R:=q.ready.set (c*4+k) ((q.re (c*4+k)).take i++(q.re (c*4+k)).drop (i+1))) (C:=q.cores.set c t) z
  ·exact x.rnx d b k (by omega)
theorem rnx_rest {q:PW} {m:Int} {c:Nat}:∀k,Rs q (rnx q m c k)
 |0=>dt q
 |k+1=>by
  unfold Wd.rnx;split
  ·exact (dt q).ls
  ·exact rnx_rest k
theorem Lw.settle {p:PW} (h:Lw p) {c:Nat} (a:c<p.cores.length):Lw (rlP p c):=by
 have x:=h.m.tk;unfold rlP;split
 ·rename_i e0;exact h.tk (x.rnx a e0 4 (by decide)) (rnx_rest 4)
 split
 ·exact h
 ·rename_i e0 _;obtain⟨t,et⟩:∃t:Nat,p.co c=t:=(x.q.c0 c).resolve_left e0
  rw[show p.cores.getD c (-1)=t from et,ah];obtain⟨_,b,d,_⟩:=x.q.inc et;have y:Tk (Hnd t) {p with cores:=p.cores.set c (-1)}:=x.li' (L:=p.lines) (B:=p.bits) (R:=p.ready) (x.q.offc1 et a);have z:=y.wake (show p.t t 9≠5 by omega);exact h.tk (Tk.rnx (q:=wnP {p with cores:=p.cores.set c (-1)} t (rdN p t)) z (by show c<(p.cores.set c (-1)).length;simpa using a) (by show (p.cores.set c (-1)).getD c (-1)= -1;rw[getD_set a,ag rfl]) 4 (by decide)) (Rs.trans (((dt p).ls (L:=p.lines) (R:=p.ready) (B:=p.bits) (C:=p.cores.set c (-1))).wn t (rdN p t)) (rnx_rest 4))
theorem Lw.start {p:PW} (h:Lw p) {t:Nat} (a:p.k t=6) (b:p.t t 9=0):Lw (wnP p t (rdN p t)):=h.tk (h.m.tk.start a b) ((dt p).wn _ _)
theorem Lw.stop {p:PW} (h:Lw p) {t:Nat} (a:p.k t=6):Lw (stP p t):=h.tk (h.m.tk.stop a) ⟨rfl,rfl,rfl,rfl,rfl,rfl⟩
theorem Lw.rank {p:PW} (h:Lw p) {t:Nat} (a:p.k t=6) {b:Int} (c:0≤b∧b≤3):Lw (rkP p t b):=by
 have y:=h.m.tk.rank a c;unfold rkP at y ⊢;split
 ·rename_i e;rw[ag e] at y;exact h.tk y ⟨rfl,rfl,rfl,rfl,rfl,rfl⟩
 ·rename_i e;rw[ae e] at y;exact h.tk y ((dt p).task _ _ _)
theorem Lw.reg {p:PW} (h:Lw p) {t:Nat} (a:p.k t=6) {k:Nat} {v:Int} (hk:k≤8∨k=15∨k=16) (b:0≤v∧v≤65535):Lw (p.task t k v):=h.tk (h.m.tk.reg a hk b) ((dt p).task _ _ _)
theorem fs_of {p:PW} {d:Nat} (x:Tk Nbd p):(fsV p d= -1∧∀m:Nat,(m:Int)∈p.li d→p.t m 9≠4)∨∃(u:Nat) (l:List Int),fsV p d=u∧p.li d=(u:Int)::l∧p.t u 9=4:=by
 unfold fsV
 cases hl:p.lines.getD d [] with
 |nil=>
  refine .inl ⟨rfl,fun m b=>?_⟩;rw[show p.li d=[] from hl] at b
  cases b
 |cons z l=>
  have c:z∈p.li d:=by rw[show p.li d=_ from hl];exact cC ..
  obtain⟨u,rfl,_⟩:=x.q.ln d z c;show ((if p.tasks.getD ((u:Int)).toNat bl 9=4 then (u:Int) else -1)= -1∧_)∨_
  rw[ah];by_cases a:p.t u 9=4
  ·rw[ag a];exact .inr ⟨u,l,by show (if p.tasks.getD ((u:Int)).toNat bl 9=4 then (u:Int) else -1)=u;rw[ah];exact ag a,hl,a⟩
  ·rw[ae a];exact .inl ⟨rfl,fun m b g=>a ((x.q.lw d m u b c).1 g)⟩
theorem Tk.door {p:PW} (x:Tk Nbd p) {d:Nat} (a:p.k d=7):p.bi d=0∧d<p.lines.length:=⟨(x.q.bt d).elim id fun g=>by have:=g.1;omega,by rw[x.lf.lines];exact k_in (by omega)⟩
theorem ss_rs {p q:PW} (h:Rs p q) {t a:Nat} {s:Int}:Rs p (ssP q t a s):=⟨h.k,h.s,h.r,h.l,h.d,h.t⟩
theorem wd_rs (p:PW) (d u:Nat) (l:List Int) (b v:Int):Rs p (wdP p d u l b v):=by
 unfold wdP frP;exact ((((dt p).ls (L:=p.lines.set d l) (R:=p.ready) (B:=p.bits) (C:=p.cores)).task _ _ _).task _ _ _).task _ _ _ |>.wn _ _
theorem Lw.send {p:PW} (h:Lw p) {c t d:Nat} {b v:Int} {cl:Bool} (r:p.co c=t) (F:p.k d=7) (D:0≤b∧b≤65535) (K:0≤v∧v≤65535):Lw (snP p t d b v cl):=by
 have x:=h.m.tk;obtain⟨_,i,Y,_⟩:=x.q.inc r;have I:=x.tl i;obtain⟨b0,M⟩:=x.door F;unfold snP;rw[ah,ah];rcases fs_of (d:=d) x with ⟨e,Q⟩|⟨u,l,e,hl,A⟩
 ·rw[ag e];have y:=(x.reg i (k:=15) (by decide) K).reg i (k:=16) (by decide) D;have T:∀m,((p.task t 15 v).task t 16 b).t m 9=p.t m 9:=fun m=>by rw[tk_t (by rw[ap];exact I),ae (by omega),tk_t I,ae (by omega)]
  have H:pl (if cl then 3 else 2)=7:=by cases cl<;>rfl
  exact h.tk (y.stand (c:=c) (t:=t) (a:=d) (s:=if cl then 3 else 2) r (by cases cl<;>decide) (by cases cl<;>decide) M (by rw[H];decide) (by rw[H];exact F) b0 (fun m O=>by
   rw[T];have:=Q m O;exact⟨fun g=>by cases cl<;>simp at g,fun g=>absurd g this⟩) (by cases cl<;>(intro g;simp at g))) (ss_rs (((dt p).task _ _ _).task _ _ _))
 ·rw[ae (by omega),e,ah,show (p.lines.getD d []).tail=l by rw[show p.lines.getD d []=_ from hl];rfl];have y:=x.hand hl D K
  cases cl with
  |false=>exact h.tk y (wd_rs _ _ _ _ _ _)
  |true=>
   have P:(u:Int)∈p.li d:=by rw[hl];exact cC ..
   obtain⟨_,J,Z,_⟩:=x.q.inl P;have f:=x.tl J;have G:u≠t:=fun g=>by rw[g] at A;omega
   have W:∀n j,j≠1→j≠2→j≠9→j≠14→(wdP p d u l b v).t n j=p.t n j:=fun n j S U V X=>by
    unfold wdP frP;rw[wn_t (by rw[ap,ap,ap];exact f),ae (by omega),ae (by omega),tk_t (by rw[ap,ap];exact f),ae (by omega),tk_t (by rw[ap];exact f),ae (by omega),tk_t (p:={p with lines:=p.lines.set d l}) f,ae (by omega)]
   have z:∀n,(wdP p d u l b v).t n 9=if n=u then 1 else p.t n 9:=fun n=>by
    by_cases g:n=u
    ·rw[ag g];unfold wdP frP;rw[wn_t (by rw[ap,ap,ap];exact f),ae (by omega),ag ⟨g,rfl⟩]
    ·rw[ae g];unfold wdP frP;rw[wn_t (by rw[ap,ap,ap];exact f),ae (by omega),ae (by omega),tk_t (by rw[ap,ap];exact f),ae (by omega),tk_t (by rw[ap];exact f),ae (by omega),tk_t (p:={p with lines:=p.lines.set d l}) f,ae (by omega)]
   have E:(wdP p d u l b v).co c=t:=r;have o:=y.off E;have N:p.t u 17= -1:=(x.o.ow u).elim id fun ⟨w,_,_,g⟩=>absurd A g;exact h.tk (o.ask (u:=u) J G (show (wdP p d u l b v).t t 9≠5 by rw[z,ae (fun g=>G g.symm)];omega) (show (wdP p d u l b v).t u 17= -1 by rw[W u 17 (by decide) (by decide) (by decide) (by decide)];exact N) (show (wdP p d u l b v).t u 9≠4 by rw[z,ag rfl];decide) (y.q.inc E).2.2.2.2.1) (((wd_rs _ _ _ _ _ _).trans (((dt _).ls (L:=(wdP p d u l b v).lines) (R:=(wdP p d u l b v).ready) (B:=(wdP p d u l b v).bits) (C:=(wdP p d u l b v).cores.map (noT t))))).task _ _ _ |>.task _ _ _)
theorem fk_of {p:PW} {d:Nat} (x:Tk Nbd p):(fkV p d= -1∧∀m:Nat,(m:Int)∈p.li d→p.t m 9=4)∨∃(u:Nat) (l:List Int),fkV p d=u∧p.li d=(u:Int)::l∧p.t u 9≠4:=by
 unfold fkV
 cases hl:p.lines.getD d [] with
 |nil=>
  refine .inl ⟨rfl,fun m b=>?_⟩;rw[show p.li d=[] from hl] at b
  cases b
 |cons z l=>
  have c:z∈p.li d:=by rw[show p.li d=_ from hl];exact cC ..
  obtain⟨u,rfl,_⟩:=x.q.ln d z c;show ((if p.tasks.getD ((u:Int)).toNat bl 9=4 then -1 else (u:Int))= -1∧_)∨_
  rw[ah];by_cases a:p.t u 9=4
  ·rw[ag a];exact .inl ⟨rfl,fun m b=>(x.q.lw d m u b c).2 a⟩
  ·rw[ae a];exact .inr ⟨u,l,by show (if p.tasks.getD ((u:Int)).toNat bl 9=4 then -1 else (u:Int))=u;rw[ah];exact ae a,hl,a⟩
theorem Tk.word {h:Nat→Prop} {p:PW} (x:Tk h p) {u:Nat} (b:p.k u=6) {k:Nat} (hk:k≤8∨k=15∨k=16):0≤p.t u k∧p.t u k≤65535:=by
 have:=x.a.ok u b k (by omega);unfold fOk at this;rw[ag hk] at this;exact az this
theorem tkQ_rs (p:PW) (d t u:Nat) (l:List Int):Rs p (tkQ p d t u l):=by
 unfold tkQ;exact (((((dt p).ls (L:=p.lines.set d l) (R:=p.ready) (B:=p.bits) (C:=p.cores)).task _ _ _).task _ _ _).task _ _ _).task _ _ _ |>.task _ _ _
theorem Lw.take {p:PW} (h:Lw p) {c t d:Nat} (w:p.co c=t) (A:p.k d=7) (s:p.t t 17= -1):Lw (tkP p t d):=by
 have x:=h.m.tk;obtain⟨_,b,I,_⟩:=x.q.inc w;have E:=x.tl b;obtain⟨b0,G⟩:=x.door A;unfold tkP;rw[ah,ah];rcases fk_of (d:=d) x with ⟨e,M⟩|⟨u,l,e,hl,H⟩
 ·rw[ag e];exact h.tk (x.stand w (by decide) (by decide) G (by decide) A b0 (fun m J=>⟨fun _=>M m J,fun _=>rfl⟩) (fun _=>s)) (ss_rs (dt p))
 ·rw[ae (by omega),e,ah,show (p.lines.getD d []).tail=l by rw[show p.lines.getD d []=_ from hl];rfl];have L:(u:Int)∈p.li d:=by rw[hl];exact cC ..
  obtain⟨_,a,D,_⟩:=x.q.inl L;have f:=x.tl a;have r:p.t u 9≠5:=fun g=>D (by rw[g];rfl);have K:t≠u:=fun g=>D (by rw[←g,I];rfl);have y:Tk (Hnd u) {p with lines:=p.lines.set d l}:=x.li' (B:=p.bits) (R:=p.ready) (C:=p.cores) (x.q.front hl);have F:Tk (Hnd u) (tkQ p d t u l):=((((y.reg b (k:=1) (by decide) (x.word a (k:=16) (by decide))).reg b (k:=2) (by decide) (x.word a (k:=15) (by decide))).reg a (k:=16) (by decide) (v:=0) (by decide)).reg a (k:=15) (by decide) (v:=0) (by decide)).at' (-1);have W:∀n j,j≠1→j≠2→j≠15→j≠16→j≠14→(tkQ p d t u l).t n j=p.t n j:=fun n j N O o H r=>by
   unfold tkQ;rw[tk_t (by rw[ap,ap,ap,ap];exact f),ae (by omega),tk_t (by rw[ap,ap,ap];exact f),ae (by omega),tk_t (by rw[ap,ap];exact f),ae (by omega),tk_t (by rw[ap];exact E),ae (by omega),tk_t (p:={p with lines:=p.lines.set d l}) E,ae (by omega)]
  have i:∀n,(tkQ p d t u l).t n 9=p.t n 9:=fun n=>W n 9 (by decide) (by decide) (by decide) (by decide) (by decide);by_cases o:p.t u 9=3
  ·rw[ag o];exact h.tk (F.ask (u:=t) b K (by rw[i];exact r) (by rw[W t 17 (by decide) (by decide) (by decide) (by decide) (by decide)];exact s) (by rw[i];omega) (by
    unfold tkQ;rw[tk_t (by rw[ap,ap,ap,ap];exact f),ag ⟨rfl,rfl⟩])) ((tkQ_rs p d t u l).task _ _ _ |>.task _ _ _)
  ·rw[ae o];have z:=F.wake (by rw[i];exact r);rw[rdN_of (W u 18 (by decide) (by decide) (by decide) (by decide) (by decide)) (W u 10 (by decide) (by decide) (by decide) (by decide) (by decide))] at z;exact h.tk z ((tkQ_rs p d t u l).wn _ _)
theorem TkO.free {p q:PW} (x:TkO p) {t u:Nat} (h:p.t t 17=u) (b:∀n,q.t n 17=if n=t then -1 else p.t n 17) (e9:∀n,q.t n 9=if n=u then 1 else p.t n 9):TkO q:=by
 refine⟨fun n=>?_,fun w a=>?_,fun n m w c d=>?_⟩
 ·rw[b];split
  ·exact .inl rfl
  ·rename_i e;rcases x.ow n with g|⟨v,f,j,k⟩
   ·exact .inl g
   ·refine .inr ⟨v,f,by rw[e9,ae (fun y:v=u=>e (x.ij n t u (by rw[f,y]) h))];exact j,?_⟩;rw[e9];split
    ·decide
    ·exact k
 ·rw[e9] at a;split at a
  ·cases a
  ·rename_i e;obtain⟨n,i⟩:=x.ak w a;exact⟨n,by rw[b,ae (fun y:n=t=>e (by rw[y,h] at i;omega))];exact i⟩
 ·rw[b] at c d;split at c
  ·omega
  ·split at d
   ·omega
   ·exact x.ij n m w c d
theorem Lw.answer {p:PW} (h:Lw p) {t:Nat} {v:Int} (r:p.k t=6) (s:p.t t 17≠ -1) (w:0≤v∧v≤65535):Lw (anP p t v):=by
 have x:=h.m.tk;have i:=x.tl r;obtain⟨u,e,f,C⟩:=(x.o.ow t).resolve_left s;have c:p.k u=6:=cO fun g=>by rw[x.a.no u g 9 (by decide)] at f;cases f
 have b:=x.tl c;unfold anP;rw[ah,show p.tasks.getD t bl 17=u from e,ah];have d:u<(((p.task t 17 (-1)).task u 1 0).task u 2 v).tasks.length:=by rw[ap,ap,ap];exact b
 have W:∀n j,j≠17→j≠1→j≠2→(((p.task t 17 (-1)).task u 1 0).task u 2 v).t n j=p.t n j:=fun n j z A B=>by
  rw[tk_t (by rw[ap,ap];exact b),ae (by omega),tk_t (by rw[ap];exact b),ae (by omega),tk_t i,ae (by omega)]
 have l:rdN (((p.task t 17 (-1)).task u 1 0).task u 2 v) u=rdN p u:=rdN_of (W u 18 (by decide) (by decide) (by decide)) (W u 10 (by decide) (by decide) (by decide));have a:TkA (((p.task t 17 (-1)).task u 1 0).task u 2 v):=((x.a.fld i r (k:=17) (v:= -1) rfl).fld (by rw[ap];exact b) c (k:=1) (v:=0) rfl).fld (by rw[ap,ap];exact b) c (k:=2) (v:=v) (by show wB v=true;exact aF w);have q:=((x.q.up0 c (.inr f)).to (q:=((p.task t 17 (-1)).task u 1 0).task u 2 v) rfl (fun n _ j D=>W n j (by omega) (by omega) (by omega)) rfl rfl rfl rfl).wake d (by rw[l];exact (x.num c).2.2);rw[l] at q;have lf:LF (((p.task t 17 (-1)).task u 1 0).task u 2 v):=x.lf.of (e6:=by rw[ap,ap,ap]);refine h.tk ⟨lf.wake _ _,a.wake c d,x.o.free (t:=t) (u:=u) e (fun n=>?_) (fun n=>?_),q⟩ ((((dt p).task _ _ _).task _ _ _).task _ _ _ |>.wn _ _)
 ·rw[wn_t d,ae (by omega),ae (by omega),tk_t (by rw[ap,ap];exact b),ae (by omega),tk_t (by rw[ap];exact b),ae (by omega),tk_t i];by_cases g:n=t
  ·rw[ag g,ag ⟨g,rfl⟩]
  ·rw[ae g,ae (fun y=>g y.1)]
 ·rw[wn_t d];by_cases g:n=u
  ·rw[ag g,ae (by omega),ag ⟨g,rfl⟩]
  ·rw[ae g,ae (fun y=>g y.1),ae (fun y=>g y.1),W n 9 (by decide) (by decide) (by decide)]
theorem Lw.ring {p:PW} (h:Lw p) {a:Nat} {g:Int} (c:p.k a=8) (f:0≤g∧g≤65535) (i:0≤bits .or .i64 (p.bi a) g∧bits .or .i64 (p.bi a) g≤65535):Lw (rgP p a g):=by
 have x:=h.m.tk;have e:a<p.bits.length:=by rw[x.lf.bits];exact k_in (by omega)
 unfold rgP;rw[ah]
 cases hl:p.lines.getD a [] with
 |nil=>exact h.tk (x.li' (L:=p.lines) (R:=p.ready) (C:=p.cores) (x.q.bit e (.inr ⟨c,hl,i⟩))) ((dt p).ls (L:=p.lines) (R:=p.ready) (C:=p.cores))
 |cons z l=>
  have j:z∈p.li a:=by rw[show p.li a=_ from hl];exact cC ..
  obtain⟨u,rfl,_⟩:=x.q.ln a z j;have y:=x.hand (d:=a) (u:=u) (l:=l) hl (b:=0) (v:=g) (by decide) f;show Lw (wnP (((frP p a ((u:Int)).toNat l).task ((u:Int)).toNat 1 0).task ((u:Int)).toNat 2 g) ((u:Int)).toNat (rdN p ((u:Int)).toNat))
  rw[ah];exact h.tk y (wd_rs _ _ _ _ _ _)
theorem Lw.hear {p:PW} (h:Lw p) {c t a:Nat} (j:p.co c=t) (i:p.k a=8):Lw (hbP p t a):=by
 have x:=h.m.tk;obtain⟨_,f,z,_⟩:=x.q.inc j;have s:a<p.bits.length:=by rw[x.lf.bits];exact k_in (by omega)
 have hl:a<p.lines.length:=by rw[x.lf.lines];exact k_in (by omega)
 unfold hbP;rw[ah,ah];split
 ·rename_i e;refine h.tk (x.stand j (by decide) (by decide) hl (by decide) i e (fun m u=>⟨fun g=>(by cases g),fun g=>?_⟩) (fun g=>(by cases g))) (ss_rs (dt p));obtain⟨_,o,r,w,_⟩:=x.q.inl u;obtain⟨b,l,d,_⟩:=x.q.la m o id r;rw[g,show b=a by omega,i] at d
  cases d
 ·rename_i e;obtain⟨l,d,n⟩:=(x.q.bt a).resolve_left e;have y:=(x.reg f (k:=1) (v:=0) (by decide) (by decide)).reg f (k:=2) (by decide) n;exact h.tk (y.li' (L:=p.lines) (R:=p.ready) (C:=p.cores) (B:=p.bits.set a 0) (y.q.bit (a:=a) (v:=0) s (.inl rfl)) (e8:=ar ..)) ((((dt p).task t 1 0).task t 2 (p.bi a)).ls (L:=p.lines) (R:=p.ready) (C:=p.cores) (B:=p.bits.set a 0))
end Go.Proofs.YtaejnmmpddbbjaaGreatDoor.Wd
