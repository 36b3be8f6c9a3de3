/- Qbp -/
import Derived.Test.YtaejnmmpddbbjaaGreatDoorQbn
import Derived.Test.YtaejnmmpddbbjaaGreatDoorQbo
import Derived.Test.YtaejnmmpddbbjaaGreatDoorQbm
namespace Go.Proofs.YtaejnmmpddbbjaaGreatDoor.Wd
open Go.RowKit Mem Bw Nums Mmu
theorem orW {a b:Int} (c:0≤a∧a≤65535) (d:0≤b∧b≤65535):0≤bits .or .i64 a b∧bits .or .i64 a b≤65535:=by
 have h:=Bw.or_nat a.toNat b.toNat (by omega) (by omega);rw[show ((a.toNat:Nat):Int)=a by omega,show ((b.toNat:Nat):Int)=b by omega] at h;rw[h];have:=Nat.or_lt_two_pow (n:=16) (show a.toNat<2 ^ 16 by omega) (show b.toNat<2 ^ 16 by omega);omega
theorem kd {p:PW} {a:Nat} {k:Int} (h:p.k a=k) (b:k≠0):∃c:a<p.kinds.length,p.kinds[a]=k:=⟨k_in (by omega),by rw[k_at];exact h⟩
theorem sn_rs (p:PW) (t d b v:Int) (c:Bool):Rs p (snP p t d b v c):=by
 unfold snP;split
 ·exact ss_rs (((dt p).task _ _ _).task _ _ _)
 ·split
  ·unfold akP;exact ((((wd_rs _ _ _ _ _ _).trans ((dt _).ls (L:=(wdP p d.toNat (fsV p d.toNat).toNat (p.lines.getD d.toNat []).tail b v).lines) (R:=(wdP p d.toNat (fsV p d.toNat).toNat (p.lines.getD d.toNat []).tail b v).ready) (B:=(wdP p d.toNat (fsV p d.toNat).toNat (p.lines.getD d.toNat []).tail b v).bits) (C:=(wdP p d.toNat (fsV p d.toNat).toNat (p.lines.getD d.toNat []).tail b v).cores.map (noT t.toNat))))).task _ _ _).task _ _ _
  ·exact wd_rs _ _ _ _ _ _
theorem tk_rs (p:PW) (t d:Int):Rs p (tkP p t d):=by
 unfold tkP;split
 ·exact ss_rs (dt p)
 ·split
  ·exact ((tkQ_rs _ _ _ _ _).task _ _ _).task _ _ _
  ·exact (tkQ_rs _ _ _ _ _).wn _ _
theorem an_rs (p:PW) (t v:Int):Rs p (anP p t v):=(((dt p).task _ _ _).task _ _ _).task _ _ _ |>.wn _ _
theorem rg_rs (p:PW) (a g:Int):Rs p (rgP p a g):=by
 unfold rgP;split
 ·exact (dt p).ls (L:=p.lines) (R:=p.ready) (C:=p.cores)
 ·exact wd_rs _ _ _ _ _ _
theorem hb_rs (p:PW) (t a:Int):Rs p (hbP p t a):=by
 unfold hbP;split
 ·exact ss_rs (dt p)
 ·exact (((dt p).task t.toNat 1 0).task t.toNat 2 (p.bits.getD a.toNat 0)).ls (L:=p.lines) (R:=p.ready) (C:=p.cores) (B:=p.bits.set a.toNat 0)
theorem Lw.r50 {p:PW} (h:Lw p):∀l∈p.ready,l.length≤50:=fun l hl=>by have:=h.line24.2 l hl;omega
theorem sendWord_ok {p:PW} (h:Lv p) {D t d:Nat} {b v:Int} {c:Bool} (x:p.co D=t) (y:p.k d=7) (G:0≤b∧b≤65535) (J:0≤v∧v≤65535) (W:World) (wb:Nat) (tag:Nat→Nat) (V:Nat→Value) (bt:BoxT W wb tag V p):
  Calls Tryz.prog 51 #[.pointer (some ⟨wb,0,none⟩),.int .i64 t,.int .i64 d,.int .i64 b,.int .i64 v,.bool c] W fun r W'=>r=.returned (.tuple #[])∧Bx p wb tag W W':=by
 have i:=h.s;obtain⟨_,E,_⟩:=h.w.m.tk.q.inc x;have A:=h.w.m.tk.tl E;have f:=(h.w.m.tk.door y).2;have H:=h.rs (h.w.send (b:=b) (v:=v) (cl:=c) x y G J) (sn_rs p t d b v c);have B:Calls Tryz.prog 51 #[.pointer (some ⟨wb,0,none⟩),.int .i64 t,.int .i64 d,.int .i64 b,.int .i64 v,.bool c] W fun r W'=>r=.returned (.tuple #[])∧∃tag',BoxT W' wb tag' V (snP p t d b v c)∧Kt tag tag' W W':=by
  rcases fs_cases i f with o|⟨u,l,j,o,a,I,F,n⟩
  ·rw[snP_no b v c o];refine sendNone_ref wb tag V p t d b v c W bt h.w.fits A f ?_
   cases a:p.lines.getD d [] with
   |nil=>exact front_nil wb tag V p d true W bt h.w.fits f a
   |cons z l=>
    obtain⟨u,j,rfl,hk,F⟩:=line_first i f a;exact front_no wb tag V p d true W bt h.w.fits f u l a (by rw[i.lf.tasks];exact j) (fun e=>by
     have n:=az e;have K:fsV p d=u:=by unfold fsV;rw[a];show (if p.tasks.getD u bl 9=4 then (u:Int) else -1)=u;rw[ag n]
     omega)
  ·rw[snP_yes b v c o a];exact sendYes_ref wb tag V p t d u l b v c W bt h.w.fits h.w.r50 i A f a j (by rw[i.lf.tasks];exact j) I n
 refine B.mono fun r W' g=>?_;obtain⟨rfl,tag',C,k⟩:=g;exact⟨rfl,tag',V,_,k,C,H⟩
theorem takeWord_ok {p:PW} (h:Lv p) {A t d:Nat} (v:p.co A=t) (j:p.k d=7) (W:World) (wb:Nat) (tag:Nat→Nat) (V:Nat→Value) (bt:BoxT W wb tag V p):
  Calls Tryz.prog 136 #[.pointer (some ⟨wb,0,none⟩),.int .i64 t,.int .i64 d] W (Okd p wb tag W):=by
 have e:=h.s;obtain⟨_,C,e9,_⟩:=h.w.m.tk.q.inc v;have n:=h.w.m.tk.tl C;have b:=(h.w.m.tk.door j).2;obtain⟨E,G⟩:=kd j (by decide);by_cases f:p.tasks.getD t bl 17= -1
 ·have F:=h.rs (h.w.take v j f) (tk_rs p t d);have x:Calls Tryz.prog 136 #[.pointer (some ⟨wb,0,none⟩),.int .i64 t,.int .i64 d] W fun r W'=>r=.returned (.int .i64 0)∧∃tag',BoxT W' wb tag' V (tkP p t d)∧Kt tag tag' W W':=by
   rcases fk_cases e E G with c|⟨u,l,i,c,a,H,D,o⟩
   ·rw[tkP_no c];refine takeNone_ref wb tag V p t d W bt h.w.fits n b f ?_
    cases a:p.lines.getD d [] with
    |nil=>exact front_nil wb tag V p d false W bt h.w.fits b a
    |cons z l=>
     obtain⟨u,i,rfl,hk,D⟩:=line_first e b a;have B:p.tasks.getD u bl 9=4:=by
      rw[fk_at a] at c;by_cases h:p.tasks.getD u bl 9=4
      ·exact h
      ·rw[ae h] at c;omega
     exact front_no wb tag V p d false W bt h.w.fits b u l a (by rw[e.lf.tasks];exact i) (by rw[B];decide)
   ·rw[tkP_yes c a];exact takeYes_ref wb tag V p t d u l W bt h.w.fits e n b f a i (by rw[e.lf.tasks];exact i) H (by rintro rfl;have:p.t t 9=2∨p.t t 9=3:=o;omega) o
  refine x.mono fun r W' g=>?_;obtain⟨rfl,tag',y,k⟩:=g;exact⟨0,rfl,by decide,tag',V,_,k,y,F⟩
 ·refine (takeBusy_ref wb tag V p t d W bt h.w.fits n f).mono fun r W' g=>?_;obtain⟨rfl,rfl⟩:=g;exact⟨7,rfl,by decide,bU h bt (aj _ _)⟩
theorem answerWord_ok {p:PW} (h:Lv p) {n t:Nat} {v:Int} (x:p.co n=t) (A:0≤v∧v≤65535) (W:World) (wb:Nat) (tag:Nat→Nat) (V:Nat→Value) (bt:BoxT W wb tag V p):
  Calls Tryz.prog 137 #[.pointer (some ⟨wb,0,none⟩),.int .i64 t,.int .i64 v] W (Okd p wb tag W):=by
 have c:=h.s;obtain⟨_,b,e9,_⟩:=h.w.m.tk.q.inc x;have f:=h.w.m.tk.tl b;obtain⟨z,hk⟩:=kd b (by decide);by_cases a:p.tasks.getD t bl 17= -1
 ·refine (answerNone_ref wb tag V p t v W bt h.w.fits f a).mono fun r j g=>?_;obtain⟨rfl,rfl⟩:=g;exact⟨6,rfl,by decide,bU h bt (aj _ _)⟩
 ·obtain⟨u,i,d,y,o, -, -, -⟩:=owed_in c z hk a;have e:=h.rs (h.w.answer (v:=v) b a A) (an_rs p t v);rw[anP_at v d] at e;refine (answerYes_ref wb tag V p t u v W bt h.w.fits c f d i (by rw[c.lf.tasks];exact i) y (by rintro rfl;have:p.t t 9=5:=o;omega)).mono fun r j g=>?_;obtain⟨rfl,tag',l,k⟩:=g;exact⟨0,rfl,by decide,tag',V,_,k,l,e⟩
theorem ringBell_ok {p:PW} (h:Lv p) {a:Nat} {g:Int} (i:p.k a=8) (j:0≤g∧g≤65535) (W:World) (wb:Nat) (tag:Nat→Nat) (V:Nat→Value) (bt:BoxT W wb tag V p):
  Calls Tryz.prog 139 #[.pointer (some ⟨wb,0,none⟩),.int .i64 a,.int .i64 g] W fun r W'=>r=.returned (.tuple #[])∧Bx p wb tag W W':=by
 have b:=h.s;obtain⟨d,B⟩:=kd i (by decide);have f:a<p.lines.length:=by rw[b.lf.lines];exact d
 have y:a<p.bits.length:=by rw[b.lf.bits];exact d
 have C:0≤p.bi a∧p.bi a≤65535:=(h.w.m.tk.q.bt a).elim (fun e=>by rw[e];decide) fun e=>e.2.2;have x:=h.rs (h.w.ring i j (orW C j)) (rg_rs p a g);have o:Calls Tryz.prog 139 #[.pointer (some ⟨wb,0,none⟩),.int .i64 a,.int .i64 g] W fun r W'=>r=.returned (.tuple #[])∧∃tag',BoxT W' wb tag' V (rgP p a g)∧Kt tag tag' W W':=by
  obtain⟨zs,c⟩:∃zs,p.lines.getD a []=zs:=⟨_,rfl⟩
  unfold rgP;rw[ah,c]
  cases zs with
  |nil=>exact ringBell_nil wb tag V p a g W bt h.w.fits f y c (by have:p.bits.getD a 0=p.bi a:=rfl;omega) (by omega)
  |cons z l=>
   obtain⟨t,n,rfl,hk,A⟩:=line_first b f c;have v:=bell_first b d B n hk A;exact ringBell_cons wb tag V p a t l g W bt h.w.fits b f c n hk v
 refine o.mono fun r W' g=>?_;obtain⟨rfl,tag',u,k⟩:=g;exact⟨rfl,tag',V,_,k,u,x⟩
theorem hearBell_ok {p:PW} (h:Lv p) {i t a:Nat} (d:p.co i=t) (b:p.k a=8) (W:World) (wb:Nat) (tag:Nat→Nat) (V:Nat→Value) (bt:BoxT W wb tag V p):
  Calls Tryz.prog 138 #[.pointer (some ⟨wb,0,none⟩),.int .i64 t,.int .i64 a] W fun r W'=>r=.returned (.tuple #[])∧Bx p wb tag W W':=by
 have e:=h.s;obtain⟨_,j,_⟩:=h.w.m.tk.q.inc d;obtain⟨c,l⟩:=kd b (by decide);refine (hearBell_ref wb tag V p t a W bt h.w.fits (h.w.m.tk.tl j) (by rw[e.lf.lines];exact c) (by rw[e.lf.bits];exact c)).mono fun r W' g=>?_;obtain⟨rfl,tag',f,k⟩:=g;exact⟨rfl,tag',V,_,k,f,h.rs (h.w.hear d b) (hb_rs p t a)⟩
theorem Lv.row {p:PW} (h:Lv p) {t:Nat} (b:p.k t=6) {g:Nat→Int} (d:Gq (p.t t) g):Sm p {p with tasks:=p.tasks.set t g}:=by
 have lf:=h.w.m.tk.lf;have a:t<p.tasks.length:=by have:=lf.tasks;have:=k_in (p:=p) (f:=t) (by rw[b];decide);omega
 have key:∀n,n≤9→Sm p {p with tasks:=p.tasks.set t (fun k=>if k<n then g k else p.t t k)}:=by
  intro n
  induction n with
  |zero=>
   intro _;have e:p.tasks.set t (fun k=>if k<0 then g k else p.t t k)=p.tasks:=by
    apply List.ext_getElem?;intro j;rw[List.getElem?_set];split
    ·rename_i e;subst e;rw[ac a]
     congr 1
     funext k
     rw[ae (ex k)];show p.tasks.getD t bl k=_
     rw[aa,ac a];rfl
    ·rfl
   rw[e];exact Sm.refl h
  |succ n ih=>
   intro l;have s:=ih (by omega);have i:=s.w.reg (t:=t) b (k:=n) (v:=g n) (by omega) (d.w n (by omega));refine s.trans ?_;have e:(({p with tasks:=p.tasks.set t (fun k=>if k<n then g k else p.t t k)}:PW).task t n (g n))={p with tasks:=p.tasks.set t (fun k=>if k<n+1 then g k else p.t t k)}:=by
    unfold PW.task;simp only[eo]
    congr 2
    funext k
    have e2:(p.tasks.set t (fun k=>if k<n then g k else p.t t k)).getD t bl=fun k=>if k<n then g k else p.t t k:=by
     rw[aa,cQ a];rfl
    rw[e2];unfold Wd.upd;by_cases c:k=n
    ·rw[ag c,ag (by omega),c]
    ·rw[ae c];show (if k<n then g k else p.t t k)=_
     by_cases c2:k<n
     ·rw[ag c2,ag (by omega)]
     ·rw[ae c2,ae (by omega)]
   rw[e] at i;exact i
 have s:=key 9 (au _);have e:(fun k=>if k<9 then g k else p.t t k)=g:=by
  funext k
  split
  ·rfl
  ·exact (d.s k (by omega)).symm
 rw[e] at s;exact s
theorem stopTask_ok (wb:Nat) (tag:Nat→Nat) (V:Nat→Value) (p:PW) (t:Nat) (W:World) (bt:BoxT W wb tag V p) (h:Lv p) (a:p.k t=6):
  Calls Tryz.prog 50 #[.pointer (some ⟨wb,0,none⟩),.int .i64 t] W fun r W'=>r=.returned (.tuple #[])∧Bx p wb tag W W':=by
 refine (stopped_ref wb tag V p t W bt h.w.fits (by have:=h.w.m.tk.lf.tasks;have:=k_in (p:=p) (f:=t) (by rw[a];decide);omega)).mono ?_;rintro r W' ⟨c,tag',b,kt⟩;exact⟨c,tag',V,_,kt,b,h.rs (h.w.stop a) ⟨rfl,rfl,rfl,rfl,rfl,rfl⟩⟩
theorem rl_rs (p:PW) (c:Nat):Rs p (rlP p c):=by
 unfold rlP;split
 ·exact rnx_rest 4
 split
 ·exact dt p
 ·exact Rs.trans (Rs.wn (p:=p) (q:={p with cores:=p.cores.set c (-1)}) ⟨rfl,rfl,rfl,rfl,rfl,rfl⟩ _ _) (rnx_rest 4)
theorem settle_ok (wb:Nat) (tag:Nat→Nat) (V:Nat→Value) (p:PW) (c:Nat) (W:World) (bt:BoxT W wb tag V p) (h:Lv p) (a:c<p.cores.length):
  Calls Tryz.prog 44 #[.pointer (some ⟨wb,0,none⟩),.int .i64 c] W fun r W'=>r=.returned (.tuple #[])∧Bx p wb tag W W':=by
 have b:∀{r:Ending} {W':World},(r=.returned (.tuple #[])∧∃tag',BoxT W' wb tag' V (rlP p c)∧Kt tag tag' W W')→r=.returned (.tuple #[])∧Bx p wb tag W W':=by
  rintro r W' ⟨j,tag',i,kt⟩;exact⟨j,tag',V,_,kt,i,h.rs (h.w.settle a) (rl_rs p c)⟩
 rcases h.w.m.tk.q.cr c with e|⟨t,e,_,g,_⟩
 ·exact (settled_none wb tag V p c W bt h.w.fits h.s a e).mono fun _ _=>b
 ·have d:=k_in (p:=p) (f:=t) (by rw[g];decide)
  cases hd:dmB p (tnV p) t with
  |true=>exact (settled_stay wb tag V p c t W bt h.w.fits h.s a d e hd).mono fun _ _=>b
  |false=>exact (settled_out wb tag V p c t W bt h.w.fits (fun l hl=>by have:=h.w.line24.2 l hl;omega) h.s a d ((k_at d).trans g) e hd).mono fun _ _=>b
theorem Bx.pre {p:PW} {wb:Nat} {tag:Nat→Nat} {W e W2:World} (f:Below W.heap.size W e) (h:Bx p wb tag e W2):Bx p wb tag W W2:=by
 obtain⟨a,b,c,k,d⟩:=h;exact⟨a,b,c,(aW f).trans k,d⟩
theorem info8r:(Tryz.prog.info? 43).map (·.size)=some 8:=by kernel_rfl
theorem wp_ld8 {ops:Array Oper} {rest:List Oper} {op:Oper} {a:Act} {w:World} {Q:Exit→Act→World→Prop} (d:op.guard=none) (x:Operand) (e:op.op=.load 43 x)
  (b o:Nat) (f:a.eval x=.pointer (some ⟨b,o,none⟩)) (cs:List Value) (hl:cs.length=8) (c:w.rangeAt b o cs)
  (h:wpList Tryz.prog ops Q rest (a.put op.dst (.agg cs.toArray)) w):wpList Tryz.prog ops Q (op::rest) a w:=
 wpList_load_mid d 43 x e b o f cs _ c Tryz.underlying43 rfl (by rw[info8r,hl]) h
theorem wp_st8 {ops:Array Oper} {rest:List Oper} {op:Oper} {a:Act} {w:World} {Q:Exit→Act→World→Prop} (d:op.guard=none) (x y:Operand) (e:op.op=.store 43 x y)
  (b o:Nat) (g:a.eval x=.pointer (some ⟨b,o,none⟩)) (cs:List Value) (i:a.eval y=.agg cs.toArray) (hl:cs.length=8) (c:∀v∈cs,v.oneCell'=true) (f:w.there b o 8)
  (h:wpList Tryz.prog ops Q rest (a.put op.dst undef) (w.setCells b o cs)):wpList Tryz.prog ops Q (op::rest) a w:=
 wpList_store_mid d 43 x y e b o cs.toArray g i (by simpa [hl] using f) (by rw[info8r];simp[hl]) (all_oneCell_toArray c) (by simpa using h)
theorem kAt_rb {p:PW} (h:Lw p) {n a k r:Int} (hk:2≤k) (e:(kAt p n a k r).2=0):(∃f:Nat,(kAt p n a k r).1 1=f∧p.k f=k)∧(0≤(kAt p n a k r).1 4∧(kAt p n a k r).1 4≤7)∧0≤(kAt p n a k r).1 5∧(kAt p n a k r).1 5≤65535:=by
 refine⟨kAt_to h hk e,(kAt_to4 h hk e).2,?_⟩;obtain⟨v,o⟩:=h.m.keys;unfold kAt at e ⊢;by_cases b:(sAt p n a).2=0
 ·rw[ag b] at e ⊢;generalize (sAt p n a).1.toNat=i at e ⊢;have d:∀j,j<6→p.slots.getD i nkey j=p.s i j:=fun j u=>by
   show p.slots.getD i nkey j=p.slots.getD i eS j
   rw[aa,aa]
   cases p.slots[i]? with
   |some x=>rfl
   |none=>show nkey j=eS j;unfold nkey eS;rw[ae (by omega)]
  unfold kOf at e ⊢;have q:=d 0 (by decide);have t:=d 5 (by decide);by_cases c0:p.slots.getD i nkey 0=0
  ·rw[ag c0] at e;cases e
  rw[ae c0] at e ⊢;by_cases c1:p.slots.getD i nkey 0=k
  ·rw[ag c1] at e ⊢;split at e
   ·rename_i c2;rw[ag c2];obtain⟨_,_,_,_,_,_,_,_,_,_,g,l⟩:=KP.chk_zero (show KP.chk (p.s i 0) (p.s i 1) (p.s i 2) (p.s i 3) (p.s i 4) (p.s i 5)=0 from (o.key i (by rw[←q];exact c0)).c);show 0≤p.slots.getD i nkey 5∧p.slots.getD i nkey 5≤65535
    rw[t];exact⟨g,l⟩
   ·cases e
  ·rw[ae c1] at e;cases e
 ·rw[ae b] at e;exact absurd e b
theorem Lw.yield {p:PW} (h:Lw p) {c t:Nat} (a:p.co c=t) (hl:c<p.cores.length):Lw (wnP {p with cores:=p.cores.set c (-1)} t (rdN p t)):=by
 have x:=h.m.tk;obtain⟨_,b,d,_⟩:=x.q.inc a;have y:Tk (Hnd t) {p with cores:=p.cores.set c (-1)}:=x.li' (L:=p.lines) (B:=p.bits) (R:=p.ready) (x.q.offc1 a hl);exact h.tk (y.wake (show p.t t 9≠5 by omega)) (((dt p).ls (L:=p.lines) (R:=p.ready) (B:=p.bits) (C:=p.cores.set c (-1))).wn t (rdN p t))
set_option maxRecDepth 100000
set_option maxHeartbeats 16000000
theorem asked_ok (wb:Nat) (tag:Nat→Nat) (V:Nat→Value) (p:PW) (c t:Nat) (n:Int) (w:World) (bt:BoxT w wb tag V p) (hp:Lv p) (hc:p.co c=t):
  Calls Tryz.prog 86 #[.pointer (some ⟨wb,0,none⟩),.int .i64 (c:Int),.int .i64 n] w fun r w'=>Okd p wb tag w r w':=by
 have lf:=hp.w.m.tk.lf;have HV:=hid (bt.view hp.w.fits hp.w.t100);have H:=hid bt;have x:=hid hp;have HC:=hid hc;obtain⟨_,h6,_⟩:=hp.w.m.tk.q.inc hc;have H6:=hid h6;have aD:=k_in (p:=p) (f:=t) (by rw[h6];decide);have HG:=hid (fun k (hk:k<8)=>hp.w.m.tk.word h6 (k:=k) (.inl (by omega)));have an:t<p.tasks.length:=by have:=lf.tasks;omega
 have ap:c<p.cores.length:=Nat.lt_of_not_le fun hh=>by
  have e:p.co c= -1:=by show p.cores.getD c (-1)= -1;rw[aa,aH hh];rfl
  rw[hc] at e;omega
 have aV:(c:Int)<(p.cores.length:Int):=by omega
 have aX:(p.cores.length:Int)≤1000:=by have:=hp.w.fits.cores;omega
 have aY:(t:Int)<(p.tasks.length:Int):=by omega
 have aZ:(p.tasks.length:Int)≤1000:=by have:=hp.w.fits.tasks;omega
 obtain⟨g6,k6,e6⟩:=bt.o.cores.form (by omega);obtain⟨gt,kt,e3⟩:=bt.o.tasks.form (by omega);have E6:=hid e6;have E3:=hid e3;have av:=hid ap;have aw:=hid an;have x6:w.cell? ⟨g6,c,none⟩=some (.int .i64 t):=by rw[(bt.coresAt e6 ap).1];exact cX (fun z=>some (Value.int .i64 z)) hc
 have c6:w.cell? ⟨wb,6,none⟩=some (.slice (some ⟨g6,0,none⟩) p.cores.length k6):=by rw[af bt.r (k:=6) rfl,e6]
 have c3:w.cell? ⟨wb,3,none⟩=some (.slice (some ⟨gt,0,none⟩) p.tasks.length kt):=by rw[af bt.r (k:=3) rfl,e3]
 have td:=bt.taskAt e3 an (show 11<20 by omega);have RT:=hid (show w.rangeAt gt (t*20) (cf 8 (p.t t)) from fun j v hv=>by
  have hj:j<8:=by have:=(List.getElem?_eq_some_iff.1 hv).1;simpa [cf] using this
  rw[cf_at 8 _ j hj] at hv
  cases hv
  exact bt.taskAt e3 an (show j<20 by omega))
 obtain⟨d,hd⟩:∃d,p.tasks.getD t bl 11=d:=⟨_,rfl⟩
 rw[hd] at td;obtain⟨g,hg⟩:∃g,p.t t=g:=⟨_,rfl⟩
 rw[hg] at RT HG;have HD:=hid hd;have aJ:=hid hg;clear bt hp hc hd hg e6 e3 lf aD h6 ap an;have Q:=hid (fun o=>aG (T:=fun _=>False) (w:=w) (b:=w.heap.size) (.inr (au _)) (cf 8 g) 0 _ ((aR _ w).alloc o));have S:=hid (fun z u (hz:8≤z.size)=>World.rangeAt_setCells_same (w.alloc (.cells z u)) w.heap.size 0 (cf 8 g) (by rw[ax];exact aM w z u _ 8 rfl hz));go_enter Tryz.func86,Tryz.ntmps86
 go_upto_region 3 with (first
  |((with_reducible refine gld 43 ?_);refine wp_ld8 rfl _ rfl gt (t*20) rfl (cf 8 g) (ax _ _) RT ?_)
  |((with_reducible refine gst 43 ?_);refine wp_st8 rfl _ _ rfl w.heap.size 0 rfl (cf 8 g) rfl (ax _ _) (bK _ _) (aM _ _ _ _ _ (by simp) (by decide)) ?_))
 generalize M:World.setCells _ _ _ _=G;have F:=hid (show Below w.heap.size w G by rw[←M];exact (Q.out _).all);have P:=hid (show G.rangeAt w.heap.size 0 (cf 8 g) by rw[←M];exact S _ _ (by simp));clear M Q S RT x6;replace c6:=cu F c6;replace c3:=cu F c3;replace td:=cu F td;by_cases i:n=0
 ·subst i;obtain⟨r1,r2,r3,r4⟩:=rdN_eq x.s (k_in (p:=p) (f:=t) (by rw[H6.out];decide)) ((k_at (k_in (p:=p) (f:=t) (by rw[H6.out];decide))).trans H6);have aA:({p with cores:=p.cores.set c (-1)}:PW).Fits:=by
   have h:=x.w.fits;exact⟨h.ram,h.kinds,h.slots,h.tasks,h.lines,h.line,h.bits,by show (p.cores.set c (-1)).length≤1000;rw[ar];exact h.cores,h.ready,h.next,h.tlbs,h.doms⟩
  have ay:=hid (fun X (h:BoxT X wb tag V {p with cores:=p.cores.set c (-1)})=>woken_ref wb tag V {p with cores:=p.cores.set c (-1)} t (rdN p t) X h aA aw r1 r3 r4 r2);have ao:=hid (H.below F);obtain⟨x6,f6⟩:=ao.coresAt E6 av;obtain⟨b2,k2⟩:=ao.coresCell E6 c (-1);have B5:=hid b2;have K5:=hid ((aW (tag:=tag) F).trans k2);clear b2 k2 r1 r2 r3 r4 aA;go_upto_region 7 with fail
  generalize World.setCell _ _ _=w2 at*;clear c6 x6 f6 ao;go_wp2_with fail
  refine (ay.out _ B5).mono ?_;rintro r w3 ⟨rfl,tg,h1,h2⟩;have aB:=hid (show Bx p wb tag w w3 from⟨tg,V,_,K5.trans h2,h1,x.rs (x.w.yield HC av) (((dt p).ls (L:=p.lines) (R:=p.ready) (B:=p.bits) (C:=p.cores.set c (-1))).wn t (rdN p t))⟩);clear h1 h2 ay B5 K5;go_wp2_with fail
  refine aq (v:=.int .i64 (0)) (by simp[results,Tryz.results86,go_sem]) rfl ⟨0,rfl,by decide,aB.out⟩
 have N0:(n==0)=false:=by simp[i]
 clear i;by_cases i:n=1
 ·subst i;have A:=hid (eD wb V p d (g 1) 7 2 G (HV.below F) x.s);have Z:=hid (kAt_rng p d (g 1) 7 2);have ET:=hid (fun h=>kAt_rb x.w (n:=d) (a:=g 1) (k:=7) (r:=2) (by decide) h);generalize (kAt p d (g 1) 7 2).2=E at*;generalize (kAt p d (g 1) 7 2).1=K at*;have W:=af P (cf_at 8 g 1 (by decide));go_wp2_with fail
  refine A.mono ?_;rintro r w2 ⟨rfl,l⟩;have Q:=hid (fun o=>aG (T:=fun _=>False) (w:=G) (b:=w2.heap.size) (.inr l.size) (cf 6 K) 0 _ ((dR l).alloc o));have S:=hid (fun z u (hz:6≤z.size)=>World.rangeAt_setCells_same (w2.alloc (.cells z u)) w2.heap.size 0 (cf 6 K) (by rw[ax];exact aM w2 z u _ 6 rfl hz));clear l A W;go_upto_region 12 with ((with_reducible refine gst 78 ?_);refine wp_stK rfl _ _ rfl w2.heap.size 0 rfl (cf 6 K) rfl (ax _ _) (bK _ _) (aM _ _ _ _ _ (by simp) (by decide)) ?_)
  generalize M:World.setCells _ _ _ _=O;have BB:=hid (show Below G.heap.size G O by rw[←M];exact (Q.out _).all);have I:=hid (show O.rangeAt w2.heap.size 0 (cf 6 K) by rw[←M];exact S _ _ (by simp));clear M Q S;have N:=hid (btr F BB);have t2:=cu BB (af P (cf_at 8 g 2 (by decide)));have x1:=af I (cf_at 6 K 1 (by decide));have x4:=af I (cf_at 6 K 4 (by decide));have x5:=af I (cf_at 6 K 5 (by decide));by_cases D:E=0
  case neg=>
   have ae:(E==0)=false:=by simp[D]
   go_wp2_with fail
   refine aq (v:=.int .i64 (E)) (by simp[results,Tryz.results86,go_sem]) rfl ⟨E,rfl,Z.out,bU x H N⟩
  case pos=>
   subst D;obtain⟨⟨f,ab,ac⟩,⟨r0,r1⟩,b0,b1⟩:=ET.out rfl;rw[ab] at x1;have HF:=hid ac;generalize K 4=rr at*;generalize K 5=bb at*;clear ET Z ab ac I;go_wp2_with fail
   refine (sendWord_ok x HC HF ⟨b0,b1⟩ (HG.out 2 (by decide)) O wb tag V (H.below N)).mono ?_;rintro r w4 ⟨rfl,y⟩;have J:=hid y;clear y;go_wp2_with fail
   refine aq (v:=.int .i64 (0)) (by simp[results,Tryz.results86,go_sem]) rfl ⟨0,rfl,by decide,J.pre N⟩
 have N1:(n==1)=false:=by simp[i]
 clear i;by_cases i:n=2
 ·subst i;have A:=hid (eD wb V p d (g 1) 7 2 G (HV.below F) x.s);have Z:=hid (kAt_rng p d (g 1) 7 2);have ET:=hid (fun h=>kAt_rb x.w (n:=d) (a:=g 1) (k:=7) (r:=2) (by decide) h);generalize (kAt p d (g 1) 7 2).2=E at*;generalize (kAt p d (g 1) 7 2).1=K at*;have W:=af P (cf_at 8 g 1 (by decide));go_wp2_with fail
  refine A.mono ?_;rintro r w2 ⟨rfl,l⟩;have Q:=hid (fun o=>aG (T:=fun _=>False) (w:=G) (b:=w2.heap.size) (.inr l.size) (cf 6 K) 0 _ ((dR l).alloc o));have S:=hid (fun z u (hz:6≤z.size)=>World.rangeAt_setCells_same (w2.alloc (.cells z u)) w2.heap.size 0 (cf 6 K) (by rw[ax];exact aM w2 z u _ 6 rfl hz));clear l A W;go_upto_region 12 with ((with_reducible refine gst 78 ?_);refine wp_stK rfl _ _ rfl w2.heap.size 0 rfl (cf 6 K) rfl (ax _ _) (bK _ _) (aM _ _ _ _ _ (by simp) (by decide)) ?_)
  generalize M:World.setCells _ _ _ _=O;have BB:=hid (show Below G.heap.size G O by rw[←M];exact (Q.out _).all);have I:=hid (show O.rangeAt w2.heap.size 0 (cf 6 K) by rw[←M];exact S _ _ (by simp));clear M Q S;have N:=hid (btr F BB);have t2:=cu BB (af P (cf_at 8 g 2 (by decide)));have x1:=af I (cf_at 6 K 1 (by decide));have x4:=af I (cf_at 6 K 4 (by decide));have x5:=af I (cf_at 6 K 5 (by decide));by_cases D:E=0
  case neg=>
   have ae:(E==0)=false:=by simp[D]
   go_wp2_with fail
   refine aq (v:=.int .i64 (E)) (by simp[results,Tryz.results86,go_sem]) rfl ⟨E,rfl,Z.out,bU x H N⟩
  case pos=>
   subst D;obtain⟨⟨f,ab,ac⟩,⟨r0,r1⟩,b0,b1⟩:=ET.out rfl;rw[ab] at x1;have HF:=hid ac;generalize K 4=rr at*;generalize K 5=bb at*;clear ET Z ab ac I;by_cases hw:rr/4%2=0
   ·have aI:(rr/4%2==0)=true:=by simp[hw]
    clear hw;go_wp2_with fail
    refine aq (v:=.int .i64 (4)) (by simp[results,Tryz.results86,go_sem]) rfl ⟨4,rfl,by decide,bU x H N⟩
   ·have aI:(rr/4%2==0)=false:=by simp[hw]
    clear hw;go_wp2_with fail
    refine (sendWord_ok x HC HF ⟨b0,b1⟩ (HG.out 2 (by decide)) O wb tag V (H.below N)).mono ?_;rintro r w4 ⟨rfl,y⟩;have J:=hid y;clear y;go_wp2_with fail
    refine aq (v:=.int .i64 (0)) (by simp[results,Tryz.results86,go_sem]) rfl ⟨0,rfl,by decide,J.pre N⟩
 have N2:(n==2)=false:=by simp[i]
 clear i;by_cases i:n=3
 ·subst i;have A:=hid (eD wb V p d (g 1) 7 1 G (HV.below F) x.s);have Z:=hid (kAt_rng p d (g 1) 7 1);have ET:=hid (fun h=>kAt_rb x.w (n:=d) (a:=g 1) (k:=7) (r:=1) (by decide) h);generalize (kAt p d (g 1) 7 1).2=E at*;generalize (kAt p d (g 1) 7 1).1=K at*;have W:=af P (cf_at 8 g 1 (by decide));go_wp2_with fail
  refine A.mono ?_;rintro r w2 ⟨rfl,l⟩;have Q:=hid (fun o=>aG (T:=fun _=>False) (w:=G) (b:=w2.heap.size) (.inr l.size) (cf 6 K) 0 _ ((dR l).alloc o));have S:=hid (fun z u (hz:6≤z.size)=>World.rangeAt_setCells_same (w2.alloc (.cells z u)) w2.heap.size 0 (cf 6 K) (by rw[ax];exact aM w2 z u _ 6 rfl hz));clear l A W;go_upto_region 20 with ((with_reducible refine gst 78 ?_);refine wp_stK rfl _ _ rfl w2.heap.size 0 rfl (cf 6 K) rfl (ax _ _) (bK _ _) (aM _ _ _ _ _ (by simp) (by decide)) ?_)
  generalize M:World.setCells _ _ _ _=O;have BB:=hid (show Below G.heap.size G O by rw[←M];exact (Q.out _).all);have I:=hid (show O.rangeAt w2.heap.size 0 (cf 6 K) by rw[←M];exact S _ _ (by simp));clear M Q S;have N:=hid (btr F BB);have x1:=af I (cf_at 6 K 1 (by decide));have x4:=af I (cf_at 6 K 4 (by decide));have x5:=af I (cf_at 6 K 5 (by decide));by_cases D:E=0
  case neg=>
   have ae:(E==0)=false:=by simp[D]
   go_wp2_with fail
   refine aq (v:=.int .i64 (E)) (by simp[results,Tryz.results86,go_sem]) rfl ⟨E,rfl,Z.out,bU x H N⟩
  case pos=>
   subst D;obtain⟨⟨f,ab,ac⟩,⟨r0,r1⟩,b0,b1⟩:=ET.out rfl;rw[ab] at x1;have HF:=hid ac;generalize K 4=rr at*;generalize K 5=bb at*;clear ET Z ab ac I;go_wp2_with fail
   refine (takeWord_ok x HC HF O wb tag V (H.below N)).mono ?_;rintro r w4 ⟨e,rfl,U,y⟩;have J:=hid y;clear y;go_wp2_with fail
   refine aq (v:=.int .i64 (e)) (by simp[results,Tryz.results86,go_sem]) rfl ⟨e,rfl,U,J.pre N⟩
 have N3:(n==3)=false:=by simp[i]
 clear i;by_cases i:n=4
 ·subst i;have t2:=af P (cf_at 8 g 2 (by decide));go_wp2_with fail
  refine (answerWord_ok x HC (HG.out 2 (by decide)) G wb tag V (H.below F)).mono ?_;rintro r w4 ⟨e,rfl,U,y⟩;have J:=hid y;clear y;go_wp2_with fail
  refine aq (v:=.int .i64 (e)) (by simp[results,Tryz.results86,go_sem]) rfl ⟨e,rfl,U,J.pre F⟩
 have N4:(n==4)=false:=by simp[i]
 clear i;by_cases i:n=5
 ·subst i;have A:=hid (eD wb V p d (g 1) 8 2 G (HV.below F) x.s);have Z:=hid (kAt_rng p d (g 1) 8 2);have ET:=hid (fun h=>kAt_rb x.w (n:=d) (a:=g 1) (k:=8) (r:=2) (by decide) h);generalize (kAt p d (g 1) 8 2).2=E at*;generalize (kAt p d (g 1) 8 2).1=K at*;have W:=af P (cf_at 8 g 1 (by decide));go_wp2_with fail
  refine A.mono ?_;rintro r w2 ⟨rfl,l⟩;have Q:=hid (fun o=>aG (T:=fun _=>False) (w:=G) (b:=w2.heap.size) (.inr l.size) (cf 6 K) 0 _ ((dR l).alloc o));have S:=hid (fun z u (hz:6≤z.size)=>World.rangeAt_setCells_same (w2.alloc (.cells z u)) w2.heap.size 0 (cf 6 K) (by rw[ax];exact aM w2 z u _ 6 rfl hz));clear l A W;go_upto_region 31 with ((with_reducible refine gst 78 ?_);refine wp_stK rfl _ _ rfl w2.heap.size 0 rfl (cf 6 K) rfl (ax _ _) (bK _ _) (aM _ _ _ _ _ (by simp) (by decide)) ?_)
  generalize M:World.setCells _ _ _ _=O;have BB:=hid (show Below G.heap.size G O by rw[←M];exact (Q.out _).all);have I:=hid (show O.rangeAt w2.heap.size 0 (cf 6 K) by rw[←M];exact S _ _ (by simp));clear M Q S;have N:=hid (btr F BB);have x1:=af I (cf_at 6 K 1 (by decide));have x4:=af I (cf_at 6 K 4 (by decide));have x5:=af I (cf_at 6 K 5 (by decide));by_cases D:E=0
  case neg=>
   have ae:(E==0)=false:=by simp[D]
   go_wp2_with fail
   refine aq (v:=.int .i64 (E)) (by simp[results,Tryz.results86,go_sem]) rfl ⟨E,rfl,Z.out,bU x H N⟩
  case pos=>
   subst D;obtain⟨⟨f,ab,ac⟩,⟨r0,r1⟩,b0,b1⟩:=ET.out rfl;rw[ab] at x1;have HF:=hid ac;generalize K 4=rr at*;generalize K 5=bb at*;clear ET Z ab ac I;by_cases az:bb=0
   ·subst az;go_wp2_with fail
    refine (ringBell_ok x HF (g:=1) (by decide) O wb tag V (H.below N)).mono ?_;rintro r w4 ⟨rfl,y⟩;have J:=hid y;clear y;go_wp2_with fail
    refine aq (v:=.int .i64 (0)) (by simp[results,Tryz.results86,go_sem]) rfl ⟨0,rfl,by decide,J.pre N⟩
   ·have aU:(bb==0)=false:=by simp[az]
    go_wp2_with fail
    refine (ringBell_ok x HF ⟨b0,b1⟩ O wb tag V (H.below N)).mono ?_;rintro r w4 ⟨rfl,y⟩;have J:=hid y;clear y;go_wp2_with fail
    refine aq (v:=.int .i64 (0)) (by simp[results,Tryz.results86,go_sem]) rfl ⟨0,rfl,by decide,J.pre N⟩
 have N5:(n==5)=false:=by simp[i]
 clear i;by_cases i:n=6
 ·subst i;have A:=hid (eD wb V p d (g 1) 8 1 G (HV.below F) x.s);have Z:=hid (kAt_rng p d (g 1) 8 1);have ET:=hid (fun h=>kAt_rb x.w (n:=d) (a:=g 1) (k:=8) (r:=1) (by decide) h);generalize (kAt p d (g 1) 8 1).2=E at*;generalize (kAt p d (g 1) 8 1).1=K at*;have W:=af P (cf_at 8 g 1 (by decide));go_wp2_with fail
  refine A.mono ?_;rintro r w2 ⟨rfl,l⟩;have Q:=hid (fun o=>aG (T:=fun _=>False) (w:=G) (b:=w2.heap.size) (.inr l.size) (cf 6 K) 0 _ ((dR l).alloc o));have S:=hid (fun z u (hz:6≤z.size)=>World.rangeAt_setCells_same (w2.alloc (.cells z u)) w2.heap.size 0 (cf 6 K) (by rw[ax];exact aM w2 z u _ 6 rfl hz));clear l A W;go_upto_region 31 with ((with_reducible refine gst 78 ?_);refine wp_stK rfl _ _ rfl w2.heap.size 0 rfl (cf 6 K) rfl (ax _ _) (bK _ _) (aM _ _ _ _ _ (by simp) (by decide)) ?_)
  generalize M:World.setCells _ _ _ _=O;have BB:=hid (show Below G.heap.size G O by rw[←M];exact (Q.out _).all);have I:=hid (show O.rangeAt w2.heap.size 0 (cf 6 K) by rw[←M];exact S _ _ (by simp));clear M Q S;have N:=hid (btr F BB);have x1:=af I (cf_at 6 K 1 (by decide));have x4:=af I (cf_at 6 K 4 (by decide));have x5:=af I (cf_at 6 K 5 (by decide));by_cases D:E=0
  case neg=>
   have ae:(E==0)=false:=by simp[D]
   go_wp2_with fail
   refine aq (v:=.int .i64 (E)) (by simp[results,Tryz.results86,go_sem]) rfl ⟨E,rfl,Z.out,bU x H N⟩
  case pos=>
   subst D;obtain⟨⟨f,ab,ac⟩,⟨r0,r1⟩,b0,b1⟩:=ET.out rfl;rw[ab] at x1;have HF:=hid ac;generalize K 4=rr at*;generalize K 5=bb at*;clear ET Z ab ac I;go_wp2_with fail
   refine (hearBell_ok x HC HF O wb tag V (H.below N)).mono ?_;rintro r w4 ⟨rfl,y⟩;have J:=hid y;clear y;go_wp2_with fail
   refine aq (v:=.int .i64 (0)) (by simp[results,Tryz.results86,go_sem]) rfl ⟨0,rfl,by decide,J.pre N⟩
 have N6:(n==6)=false:=by simp[i]
 clear i;by_cases i:n=7
 ·subst i;have A:=hid (slotAt_ref wb V p d (g 1) G (HV.below F) x.s);have ag:=hid (sAt_rng p d (g 1));generalize (sAt p d (g 1)).2=Y at*;generalize (sAt p d (g 1)).1=s1 at*;have W:=af P (cf_at 8 g 1 (by decide));go_wp2_with fail
  refine A.mono ?_;rintro r ai ⟨rfl,l⟩;have ad:=hid (btr F l);have t2:=cu l (af P (cf_at 8 g 2 (by decide)));have t3:=cu l (af P (cf_at 8 g 3 (by decide)));have t4:=cu l (af P (cf_at 8 g 4 (by decide)));clear W;clear l A;by_cases D:Y=0
  case neg=>
   have ae:(Y==0)=false:=by simp[D]
   go_wp2_with fail
   refine aq (v:=.int .i64 (Y)) (by simp[results,Tryz.results86,go_sem]) rfl ⟨Y,rfl,by have:=ag.out;omega,bU x H ad⟩
  case pos=>
   subst D;clear ag;have A:=hid (slotAt_ref wb V p d (g 2) ai (HV.below ad) x.s);have al:=hid (sAt_rng p d (g 2));generalize (sAt p d (g 2)).2=E2 at*;generalize (sAt p d (g 2)).1=s2 at*;go_wp2_with fail
   refine A.mono ?_;rintro r am ⟨rfl,l⟩;have ah:=hid (btr ad l);replace t3:=cu l t3;replace t4:=cu l t4;clear l A;by_cases D:E2=0
   case neg=>
    have ae:(E2==0)=false:=by simp[D]
    go_wp2_with fail
    refine aq (v:=.int .i64 (E2)) (by simp[results,Tryz.results86,go_sem]) rfl ⟨E2,rfl,by have:=al.out;omega,bU x H ah⟩
   case pos=>
    subst D;clear al;go_wp2_with fail
    refine (makeThings_ok s1 (g 3) (g 4) s2 x am wb tag V (H.below ah)).mono ?_;rintro r w4 ⟨e,rfl,U,y⟩;have J:=hid y;clear y;go_wp2_with fail
    refine aq (v:=.int .i64 (e)) (by simp[results,Tryz.results86,go_sem]) rfl ⟨e,rfl,U,J.pre ah⟩
 have N7:(n==7)=false:=by simp[i]
 clear i;by_cases i:n=8
 ·subst i;have A:=hid (slotAt_ref wb V p d (g 1) G (HV.below F) x.s);have ag:=hid (sAt_rng p d (g 1));generalize (sAt p d (g 1)).2=Y at*;generalize (sAt p d (g 1)).1=s1 at*;have W:=af P (cf_at 8 g 1 (by decide));go_wp2_with fail
  refine A.mono ?_;rintro r ai ⟨rfl,l⟩;have ad:=hid (btr F l);have t2:=cu l (af P (cf_at 8 g 2 (by decide)));have t3:=cu l (af P (cf_at 8 g 3 (by decide)));have t4:=cu l (af P (cf_at 8 g 4 (by decide)));clear W;clear l A;by_cases D:Y=0
  case neg=>
   have ae:(Y==0)=false:=by simp[D]
   go_wp2_with fail
   refine aq (v:=.int .i64 (Y)) (by simp[results,Tryz.results86,go_sem]) rfl ⟨Y,rfl,by have:=ag.out;omega,bU x H ad⟩
  case pos=>
   subst D;clear ag;have A:=hid (slotAt_ref wb V p d (g 2) ai (HV.below ad) x.s);have al:=hid (sAt_rng p d (g 2));generalize (sAt p d (g 2)).2=E2 at*;generalize (sAt p d (g 2)).1=s2 at*;go_wp2_with fail
   refine A.mono ?_;rintro r am ⟨rfl,l⟩;have ah:=hid (btr ad l);replace t3:=cu l t3;replace t4:=cu l t4;clear l A;by_cases D:E2=0
   case neg=>
    have ae:(E2==0)=false:=by simp[D]
    go_wp2_with fail
    refine aq (v:=.int .i64 (E2)) (by simp[results,Tryz.results86,go_sem]) rfl ⟨E2,rfl,by have:=al.out;omega,bU x H ah⟩
   case pos=>
    subst D;clear al;obtain⟨u3,h3⟩:∃u:Nat,g 3=u:=⟨(g 3).toNat,by have:=(HG.out 3 (by decide)).1;omega⟩
    obtain⟨u4,h4⟩:∃u:Nat,g 4=u:=⟨(g 4).toNat,by have:=(HG.out 4 (by decide)).1;omega⟩
    rw[h3] at t3;rw[h4] at t4;go_wp2_with fail
    refine (copyKey_ok s1 s2 u3 u4 x am wb tag V (H.below ah)).mono ?_;rintro r w4 ⟨e,rfl,U,y⟩;have J:=hid y;clear y;go_wp2_with fail
    refine aq (v:=.int .i64 (e)) (by simp[results,Tryz.results86,go_sem]) rfl ⟨e,rfl,U,J.pre ah⟩
 have N8:(n==8)=false:=by simp[i]
 clear i;by_cases i:n=9
 ·subst i;have A:=hid (slotAt_ref wb V p d (g 1) G (HV.below F) x.s);have ag:=hid (sAt_rng p d (g 1));generalize (sAt p d (g 1)).2=Y at*;generalize (sAt p d (g 1)).1=s1 at*;have W:=af P (cf_at 8 g 1 (by decide));go_wp2_with fail
  refine A.mono ?_;rintro r ai ⟨rfl,l⟩;have ad:=hid (btr F l);have t2:=cu l (af P (cf_at 8 g 2 (by decide)));have t3:=cu l (af P (cf_at 8 g 3 (by decide)));have t4:=cu l (af P (cf_at 8 g 4 (by decide)));clear W;clear l A;by_cases D:Y=0
  case neg=>
   have ae:(Y==0)=false:=by simp[D]
   go_wp2_with fail
   refine aq (v:=.int .i64 (Y)) (by simp[results,Tryz.results86,go_sem]) rfl ⟨Y,rfl,by have:=ag.out;omega,bU x H ad⟩
  case pos=>
   subst D;clear ag;have A:=hid (slotAt_ref wb V p d (g 2) ai (HV.below ad) x.s);have al:=hid (sAt_rng p d (g 2));generalize (sAt p d (g 2)).2=E2 at*;generalize (sAt p d (g 2)).1=s2 at*;go_wp2_with fail
   refine A.mono ?_;rintro r am ⟨rfl,l⟩;have ah:=hid (btr ad l);replace t3:=cu l t3;replace t4:=cu l t4;clear l A;by_cases D:E2=0
   case neg=>
    have ae:(E2==0)=false:=by simp[D]
    go_wp2_with fail
    refine aq (v:=.int .i64 (E2)) (by simp[results,Tryz.results86,go_sem]) rfl ⟨E2,rfl,by have:=al.out;omega,bU x H ah⟩
   case pos=>
    subst D;clear al;go_wp2_with fail
    refine (moveKey_ok s1 s2 x am wb tag V (H.below ah)).mono ?_;rintro r w4 ⟨e,rfl,U,y⟩;have J:=hid y;clear y;go_wp2_with fail
    refine aq (v:=.int .i64 (e)) (by simp[results,Tryz.results86,go_sem]) rfl ⟨e,rfl,U,J.pre ah⟩
 have N9:(n==9)=false:=by simp[i]
 clear i;by_cases i:n=10
 ·subst i;have A:=hid (slotAt_ref wb V p d (g 1) G (HV.below F) x.s);have ag:=hid (sAt_rng p d (g 1));generalize (sAt p d (g 1)).2=Y at*;generalize (sAt p d (g 1)).1=s1 at*;have W:=af P (cf_at 8 g 1 (by decide));go_wp2_with fail
  refine A.mono ?_;rintro r ai ⟨rfl,l⟩;have ad:=hid (btr F l);clear W;clear l A;by_cases D:Y=0
  case neg=>
   have ae:(Y==0)=false:=by simp[D]
   go_wp2_with fail
   refine aq (v:=.int .i64 (Y)) (by simp[results,Tryz.results86,go_sem]) rfl ⟨Y,rfl,by have:=ag.out;omega,bU x H ad⟩
  case pos=>
   subst D;clear ag;go_wp2_with fail
   refine (dropKey_ok s1 x ai wb tag V (H.below ad)).mono ?_;rintro r w4 ⟨e,rfl,U,y⟩;have J:=hid y;clear y;go_wp2_with fail
   refine aq (v:=.int .i64 (e)) (by simp[results,Tryz.results86,go_sem]) rfl ⟨e,rfl,U,J.pre ad⟩
 have aK:(n==10)=false:=by simp[i]
 clear i;by_cases i:n=11
 ·subst i;have A:=hid (slotAt_ref wb V p d (g 1) G (HV.below F) x.s);have ag:=hid (sAt_rng p d (g 1));generalize (sAt p d (g 1)).2=Y at*;generalize (sAt p d (g 1)).1=s1 at*;have W:=af P (cf_at 8 g 1 (by decide));go_wp2_with fail
  refine A.mono ?_;rintro r ai ⟨rfl,l⟩;have ad:=hid (btr F l);clear W;clear l A;by_cases D:Y=0
  case neg=>
   have ae:(Y==0)=false:=by simp[D]
   go_wp2_with fail
   refine aq (v:=.int .i64 (Y)) (by simp[results,Tryz.results86,go_sem]) rfl ⟨Y,rfl,by have:=ag.out;omega,bU x H ad⟩
  case pos=>
   subst D;clear ag;go_wp2_with fail
   refine (revokeKey_ok s1 x ai wb tag V (H.below ad)).mono ?_;rintro r w4 ⟨e,rfl,U,y⟩;have J:=hid y;clear y;go_wp2_with fail
   refine aq (v:=.int .i64 (e)) (by simp[results,Tryz.results86,go_sem]) rfl ⟨e,rfl,U,J.pre ad⟩
 have aL:(n==11)=false:=by simp[i]
 clear i;by_cases i:n=12
 ·subst i;go_wp2_with ((with_reducible refine gld 43 ?_);refine wp_ld8 rfl _ rfl w.heap.size 0 rfl (cf 8 g) (ax _ _) P ?_)
  refine (entered_ok wb tag V p d g _ (H.below F) x HG).mono ?_;rintro r w4 ⟨e,rfl,U,y⟩;have J:=hid y;clear y;go_wp2_with fail
  refine aq (v:=.int .i64 (e)) (by simp[results,Tryz.results86,go_sem]) rfl ⟨e,rfl,U,J.pre F⟩
 have aN:(n==12)=false:=by simp[i]
 clear i;by_cases i:n=13
 ·subst i;go_wp2_with ((with_reducible refine gld 43 ?_);refine wp_ld8 rfl _ rfl w.heap.size 0 rfl (cf 8 g) (ax _ _) P ?_)
  refine (left_ok wb tag V p d g _ (H.below F) x HG).mono ?_;rintro r w4 ⟨e,rfl,U,y⟩;have J:=hid y;clear y;go_wp2_with fail
  refine aq (v:=.int .i64 (e)) (by simp[results,Tryz.results86,go_sem]) rfl ⟨e,rfl,U,J.pre F⟩
 have aO:(n==13)=false:=by simp[i]
 clear i;by_cases i:n=14
 ·subst i;go_wp2_with ((with_reducible refine gld 43 ?_);refine wp_ld8 rfl _ rfl w.heap.size 0 rfl (cf 8 g) (ax _ _) P ?_)
  refine (equipped_ok wb tag V p t g _ (H.below F) x H6 HG).mono ?_;rintro r w4 ⟨e,rfl,U,y⟩;have J:=hid y;clear y;go_wp2_with fail
  refine aq (v:=.int .i64 (e)) (by simp[results,Tryz.results86,go_sem]) rfl ⟨e,rfl,U,J.pre F⟩
 have aP:(n==14)=false:=by simp[i]
 clear i;by_cases i:n=15
 ·subst i;have A:=hid (eD wb V p d (g 1) 6 2 G (HV.below F) x.s);have Z:=hid (kAt_rng p d (g 1) 6 2);have ET:=hid (fun h=>kAt_rb x.w (n:=d) (a:=g 1) (k:=6) (r:=2) (by decide) h);generalize (kAt p d (g 1) 6 2).2=E at*;generalize (kAt p d (g 1) 6 2).1=K at*;have W:=af P (cf_at 8 g 1 (by decide));go_wp2_with fail
  refine A.mono ?_;rintro r w2 ⟨rfl,l⟩;have Q:=hid (fun o=>aG (T:=fun _=>False) (w:=G) (b:=w2.heap.size) (.inr l.size) (cf 6 K) 0 _ ((dR l).alloc o));have S:=hid (fun z u (hz:6≤z.size)=>World.rangeAt_setCells_same (w2.alloc (.cells z u)) w2.heap.size 0 (cf 6 K) (by rw[ax];exact aM w2 z u _ 6 rfl hz));clear l A W;go_upto_region 73 with ((with_reducible refine gst 78 ?_);refine wp_stK rfl _ _ rfl w2.heap.size 0 rfl (cf 6 K) rfl (ax _ _) (bK _ _) (aM _ _ _ _ _ (by simp) (by decide)) ?_)
  generalize M:World.setCells _ _ _ _=O;have BB:=hid (show Below G.heap.size G O by rw[←M];exact (Q.out _).all);have I:=hid (show O.rangeAt w2.heap.size 0 (cf 6 K) by rw[←M];exact S _ _ (by simp));clear M Q S;have N:=hid (btr F BB);have x1:=af I (cf_at 6 K 1 (by decide));have x4:=af I (cf_at 6 K 4 (by decide));have x5:=af I (cf_at 6 K 5 (by decide));by_cases D:E=0
  case neg=>
   have ae:(E==0)=false:=by simp[D]
   go_wp2_with fail
   refine aq (v:=.int .i64 (E)) (by simp[results,Tryz.results86,go_sem]) rfl ⟨E,rfl,Z.out,bU x H N⟩
  case pos=>
   subst D;obtain⟨⟨f,ab,ac⟩,⟨r0,r1⟩,b0,b1⟩:=ET.out rfl;rw[ab] at x1;have HF:=hid ac;generalize K 4=rr at*;generalize K 5=bb at*;clear ET Z ab ac I;go_wp2_with fail
   refine (started_ok (f:Int) x O wb tag V (H.below N)).mono ?_;rintro r w4 ⟨e,rfl,U,y⟩;have J:=hid y;clear y;go_wp2_with fail
   refine aq (v:=.int .i64 (e)) (by simp[results,Tryz.results86,go_sem]) rfl ⟨e,rfl,U,J.pre N⟩
 have aQ:(n==15)=false:=by simp[i]
 clear i;by_cases i:n=16
 ·subst i;have A:=hid (eD wb V p d (g 1) 6 2 G (HV.below F) x.s);have Z:=hid (kAt_rng p d (g 1) 6 2);have ET:=hid (fun h=>kAt_rb x.w (n:=d) (a:=g 1) (k:=6) (r:=2) (by decide) h);generalize (kAt p d (g 1) 6 2).2=E at*;generalize (kAt p d (g 1) 6 2).1=K at*;have W:=af P (cf_at 8 g 1 (by decide));go_wp2_with fail
  refine A.mono ?_;rintro r w2 ⟨rfl,l⟩;have Q:=hid (fun o=>aG (T:=fun _=>False) (w:=G) (b:=w2.heap.size) (.inr l.size) (cf 6 K) 0 _ ((dR l).alloc o));have S:=hid (fun z u (hz:6≤z.size)=>World.rangeAt_setCells_same (w2.alloc (.cells z u)) w2.heap.size 0 (cf 6 K) (by rw[ax];exact aM w2 z u _ 6 rfl hz));clear l A W;go_upto_region 73 with ((with_reducible refine gst 78 ?_);refine wp_stK rfl _ _ rfl w2.heap.size 0 rfl (cf 6 K) rfl (ax _ _) (bK _ _) (aM _ _ _ _ _ (by simp) (by decide)) ?_)
  generalize M:World.setCells _ _ _ _=O;have BB:=hid (show Below G.heap.size G O by rw[←M];exact (Q.out _).all);have I:=hid (show O.rangeAt w2.heap.size 0 (cf 6 K) by rw[←M];exact S _ _ (by simp));clear M Q S;have N:=hid (btr F BB);have x1:=af I (cf_at 6 K 1 (by decide));have x4:=af I (cf_at 6 K 4 (by decide));have x5:=af I (cf_at 6 K 5 (by decide));by_cases D:E=0
  case neg=>
   have ae:(E==0)=false:=by simp[D]
   go_wp2_with fail
   refine aq (v:=.int .i64 (E)) (by simp[results,Tryz.results86,go_sem]) rfl ⟨E,rfl,Z.out,bU x H N⟩
  case pos=>
   subst D;obtain⟨⟨f,ab,ac⟩,⟨r0,r1⟩,b0,b1⟩:=ET.out rfl;rw[ab] at x1;have HF:=hid ac;generalize K 4=rr at*;generalize K 5=bb at*;clear ET Z ab ac I;go_wp2_with fail
   refine (stop_ok (f:Int) x O wb tag V (H.below N)).mono ?_;rintro r w4 ⟨e,rfl,U,y⟩;have J:=hid y;clear y;go_wp2_with fail
   refine aq (v:=.int .i64 (e)) (by simp[results,Tryz.results86,go_sem]) rfl ⟨e,rfl,U,J.pre N⟩
 have aS:(n==16)=false:=by simp[i]
 clear i;by_cases i:n=17
 ·subst i;have A:=hid (eD wb V p d (g 1) 6 2 G (HV.below F) x.s);have Z:=hid (kAt_rng p d (g 1) 6 2);have ET:=hid (fun h=>kAt_rb x.w (n:=d) (a:=g 1) (k:=6) (r:=2) (by decide) h);generalize (kAt p d (g 1) 6 2).2=E at*;generalize (kAt p d (g 1) 6 2).1=K at*;have W:=af P (cf_at 8 g 1 (by decide));go_wp2_with fail
  refine A.mono ?_;rintro r w2 ⟨rfl,l⟩;have Q:=hid (fun o=>aG (T:=fun _=>False) (w:=G) (b:=w2.heap.size) (.inr l.size) (cf 6 K) 0 _ ((dR l).alloc o));have S:=hid (fun z u (hz:6≤z.size)=>World.rangeAt_setCells_same (w2.alloc (.cells z u)) w2.heap.size 0 (cf 6 K) (by rw[ax];exact aM w2 z u _ 6 rfl hz));clear l A W;go_upto_region 73 with ((with_reducible refine gst 78 ?_);refine wp_stK rfl _ _ rfl w2.heap.size 0 rfl (cf 6 K) rfl (ax _ _) (bK _ _) (aM _ _ _ _ _ (by simp) (by decide)) ?_)
  generalize M:World.setCells _ _ _ _=O;have BB:=hid (show Below G.heap.size G O by rw[←M];exact (Q.out _).all);have I:=hid (show O.rangeAt w2.heap.size 0 (cf 6 K) by rw[←M];exact S _ _ (by simp));clear M Q S;have N:=hid (btr F BB);have t2:=cu BB (af P (cf_at 8 g 2 (by decide)));have x1:=af I (cf_at 6 K 1 (by decide));have x4:=af I (cf_at 6 K 4 (by decide));have x5:=af I (cf_at 6 K 5 (by decide));by_cases D:E=0
  case neg=>
   have ae:(E==0)=false:=by simp[D]
   go_wp2_with fail
   refine aq (v:=.int .i64 (E)) (by simp[results,Tryz.results86,go_sem]) rfl ⟨E,rfl,Z.out,bU x H N⟩
  case pos=>
   subst D;obtain⟨⟨f,ab,ac⟩,⟨r0,r1⟩,b0,b1⟩:=ET.out rfl;rw[ab] at x1;have HF:=hid ac;generalize K 4=rr at*;generalize K 5=bb at*;clear ET Z ab ac I;have aC:=cu BB c3;have tp:=(H.below N).taskAt E3 aw (show 10<20 by omega);generalize p.tasks.getD t bl 10=pr at tp;go_upto_region 79 with fail
   refine bh (by kernel_rfl) (by kernel_rfl) ?_
   repeat (first|go_big_quiet_skip|(go_big_quiet_want;go_big_quiet_op;first|go_big_quiet_on|go_big_quiet_call (fail)))
   refine cG ?_;intro _ aE;obtain⟨nq,aF⟩:=aE;subst aF;have BQ:=hid (bc (aj O.heap.size O) nq);have B4:=hid (btr N BQ);replace t2:=cu BQ t2;replace x1:=cu BQ x1;clear aC tp;generalize O.drewN nq=W4 at*;by_cases hw:pr<g 2
   ·go_wp2_with fail
    refine aq (v:=.int .i64 (4)) (by simp[results,Tryz.results86,go_sem]) rfl ⟨4,rfl,by decide,bU x H B4⟩
   ·go_wp2_with fail
    refine (ranked_ok (f:Int) (g 2) x W4 wb tag V (H.below B4)).mono ?_;rintro r w4 ⟨e,rfl,U,y⟩;have J:=hid y;clear y;go_wp2_with fail
    refine aq (v:=.int .i64 (e)) (by simp[results,Tryz.results86,go_sem]) rfl ⟨e,rfl,U,J.pre B4⟩
 have aT:(n==17)=false:=by simp[i]
 clear i;go_wp2_with fail
 refine aq (v:=.int .i64 (13)) (by simp[results,Tryz.results86,go_sem]) rfl ⟨13,rfl,by decide,bU x H F⟩
end Go.Proofs.YtaejnmmpddbbjaaGreatDoor.Wd
