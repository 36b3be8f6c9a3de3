/- Qbe -/
import Derived.Test.YtaejnmmpddbbjaaGreatDoorQau
import Derived.Test.YtaejnmmpddbbjaaGreatDoorQbd
namespace Go.Proofs.YtaejnmmpddbbjaaGreatDoor.Wd
open Go.RowKit Mem Bw Nums Mmu
theorem nd_len:∀(k:Nat) (l:List Int),l.Nodup→(∀z∈l,∃t:Nat,t<k∧z=t)→l.length≤k
 |0,[],_,_=>au _
 |0,z::l,_,h=>by obtain⟨t,f,_⟩:=h z (by simp);omega
 |k+1,l,hn,h=>by
  have d:=nd_len k (l.erase (k:Int)) (hn.erase _) (fun z c=>by
   obtain⟨t,a,b⟩:=h z (List.mem_of_mem_erase c);refine⟨t,?_,b⟩;have:t≠k:=fun e=>by rw[b,e] at c;exact hn.not_mem_erase c
   omega)
  rw[List.length_erase] at d;split at d<;>omega
theorem Lw.line24 {p:PW} (h:Lw p):(∀l∈p.lines,l.length≤24)∧∀l∈p.ready,l.length≤24:=by
 have x:=h.m.tk;have k24:=x.lf.k2;have g:∀{ls:List (List Int)},(∀a z,z∈ls.getD a []→∃n:Nat,z=n∧p.k n=6)→(∀a,(ls.getD a []).Nodup)→∀l∈ls,l.length≤24:=fun d f l hl=>by
  obtain⟨j,i,rfl⟩:=dy hl;rw[get_li i];refine aD (nd_len p.kinds.length _ (f j) fun z b=>?_) k24;obtain⟨n,e,c⟩:=d j z b;exact⟨n,k_in (by omega),e⟩
 exact⟨g (fun a z b=>by obtain⟨n,e,_,c,_⟩:=x.q.ln a z b;exact⟨n,e,c⟩) x.q.lu,g (fun a z b=>by obtain⟨n,e,_,c,_⟩:=x.q.rd a z b;exact⟨n,e,c⟩) x.q.ru⟩
theorem Lw.fits {p:PW} (h:Lw p):p.Fits:=by
 have l:=h.m.tk.lf;obtain⟨a,b⟩:=h.line24;have k:=l.k2;have c:=l.c2;exact⟨by have:=l.ram;omega,by omega,by have:=l.slots;omega,by have:=l.tasks;omega,by have:=l.lines;omega,fun x d=>by have:=a x d;omega,by have:=l.bits;omega,by omega,by have:=l.ready;omega,fun x d=>by have:=b x d;omega,by have:=l.tlbs;omega,by have:=l.d2;omega⟩
theorem Lw.t100 {p:PW} (h:Lw p):∀l∈p.tlbs,l.length≤100:=fun l hl=>by have:=(h.tl l hl).n;omega
structure Lv (p:PW):Prop where
 w:Lw p
 t:p.time≤1000000
theorem Lv.s {p:PW} (h:Lv p):Snd p:=snd_of (h.w.snd h.t)
structure Sm (p q:PW):Prop where
 w:Lv q
 k:q.kinds.length=p.kinds.length
 t:q.time=p.time
 c:q.tlbs.length=p.tlbs.length
theorem Sm.refl {p:PW} (h:Lv p):Sm p p:=⟨h,rfl,rfl,rfl⟩
theorem Sm.trans {p q r:PW} (h:Sm p q) (g:Sm q r):Sm p r:=⟨g.w,g.k.trans h.k,g.t.trans h.t,g.c.trans h.c⟩
theorem Sm.co {p q:PW} (h:Sm p q) (a:Lv p):q.cores.length=p.cores.length:=by rw[←h.w.w.m.tk.lf.tlbs,h.c,a.w.m.tk.lf.tlbs]
theorem Lv.to {p q:PW} (h:Lv p) (w:Lw q) (k:q.kinds.length=p.kinds.length) (t:q.time=p.time) (c:q.tlbs.length=p.tlbs.length):Sm p q:=⟨⟨w,by rw[t];exact h.t⟩,k,t,c⟩
theorem Lv.rs {p q:PW} (h:Lv p) (w:Lw q) (r:Rs p q):Sm p q:=h.to w (by rw[r.k]) r.t (by rw[r.l])
def Bx (p:PW) (wb:Nat) (tag:Nat→Nat) (W W':World):Prop:=∃(tag':Nat→Nat) (V':Nat→Value) (p':PW),Kt tag tag' W W'∧BoxT W' wb tag' V' p'∧Sm p p'
def Okd (p:PW) (wb:Nat) (tag:Nat→Nat) (W:World) (r:Ending) (W':World):Prop:=∃e:Int,r=.returned (.int .i64 e)∧(0≤e∧e≤13)∧Bx p wb tag W W'
theorem Bx.same {p:PW} {wb:Nat} {tag:Nat→Nat} {V:Nat→Value} {W W':World} (h:Lv p) (bt:BoxT W wb tag V p) (a:Below W.heap.size W W'):Bx p wb tag W W':=⟨tag,V,p,aW a,bt.below a,Sm.refl h⟩
theorem _root_.Go.Proofs.YtaejnmmpddbbjaaGreatDoor.bU:type_of% @Bx.same:= @Bx.same
theorem dr_kl:∀(m:Nat) (p:PW) (s:Nat),(drF m p s).kinds.length=p.kinds.length
 |0,_,_=>rfl
 |m+1,p,s=>by
  have da:∀f a q,(daF (drF m) f a q).kinds.length=q.kinds.length:=fun f a=>by
   induction a with
   |zero=>intro q;rw[da_zero]
   |succ a ih2=>
    intro q;rw[da_succ];split
    ·exact ih2 q
    ·rw[ih2,dr_kl m]
  have nk:∀q f,(nkP q f).kinds.length=q.kinds.length:=fun q f=>ar ..;unfold drF;split
  ·rfl
  ·unfold lsF;split
   ·exact nk _ _
   split
   ·exact nk _ _
   split
   ·rw[da];exact nk _ _
   split
   ·rw[et_kinds];exact nk _ _
   ·show (dsP (nkP (drA p s) _) _).kinds.length=_
    rw[ds_kinds];exact nk _ _
theorem rv_kl {m t:Nat}:∀(n:Nat) (p:PW),(rvN (drF m) t n p).kinds.length=p.kinds.length
 |0,_=>rfl
 |n+1,p=>by
  rw[rvN];split
  ·rfl
  ·rw[rv_kl n,dr_kl]
theorem Lv.drop {p:PW} (h:Lv p) (a:Int):Sm p (dkP p a):=by
 refine h.to (h.w.drop a) ?_ ?_ ?_<;>(unfold dkP;split)
 ·exact dr_kl _ _ _
 ·rfl
 ·exact dr_time _ _ _
 ·rfl
 ·show ((drF _ p _).tlbs.map _).length=_;rw[bN,dr_tlbs]
 ·rfl
theorem rv_time {m t:Nat}:∀(n:Nat) (p:PW),(rvN (drF m) t n p).time=p.time
 |0,_=>rfl
 |n+1,p=>by
  rw[rvN];split
  ·rfl
  ·rw[rv_time n,dr_time]
theorem rv_tlbs {m t:Nat}:∀(n:Nat) (p:PW),(rvN (drF m) t n p).tlbs=p.tlbs
 |0,_=>rfl
 |n+1,p=>by
  rw[rvN];split
  ·rfl
  ·rw[rv_tlbs n,dr_tlbs]
theorem Lv.revoke {p:PW} (h:Lv p) (a:Int):Sm p (rvoP p a):=by
 refine h.to (h.w.revoke a) ?_ ?_ ?_<;>(unfold rvoP;split)
 ·exact rv_kl _ _
 ·rfl
 ·exact rv_time _ _
 ·rfl
 ·show ((rvN _ _ _ p).tlbs.map _).length=_;rw[bN,rv_tlbs]
 ·rfl
theorem has_e {p:PW} (a:Int):0≤hasE p a∧hasE p a≤13:=by unfold hasE;split<;>(try split)<;>decide
theorem op_e {p:PW} (a:Int):0≤opE p a∧opE p a≤13:=by unfold opE;split<;>(try split)<;>(try split)<;>decide
theorem bo_e {p:PW} (a b:Int):0≤boE p a b∧boE p a b≤13:=by unfold boE;split;exact op_e b;exact has_e a
theorem th_e {p:PW} (a k:Int):0≤thE p a k∧thE p a k≤13:=by unfold thE;split<;>(try split)<;>decide
theorem moveKey_ok (a b:Int) {p:PW} (h:Lv p) (W:World) (wb:Nat) (tag:Nat→Nat) (V:Nat→Value) (bt:BoxT W wb tag V p):Calls Tryz.prog 14 #[.pointer (some ⟨wb,0,none⟩),.int .i64 a,.int .i64 b] W (Okd p wb tag W):=by
 refine (moveKey_any_all a b p h.w.fits h.w.t100 h.s W wb tag V bt).mono fun r j g=>?_;obtain⟨rfl,tag',k,f,i⟩:=g;refine⟨_,rfl,bo_e a b,?_⟩;by_cases e:boE p a b=0
 ·obtain⟨c,d⟩:=f e;exact⟨tag',c,_,k,d,h.to (h.w.move e) rfl rfl rfl⟩
 ·obtain rfl:=i e;exact bU h bt (aj _ _)
theorem dropKey_ok (a:Int) {p:PW} (h:Lv p) (W:World) (wb:Nat) (tag:Nat→Nat) (V:Nat→Value) (bt:BoxT W wb tag V p):Calls Tryz.prog 15 #[.pointer (some ⟨wb,0,none⟩),.int .i64 a] W (Okd p wb tag W):=by
 refine (dropKey_any_all a p h.w.fits h.w.t100 h.s W wb tag V bt).mono fun r i g=>?_;obtain⟨rfl,tag',k,d,f⟩:=g;refine⟨_,rfl,has_e a,?_⟩;by_cases e:hasE p a=0
 ·obtain⟨b,c⟩:=d e;exact⟨tag',b,_,k,c,h.drop a⟩
 ·obtain rfl:=f e;exact bU h bt (aj _ _)
theorem revokeKey_ok (a:Int) {p:PW} (h:Lv p) (W:World) (wb:Nat) (tag:Nat→Nat) (V:Nat→Value) (bt:BoxT W wb tag V p):Calls Tryz.prog 17 #[.pointer (some ⟨wb,0,none⟩),.int .i64 a] W (Okd p wb tag W):=by
 refine (revokeKey_any_all a p h.w.fits h.w.t100 h.s W wb tag V bt).mono fun r i g=>?_;obtain⟨rfl,tag',k,d,f⟩:=g;refine⟨_,rfl,has_e a,?_⟩;by_cases e:hasE p a=0
 ·obtain⟨b,c⟩:=d e;exact⟨tag',b,_,k,c,h.revoke a⟩
 ·obtain rfl:=f e;exact bU h bt (aj _ _)
theorem th_task {p:PW} {a:Int} (e:thE p a 6=0):∃t:Nat,a=t∧p.k t=6:=by
 obtain⟨t,b,rfl,hk⟩:=thE_in e;exact⟨t,rfl,by rw[←k_at b];exact hk⟩
theorem started_ok (a:Int) {p:PW} (h:Lv p) (W:World) (wb:Nat) (tag:Nat→Nat) (V:Nat→Value) (bt:BoxT W wb tag V p):Calls Tryz.prog 18 #[.pointer (some ⟨wb,0,none⟩),.int .i64 a] W (Okd p wb tag W):=by
 refine (started_ref_all a p h.w.fits h.w.t100 h.s W wb tag V bt).mono fun r j g=>?_;obtain⟨rfl,tag',k,d,f⟩:=g;refine⟨_,rfl,?_,?_⟩
 ·unfold srE;split
  ·split<;>decide
  ·exact th_e a 6
 by_cases e:srE p a=0
 ·obtain⟨c,b⟩:=d e;unfold srE at e;split at e
  ·rename_i e6;obtain⟨t,rfl,i⟩:=th_task e6;rw[ah] at e;split at e
   ·rename_i e9;unfold srP at b;rw[ah] at b;exact⟨tag',c,_,k,b,h.rs (h.w.start i e9) ((dt p).wn _ _)⟩
   ·cases e
  ·rename_i e6;exact absurd e e6
 ·obtain rfl:=f e;exact bU h bt (aj _ _)
theorem stop_ok (a:Int) {p:PW} (h:Lv p) (W:World) (wb:Nat) (tag:Nat→Nat) (V:Nat→Value) (bt:BoxT W wb tag V p):Calls Tryz.prog 144 #[.pointer (some ⟨wb,0,none⟩),.int .i64 a] W (Okd p wb tag W):=by
 refine (stopR_ref_all a p h.w.fits h.w.t100 h.s W wb tag V bt).mono fun r j g=>?_;obtain⟨rfl,tag',k,d,f⟩:=g;refine⟨_,rfl,th_e a 6,?_⟩;by_cases e:thE p a 6=0
 ·obtain⟨c,b⟩:=d e;obtain⟨t,rfl,i⟩:=th_task e;rw[ah] at b;exact⟨tag',c,_,k,b,h.rs (h.w.stop i) ⟨rfl,rfl,rfl,rfl,rfl,rfl⟩⟩
 ·obtain rfl:=f e;exact bU h bt (aj _ _)
theorem rk_rs (p:PW) (a b:Int):Rs p (rkP p a b):=by
 unfold rkP;split
 ·exact⟨rfl,rfl,rfl,rfl,rfl,rfl⟩
 ·exact (dt p).task _ _ _
theorem ranked_ok (a b:Int) {p:PW} (h:Lv p) (W:World) (wb:Nat) (tag:Nat→Nat) (V:Nat→Value) (bt:BoxT W wb tag V p):Calls Tryz.prog 19 #[.pointer (some ⟨wb,0,none⟩),.int .i64 a,.int .i64 b] W (Okd p wb tag W):=by
 refine (ranked_ref_all a b p h.w.fits h.w.t100 h.s W wb tag V bt).mono fun r l g=>?_;obtain⟨rfl,tag',k,f,i⟩:=g;refine⟨_,rfl,?_,?_⟩
 ·unfold rkE;split
  ·split<;>decide
  ·exact th_e a 6
 by_cases e:rkE p a b=0
 ·obtain⟨c,d⟩:=f e;unfold rkE at e;split at e
  ·rename_i e6;obtain⟨t,rfl,j⟩:=th_task e6;split at e
   ·rename_i eb;exact⟨tag',c,_,k,d,h.rs (h.w.rank j (az eb)) (rk_rs p _ b)⟩
   ·cases e
  ·rename_i e6;exact absurd e e6
 ·obtain rfl:=i e;exact bU h bt (aj _ _)
theorem mk_len (p:PW) (n k m t:Int):(mkP p n k m t).kinds.length=p.kinds.length∧(mkP p n k m t).time=p.time∧(mkP p n k m t).tlbs=p.tlbs:=by
 have g:∀i,(mkI p n k (mkB p n) t.toNat i).time=p.time∧(mkI p n k (mkB p n) t.toNat i).tlbs=p.tlbs:=fun i=>by
  induction i with
  |zero=>exact⟨rfl,rfl⟩
  |succ i ih=>exact ih
 exact⟨(mkI_len p n k (mkB p n) t.toNat m.toNat).1,g m.toNat⟩
theorem makeThings_ok (n k m t:Int) {p:PW} (h:Lv p) (W:World) (wb:Nat) (tag:Nat→Nat) (V:Nat→Value) (bt:BoxT W wb tag V p):Calls Tryz.prog 16 #[.pointer (some ⟨wb,0,none⟩),.int .i64 n,.int .i64 k,.int .i64 m,.int .i64 t] W (Okd p wb tag W):=by
 refine (makeThings_any_all n k m t p h.w.fits h.w.t100 h.s W wb tag V bt).mono fun r l g=>?_;obtain⟨rfl,tag',c,f,i⟩:=g;refine⟨_,rfl,?_,?_⟩
 ·have d:0≤fcE p t.toNat m∧fcE p t.toNat m≤13:=by unfold fcE;split<;>(try split)<;>(try split)<;>decide
  have ce:0≤clE p n∧clE p n≤13:=by
   unfold clE;split
   ·split<;>decide
   ·exact has_e n
  unfold mkE;split
  ·split
   ·split
    ·split
     ·split<;>decide
     ·exact d
    ·decide
   ·exact ce
  ·decide
 by_cases e:mkE p n k m t=0
 ·obtain⟨a,b⟩:=f e;obtain⟨l1,l2,j⟩:=mk_len p n k m t;exact⟨tag',a,_,c,b,h.to (h.w.make e) l1 l2 (by rw[j])⟩
 ·obtain⟨a,b⟩:=i e;exact⟨tag',a,p,c,b,Sm.refl h⟩
theorem bw_bits {a r:Nat} (b:a≤7) (c:r≤7):((Bw.bw 6 a r:Nat):Int)=bits .and .i64 (a:Int) (r:Int):=by
 have:∀x y:Fin 8,((Bw.bw 6 x.val y.val:Nat):Int)=bits .and .i64 (x.val:Int) (y.val:Int):=az (by kernel_rfl);exact this ⟨a,by omega⟩ ⟨r,by omega⟩
theorem copyKey_ok (a b:Int) (r g:Nat) {p:PW} (h:Lv p) (W:World) (wb:Nat) (tag:Nat→Nat) (V:Nat→Value) (bt:BoxT W wb tag V p):Calls Tryz.prog 13 #[.pointer (some ⟨wb,0,none⟩),.int .i64 a,.int .i64 b,.int .i64 r,.int .i64 g] W (Okd p wb tag W):=by
 by_cases f:boE p a b=0
 ·have d:=f;unfold boE at d;have u:hasE p a=0:=by
   split at d
   ·assumption
   ·exact absurd d (by assumption)
  rw[ag u] at d;obtain⟨i,rfl,hi,o⟩:=hasIn u;obtain⟨j,rfl,z,D,E⟩:=opIn d;obtain⟨rk,F⟩:=h.w.m.keys;have q:=kc_in (F.key i o).c o;obtain⟨a4,e4⟩:∃a4:Nat,p.s i 4=a4:=⟨(p.s i 4).toNat,by have:=q.r;omega⟩
  by_cases y:p.s i 0≠1∧r≤7∧g≤65535∧(g=0∨(p.s i 0=7∨p.s i 0=8)∧p.s i 5=0)
  ·obtain⟨c1,c2,B,G⟩:=y;have v:a4≤7:=by have:=q.r;omega
   refine (copyT_ref wb tag V p i j r g a4 (p.s i) W bt h.w.fits h.w.t100 h.s.lf.slots f hi z (s_at hi) c1 c2 B (by omega) e4 v).mono fun x t l=>?_;obtain⟨rfl,A,k⟩:=l;refine⟨0,rfl,by decide,tag,V,_,k,A,h.to ?_ rfl rfl rfl⟩;refine h.w.copy (n:=i) (m:=j) (r:=r) (g:=g) o c1 z D E (by omega) (by omega) (by omega) rfl rfl rfl rfl ?_ ?_ rfl
   ·show ((Bw.bw 6 a4 r:Nat):Int)=_
    rw[bw_bits v c2,e4]
   ·show (if g=0 then p.s i 5 else (g:Int))=_
    split
    ·rename_i e;rw[ag (by omega)]
    ·rename_i e;rw[ae (by omega)]
  ·refine (copyNo_ref wb tag V p i j r g (p.s i) W bt h.w.fits h.w.t100 h.s.lf.slots f hi (s_at hi) (by have:=q.g;omega) y).mono fun x t l=>?_;obtain⟨e,H,rfl,C⟩:=l;exact⟨e,rfl,by omega,bU h bt C⟩
 ·exact (copyBo_ref a b r g p h.w.fits h.w.t100 h.s.lf.slots f W wb tag V bt).mono fun x t ⟨e1,e2⟩=>⟨_,e1,bo_e a b,by rw[e2];exact bU h bt (aj _ _)⟩
end Go.Proofs.YtaejnmmpddbbjaaGreatDoor.Wd
namespace Go.Proofs.YtaejnmmpddbbjaaGreatDoor.Mmu
open Go.RowKit Mem Bw Nums
def sp (s:Int) (e:Ent):Bool:=e.1==s
theorem ofSpace_any (s:Int) (w:World):
  Calls Tryz.prog 147 #[.int .i64 s] w fun e w'=>e=.returned (.func (.func 171) #[] #[.pointer (some ⟨w.heap.size,0,none⟩)])∧w'.cell? ⟨w.heap.size,0,none⟩=some (.int .i64 s)∧Below w.heap.size w w':=by
 have b:∀(a:Fn) (first cap:Array Value) (w:World),(Instr.makeFunc a first cap).run Tryz.prog w=.ok (.func a first cap) w:=fun _ _ _ _=>rfl;go_enter Tryz.func147,Tryz.ntmps147
 go_wp2_with fail
 go_ret
 exact⟨rfl,cJ w #[.int .i64 s] 3 0,bal (aj _ _) _⟩
theorem isSpace (e:Ent) (h:Nat) (s:Int) (w:World) (a:w.cell? ⟨h,0,none⟩=some (.int .i64 s)):
  Calls Tryz.prog 171 #[.agg #[.int .i64 e.1,.int .i64 e.2.1,.int .i64 e.2.2.1,.bool e.2.2.2],.pointer (some ⟨h,0,none⟩)] w fun r w'=>r=.returned (.bool (sp s e))∧Below w.heap.size w w':=by
 obtain⟨x,y,z,u⟩:=e;have b:=((bal (aj w.heap.size w) (.cells #[.int .i64 x,.int .i64 y,.int .i64 z,.bool u] 56)).cell (al _ _ a)).trans a;go_enter Tryz.func171,Tryz.ntmps171
 go_wp2_with fail
 go_ret
 exact⟨rfl,bal (aj _ _) _⟩
set_option maxHeartbeats 2000000
theorem found_any (v:Value) (l:List Ent) (s p:Int) (w:World) (O:TlbIn w v l):
  Calls Tryz.prog 82 #[v,.int .i64 s,.int .i64 p] w fun r w'=>r=.returned (foundV (findR l s p))∧Below w.heap.size w w':=by
 obtain⟨q,b,off,cap,rfl,G,H,hl⟩:=O;have J:=hid G;have K:=hid H;clear G H;have U:(l.length:Int)≤100:=by omega
 have g:=hid (bal (aj w.heap.size w) (.cells #[.int .i64 0,.int .i64 0,.int .i64 0,.bool false] 56));have D:=hid (cJ w #[.int .i64 0,.int .i64 0,.int .i64 0,.bool false] 56);have d:=hid (there_four w);go_enter Tryz.func82,Tryz.ntmps82
 go_wp2_with fail
 generalize World.alloc _ _=W at g D d ⊢
 go_loopw [8] (fun i wr=>∃k:Nat,k≤l.length∧i=.int .i64 k∧Hid (∀j (f:j<l.length),j<k→pg s p l[j]=false)∧W=wr) (fun i _=>l.length - (intOf i).toNat)
 case atStart=>exact⟨0,by omega,rfl,fun j _ h=>by omega,rfl⟩
 case round=>
  obtain⟨k,hk,rfl,B,rfl⟩:=hrel;have E:=D.out;have V:=d.out 0 (by decide);have X:=d.out 1 (by decide);have Y:=d.out 2 (by decide);have Z:=d.out 3 (by decide);by_cases C:k<l.length
  ·have m:(k:Int)<(l.length:Int):=by omega
   have T:¬((k:Int)<0):=by omega
   have M:=J.out (by omega);subst M;obtain⟨c0,c1,c2,F⟩:=(K.below g) k C;have a:=hid (show pg s p l[k]=true→findR l s p=(l[k],true) from fun N=>
    find_yes C ((List.findIdx_eq C).2 ⟨N,fun j f=>B.out j (by omega) f⟩))
   have c:=hid (show pg s p l[k]=false→∀j (f:j<l.length),j<k+1→pg s p l[j]=false from fun L j f S=>by
    by_cases e:j=k
    ·subst e;exact L
    ·exact B j f (by omega))
   generalize l[k]=e at c0 c1 c2 F a c;obtain⟨x,y,z,u⟩:=e;simp only at c0 c1 c2 F;by_cases t:x=s
   ·subst t;have P:(x==x)=true:=by simp
    by_cases A:y=p
    ·subst A;have Q:(y==y)=true:=by simp
     have I:=hid (a.out (by simp[pg]));clear a c;go_wp2_with fail
     have o:=four_set (v0:=.int .i64 x) (v1:=.int .i64 y) (v2:=.int .i64 z) (v3:=.bool u) E;refine aq (v:=foundV ((x,y,z,u),true)) (by simp[foundV,results,Tryz.results82,go_sem,o]) rfl ⟨by rw[I.out],?_⟩;exact bset (bset (bset (bset g (au _) _) (au _) _) (au _) _) (au _) _
    ·have Q:(y==p)=false:=by simpa using A
     have n:=hid (c.out (by simp[pg,A]));clear a c;go_wp2_with fail
     exact⟨⟨k+1,by omega,by go_num,n,by trivial⟩,by simp[intOf];omega⟩
   ·have P:(x==s)=false:=by simpa using t
    have n:=hid (c.out (by simp[pg,t]));clear a c;go_wp2_with fail
    exact⟨⟨k+1,by omega,by go_num,n,by trivial⟩,by simp[intOf];omega⟩
  ·obtain rfl:k=l.length:=by omega
   have R:¬((l.length:Int)<(l.length:Int)):=by omega
   have a:=hid (find_no (l:=l) (s:=s) (p:=p) (by
    intro m;have:=dY (w:=m);rw[B.out _ m m] at this
    cases this))
   go_wp2_with fail
   have o:=four_set (v0:=.int .i64 0) (v1:=.int .i64 0) (v2:=.int .i64 0) (v3:=.bool false) E;refine aq (v:=foundV ((0,0,0,false),false)) (by simp[foundV,results,Tryz.results82,go_sem,o]) rfl ⟨by rw[a.out],?_⟩;exact bset (bset (bset (bset g (au _) _) (au _) _) (au _) _) (au _) _
set_option maxHeartbeats 200000
theorem own_ents {w:World} {B:Nat} {v:Value} {l:List Ent} (h:w.ownsRow B 56 4 v l.length (cellsE l)) (hl:l.length≤100):TlbIn w v l:=by
 rcases h.2 with ⟨rfl,b⟩|⟨g,cap,f,rfl,b,_⟩
 ·rw[List.length_eq_zero_iff.1 b];exact⟨none,0,0,0,rfl,fun e=>by simp at e,fun j a=>by simp at a,by simp⟩
 ·refine⟨some ⟨g,0,none⟩,g,0,cap,rfl,fun _=>rfl,fun j a=>?_,hl⟩;obtain⟨c,e1,e2,d⟩:=cellsE_at l j a;simp only[aC];rw[h.cellAt (j*4) (by omega),h.cellAt (j*4+1) (by omega),h.cellAt (j*4+2) (by omega),h.cellAt (j*4+3) (by omega)];exact⟨c,e1,e2,d⟩
def stays (s p:Int) (e:Ent):Bool:=e.1 !=s||(decide (0≤p)&&e.2.1 !=p)
def dropR (l:List Ent) (s p:Int):List Ent:=l.filter (stays s p)
theorem drop_len (l:List Ent) (s p:Int):(dropR l s p).length≤l.length:=dG _ _
theorem drop_take {l:List Ent} {s p:Int} {k:Nat} (h:k<l.length):dropR (l.take (k+1)) s p=dropR (l.take k) s p++(if stays s p l[k]=true then [l[k]] else []):=by
 unfold dropR;rw[bD h,ew];by_cases a:stays s p l[k]=true
 ·rw[ag a,List.filter_cons_of_pos a];rfl
 ·rw[ae a,List.filter_cons_of_neg a];rfl
set_option maxHeartbeats 4000000
theorem dropped_any (v:Value) (l:List Ent) (s p:Int) (w:World) (S:TlbIn w v l):
  Calls Tryz.prog 132 #[v,.int .i64 s,.int .i64 p] w fun r w'=>∃u,r=.returned u∧w'.ownsRow w.heap.size 56 4 u (dropR l s p).length (cellsE (dropR l s p))∧Below w.heap.size w w':=by
 obtain⟨i0,hi,L,M,N⟩:=info_get infoEnt;obtain⟨q,b,off,cap,rfl,J,K,hl⟩:=S;have P:=hid J;have Q:=hid K;clear J K;have aa:(l.length:Int)≤100:=by omega
 go_enter Tryz.func132,Tryz.ntmps132
 go_wp2_with fail
 go_loopw [7,8] (fun u i wr=>∃(k:Nat) (m:List Ent),k≤l.length∧i=.int .i64 k∧Hid (m=dropR (l.take k) s p)∧Hid (wr.ownsRow w.heap.size 56 4 u m.length (cellsE m))∧Hid (Below w.heap.size w wr)) (fun _ i _=>l.length - (intOf i).toNat)
 case atStart=>exact⟨0,[],by omega,rfl,hid rfl,hid (cT _ _ _ _),hid (aj _ _)⟩
 case round=>
  obtain⟨k,m,hk,rfl,g,c,a⟩:=hrel;have hm:m.length≤100:=by
   rw[g.out];exact aD (drop_len _ _ _) (by rw[bL];omega)
  by_cases I:k<l.length
  ·have ab:(k:Int)<(l.length:Int):=by omega
   have Z:¬((k:Int)<0):=by omega
   have R:=P.out (by omega);subst R;obtain⟨c0,c1,c2,H⟩:=(Q.below a) k I;have o:=hid (drop_take (s:=s) (p:=p) I);generalize l[k]=e at c0 c1 c2 H o;obtain⟨x,y,z,u⟩:=e;simp only at c0 c1 c2 H;have f:=hid (show stays s p (x,y,z,u)=true→m++[(x,y,z,u)]=dropR (l.take (k+1)) s p from fun h=>by rw[o.out,ag h,g.out]);have d:=hid (show stays s p (x,y,z,u)=false→m=dropR (l.take (k+1)) s p from fun h=>by rw[o.out,ae (by rw[h];decide),g.out,dB]);clear o g;have t:=hid (show stays s p (x,y,z,u)=true→True from fun _=>trivial);by_cases F:x=s
   ·subst F;have T:(x !=x)=false:=by simp
    by_cases A:0≤p
    ·have V:p≥0:=A;by_cases G:y=p
     ·subst G;have U:(y !=y)=false:=by simp
      have C:=hid (d.out (by simp[stays]));clear f d t;go_wp2_with fail
      exact⟨⟨k+1,m,by omega,by go_num,C,c,a⟩,by simp[intOf];omega⟩
     ·have U:(y !=p)=true:=by simpa using G
      have D:=hid (f.out (by simp[stays,G,A]));clear f d t;go_wp2_with (at_builtin;refine bf _ rfl _ _ 31 rfl w.heap.size 56 i0 (.agg #[.int .i64 0,.int .i64 0,.int .i64 0,.bool false]) 4 32 Tryz.underlying31 hi L M N rfl (by decide) _ _ _ rfl (c.alloc _) ⟨_,0,none⟩ 1 1 [.int .i64 x,.int .i64 y,.int .i64 z,.bool u] rfl rfl (fourE_new _ _ _ _ _ _) (fourE_cell _ _ _ _) (by unfold maxLen;omega) (by omega) (by have:=a.size;simp;omega) ?_;intro W X n j _;have B:=hid ((bal a _).grown j (by have:=a.size;simp;omega) (fun k hk=>(c.lt k hk).1));have E:=hid n;clear n j)
      refine⟨⟨k+1,m++[(x,y,z,u)],by omega,by go_num,D,hid ?_,B⟩,by simp[intOf];omega⟩;rw[cellsE_snoc,av];exact E
    ·have V:¬(p≥0):=A;have C:=hid (d.out (by simp[stays,A]));clear f d t;go_wp2_with fail
     exact⟨⟨k+1,m,by omega,by go_num,C,c,a⟩,by simp[intOf];omega⟩
   ·have T:(x !=s)=true:=by simpa using F
    have D:=hid (f.out (by simp[stays,F]));clear f d t;go_wp2_with (at_builtin;refine bf _ rfl _ _ 31 rfl w.heap.size 56 i0 (.agg #[.int .i64 0,.int .i64 0,.int .i64 0,.bool false]) 4 32 Tryz.underlying31 hi L M N rfl (by decide) _ _ _ rfl (c.alloc _) ⟨_,0,none⟩ 1 1 [.int .i64 x,.int .i64 y,.int .i64 z,.bool u] rfl rfl (fourE_new _ _ _ _ _ _) (fourE_cell _ _ _ _) (by unfold maxLen;omega) (by omega) (by have:=a.size;simp;omega) ?_;intro W X n j _;have B:=hid ((bal a _).grown j (by have:=a.size;simp;omega) (fun k hk=>(c.lt k hk).1));have E:=hid n;clear n j)
    refine⟨⟨k+1,m++[(x,y,z,u)],by omega,by go_num,D,hid ?_,B⟩,by simp[intOf];omega⟩;rw[cellsE_snoc,av];exact E
  ·obtain rfl:k=l.length:=by omega
   have Y:¬((l.length:Int)<(l.length:Int)):=by omega
   have O:=hid (show m=dropR l s p by rw[g.out,dg]);go_wp2_with fail
   go_ret
   refine⟨_,rfl,?_,a.out⟩;rw[←O.out];exact c
end Go.Proofs.YtaejnmmpddbbjaaGreatDoor.Mmu
