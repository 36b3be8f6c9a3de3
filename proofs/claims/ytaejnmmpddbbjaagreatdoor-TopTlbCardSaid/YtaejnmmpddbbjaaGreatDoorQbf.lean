/- Qbf -/
import Derived.Test.YtaejnmmpddbbjaaGreatDoorQav
import Derived.Test.YtaejnmmpddbbjaaGreatDoorQbe
set_option maxRecDepth 100000
set_option maxHeartbeats 16000000
namespace Go.Proofs.YtaejnmmpddbbjaaGreatDoor
namespace Wd
open Go.RowKit Mem Bw Nums Mmu
theorem xN:∀(k:Nat) (l:List Int),l.Nodup->(∀z∈l,∃t:Nat,t<k∧z=t)->l.length<=k
 |0,[],_,_=>ar _
 |0,z::l,_,h=>by obtain⟨t,f,_⟩:=h z oS;omega
 |k+1,l,hn,h=>by
  have d:=xN k (l.erase (k:Int)) (hn.erase _) (fun z c=>by
   obtain⟨t,a,b⟩:=h z (List.mem_of_mem_erase c);refine⟨t,?_,b⟩;have:t≠k:=fun e=>by rw[b,e] at c;exact hn.not_mem_erase c
   omega)
  rw[List.length_erase] at d;split at d<;>omega
theorem Lw.Ff {p:PW} (h:Lw p):(∀l∈p.lines,l.length<=24)∧∀l∈p.ready,l.length<=24:=by
 have x:=h.m.tk;have k24:=x.lf.k2;have g:∀{ls:List (List Int)},(∀a z,z∈ls.getD a []->∃n:Nat,z=n∧p.k n=6)->(∀a,(ls.getD a []).Nodup)->∀l∈ls,l.length<=24:=fun d f l hl=>by
  obtain⟨j,i,rfl⟩:=dm hl;rw[mm i];refine aB (xN p.kinds.length _ (f j) fun z b=>?_) k24;obtain⟨n,e,c⟩:=d j z b;exact⟨n,hZ oA,e⟩
 exact⟨g (fun a z b=>by obtain⟨n,e,_,c,_⟩:=x.q.ln a z b;exact⟨n,e,c⟩) x.q.lu,g (fun a z b=>by obtain⟨n,e,_,c,_⟩:=x.q.rd a z b;exact⟨n,e,c⟩) x.q.ru⟩
theorem Lw.fits {p:PW} (h:Lw p):p.Fits:=by
 have l:=h.m.tk.lf;obtain⟨a,b⟩:=h.Ff;have k:=l.k2;have c:=l.c2;exact⟨by have:=l.Eb;omega,oA,by have:=l.DZ;omega,by have:=l.DY;omega,by have:=l.lines;omega,fun x d=>by have:=a x d;omega,by have:=l.bits;omega,oA,by have:=l.ready;omega,fun x d=>by have:=b x d;omega,by have:=l.D9;omega,by have:=l.d2;omega⟩
theorem Lw.Es {p:PW} (h:Lw p):∀l∈p.D9,l.length<=100:=fun l hl=>by have:=(h.tl l hl).n;omega
structure Lv (p:PW):Prop where
 w:Lw p
 t:p.time<=1000000
theorem Lv.s {p:PW} (h:Lv p):Snd p:=xW (h.w.snd h.t)
structure Sm (p q:PW):Prop where
 w:Lv q
 k:q.kinds.length=p.kinds.length
 t:q.time=p.time
 c:q.D9.length=p.D9.length
theorem Sm.refl {p:PW} (h:Lv p):Sm p p:=⟨h,rfl,rfl,rfl⟩
theorem Sm.trans {p q r:PW} (h:Sm p q) (g:Sm q r):Sm p r:=⟨g.w,g.k.trans h.k,g.t.trans h.t,g.c.trans h.c⟩
theorem Sm.co {p q:PW} (h:Sm p q) (a:Lv p):q.D6.length=p.D6.length:=by rw[<-h.w.w.m.tk.lf.D9,h.c,a.w.m.tk.lf.D9]
theorem Lv.to {p q:PW} (h:Lv p) (w:Lw q) (k:q.kinds.length=p.kinds.length) (t:q.time=p.time) (c:q.D9.length=p.D9.length):Sm p q:=⟨⟨w,by rw[t];exact h.t⟩,k,t,c⟩
theorem Lv.rs {p q:PW} (h:Lv p) (w:Lw q) (r:Rs p q):Sm p q:=h.to w (by rw[r.k]) r.t (by rw[r.l])
def Bx (p:PW) (wb:Nat) (tag:Nat->Nat) (W W':World):Prop:=∃(tag':Nat->Nat) (V':Nat->Value) (p':PW),Kt tag tag' W W'∧cb W' wb tag' V' p'∧Sm p p'
def Okd (p:PW) (wb:Nat) (tag:Nat->Nat) (W:World) (r:Ending) (W':World):Prop:=∃e:Int,r=.returned (.int .i64 e)∧(0<=e∧e<=13)∧Bx p wb tag W W'
theorem Bx.same {p:PW} {wb:Nat} {tag:Nat->Nat} {V:Nat->Value} {W W':World} (h:Lv p) (bt:cb W wb tag V p) (a:Below W.heap.size W W'):Bx p wb tag W W':=⟨tag,V,p,bf a,bt.below a,Sm.refl h⟩
theorem _root_.Go.Proofs.YtaejnmmpddbbjaaGreatDoor.cK:type_of% @Bx.same:= @Bx.same
theorem yA:∀(m:Nat) (p:PW) (s:Nat),(drF m p s).kinds.length=p.kinds.length
 |0,_,_=>rfl
 |m+1,p,s=>by
  have da:∀f a q,(daF (drF m) f a q).kinds.length=q.kinds.length:=fun f a=>by
   induction a with
   |zero=>intro q;rw[gI]
   |succ a ih2=>
    intro q;rw[gH];split
    ·exact ih2 q
    ·rw[ih2,yA m]
  have nk:∀q f,(nkP q f).kinds.length=q.kinds.length:=fun q f=>au ..;unfold drF;split
  ·rfl
  ·unfold lsF;split
   ·exact nk _ _
   split
   ·exact nk _ _
   split
   ·rw[da];exact nk _ _
   split
   ·rw[jt];exact nk _ _
   ·show (dsP (nkP (drA p s) _) _).kinds.length=_
    rw[ie];exact nk _ _
theorem BO {m t:Nat}:∀(n:Nat) (p:PW),(rvN (drF m) t n p).kinds.length=p.kinds.length
 |0,_=>rfl
 |n+1,p=>by
  rw[rvN];split
  ·rfl
  ·rw[BO n,yA]
theorem Lv.drop {p:PW} (h:Lv p) (a:Int):Sm p (dkP p a):=by
 refine h.to (h.w.drop a) ?_ ?_ ?_<;>(unfold dkP;split)
 ·exact yA _ _ _
 ·rfl
 ·exact kV _ _ _
 ·rfl
 ·show ((drF _ p _).D9.map _).length=_;rw[bL,jT]
 ·rfl
theorem uV {m t:Nat}:∀(n:Nat) (p:PW),(rvN (drF m) t n p).time=p.time
 |0,_=>rfl
 |n+1,p=>by
  rw[rvN];split
  ·rfl
  ·rw[uV n,kV]
theorem uW {m t:Nat}:∀(n:Nat) (p:PW),(rvN (drF m) t n p).D9=p.D9
 |0,_=>rfl
 |n+1,p=>by
  rw[rvN];split
  ·rfl
  ·rw[uW n,jT]
theorem Lv.Fg {p:PW} (h:Lv p) (a:Int):Sm p (xT p a):=by
 refine h.to (h.w.Fg a) ?_ ?_ ?_<;>(unfold xT;split)
 ·exact BO _ _
 ·rfl
 ·exact uV _ _
 ·rfl
 ·show ((rvN _ _ _ p).D9.map _).length=_;rw[bL,uW]
 ·rfl
theorem vX {p:PW} (a:Int):0<=fS p a∧fS p a<=13:=by unfold fS;split<;>(try split)<;>decide
theorem DW {p:PW} (a:Int):0<=opE p a∧opE p a<=13:=by unfold opE;split<;>(try split)<;>(try split)<;>decide
theorem DD {p:PW} (a b:Int):0<=boE p a b∧boE p a b<=13:=by unfold boE;split;exact DW b;exact vX a
theorem Dz {p:PW} (a k:Int):0<=thE p a k∧thE p a k<=13:=by unfold thE;split<;>(try split)<;>decide
theorem mG (a b:Int) {p:PW} (h:Lv p) (W:World) (wb:Nat) (tag:Nat->Nat) (V:Nat->Value) (bt:cb W wb tag V p):Calls Tryz.prog 14 #[.pointer (some ⟨wb,0,none⟩),.int .i64 a,.int .i64 b] W (Okd p wb tag W):=by
 refine (lz a b p h.w.fits h.w.Es h.s W wb tag V bt).mono fun r j g=>?_;obtain⟨rfl,tag',k,f,i⟩:=g;refine⟨_,rfl,DD a b,?_⟩;by_cases e:boE p a b=0
 ·obtain⟨c,d⟩:=f e;exact⟨tag',c,_,k,d,h.to (h.w.move e) rfl rfl rfl⟩
 ·obtain rfl:=i e;exact cK h bt (ai _ _)
theorem mi (a:Int) {p:PW} (h:Lv p) (W:World) (wb:Nat) (tag:Nat->Nat) (V:Nat->Value) (bt:cb W wb tag V p):Calls Tryz.prog 15 #[.pointer (some ⟨wb,0,none⟩),.int .i64 a] W (Okd p wb tag W):=by
 refine (kW a p h.w.fits h.w.Es h.s W wb tag V bt).mono fun r i g=>?_;obtain⟨rfl,tag',k,d,f⟩:=g;refine⟨_,rfl,vX a,?_⟩;by_cases e:fS p a=0
 ·obtain⟨b,c⟩:=d e;exact⟨tag',b,_,k,c,h.drop a⟩
 ·obtain rfl:=f e;exact cK h bt (ai _ _)
theorem kA (a:Int) {p:PW} (h:Lv p) (W:World) (wb:Nat) (tag:Nat->Nat) (V:Nat->Value) (bt:cb W wb tag V p):Calls Tryz.prog 17 #[.pointer (some ⟨wb,0,none⟩),.int .i64 a] W (Okd p wb tag W):=by
 refine (ka a p h.w.fits h.w.Es h.s W wb tag V bt).mono fun r i g=>?_;obtain⟨rfl,tag',k,d,f⟩:=g;refine⟨_,rfl,vX a,?_⟩;by_cases e:fS p a=0
 ·obtain⟨b,c⟩:=d e;exact⟨tag',b,_,k,c,h.Fg a⟩
 ·obtain rfl:=f e;exact cK h bt (ai _ _)
theorem qh {p:PW} {a:Int} (e:thE p a 6=0):∃t:Nat,a=t∧p.k t=6:=by
 obtain⟨t,b,rfl,hk⟩:=rT e;exact⟨t,rfl,by rw[<-vo b];exact hk⟩
theorem fX (a:Int) {p:PW} (h:Lv p) (W:World) (wb:Nat) (tag:Nat->Nat) (V:Nat->Value) (bt:cb W wb tag V p):Calls Tryz.prog 18 #[.pointer (some ⟨wb,0,none⟩),.int .i64 a] W (Okd p wb tag W):=by
 refine (lM a p h.w.fits h.w.Es h.s W wb tag V bt).mono fun r j g=>?_;obtain⟨rfl,tag',k,d,f⟩:=g;refine⟨_,rfl,?_,?_⟩
 ·unfold srE;split
  ·split<;>decide
  ·exact Dz a 6
 by_cases e:srE p a=0
 ·obtain⟨c,b⟩:=d e;unfold srE at e;split at e
  ·rename_i e6;obtain⟨t,rfl,i⟩:=qh e6;rw[ag] at e;split at e
   ·rename_i e9;unfold srP at b;rw[ag] at b;exact⟨tag',c,_,k,b,h.rs (h.w.start i e9) ((db p).wn _ _)⟩
   ·cases e
  ·rename_i e6;exact absurd e e6
 ·obtain rfl:=f e;exact cK h bt (ai _ _)
theorem zJ (a:Int) {p:PW} (h:Lv p) (W:World) (wb:Nat) (tag:Nat->Nat) (V:Nat->Value) (bt:cb W wb tag V p):Calls Tryz.prog 144 #[.pointer (some ⟨wb,0,none⟩),.int .i64 a] W (Okd p wb tag W):=by
 refine (nK a p h.w.fits h.w.Es h.s W wb tag V bt).mono fun r j g=>?_;obtain⟨rfl,tag',k,d,f⟩:=g;refine⟨_,rfl,Dz a 6,?_⟩;by_cases e:thE p a 6=0
 ·obtain⟨c,b⟩:=d e;obtain⟨t,rfl,i⟩:=qh e;rw[ag] at b;exact⟨tag',c,_,k,b,h.rs (h.w.stop i) ⟨rfl,rfl,rfl,rfl,rfl,rfl⟩⟩
 ·obtain rfl:=f e;exact cK h bt (ai _ _)
theorem Ds (p:PW) (a b:Int):Rs p (rkP p a b):=by
 unfold rkP;split
 ·exact⟨rfl,rfl,rfl,rfl,rfl,rfl⟩
 ·exact (db p).task _ _ _
theorem oU (a b:Int) {p:PW} (h:Lv p) (W:World) (wb:Nat) (tag:Nat->Nat) (V:Nat->Value) (bt:cb W wb tag V p):Calls Tryz.prog 19 #[.pointer (some ⟨wb,0,none⟩),.int .i64 a,.int .i64 b] W (Okd p wb tag W):=by
 refine (l9 a b p h.w.fits h.w.Es h.s W wb tag V bt).mono fun r l g=>?_;obtain⟨rfl,tag',k,f,i⟩:=g;refine⟨_,rfl,?_,?_⟩
 ·unfold rkE;split
  ·split<;>decide
  ·exact Dz a 6
 by_cases e:rkE p a b=0
 ·obtain⟨c,d⟩:=f e;unfold rkE at e;split at e
  ·rename_i e6;obtain⟨t,rfl,j⟩:=qh e6;split at e
   ·rename_i eb;exact⟨tag',c,_,k,d,h.rs (h.w.FH j (ay eb)) (Ds p _ b)⟩
   ·cases e
  ·rename_i e6;exact absurd e e6
 ·obtain rfl:=i e;exact cK h bt (ai _ _)
theorem Bj (p:PW) (n k m t:Int):(mkP p n k m t).kinds.length=p.kinds.length∧(mkP p n k m t).time=p.time∧(mkP p n k m t).D9=p.D9:=by
 have g:∀i,(mkI p n k (mkB p n) t.toNat i).time=p.time∧(mkI p n k (mkB p n) t.toNat i).D9=p.D9:=fun i=>by
  induction i with
  |zero=>exact⟨rfl,rfl⟩
  |succ i ih=>exact ih
 exact⟨(ly p n k (mkB p n) t.toNat m.toNat).1,g m.toNat⟩
theorem jx (n k m t:Int) {p:PW} (h:Lv p) (W:World) (wb:Nat) (tag:Nat->Nat) (V:Nat->Value) (bt:cb W wb tag V p):Calls Tryz.prog 16 #[.pointer (some ⟨wb,0,none⟩),.int .i64 n,.int .i64 k,.int .i64 m,.int .i64 t] W (Okd p wb tag W):=by
 refine (gU n k m t p h.w.fits h.w.Es h.s W wb tag V bt).mono fun r l g=>?_;obtain⟨rfl,tag',c,f,i⟩:=g;refine⟨_,rfl,?_,?_⟩
 ·have d:0<=fcE p t.toNat m∧fcE p t.toNat m<=13:=by unfold fcE;split<;>(try split)<;>(try split)<;>decide
  have ce:0<=clE p n∧clE p n<=13:=by
   unfold clE;split
   ·split<;>decide
   ·exact vX n
  unfold mkE;split
  ·split
   ·split
    ·split
     ·split<;>decide
     ·exact d
    ·decide
   ·exact ce
  ·decide
 by_cases e:mkE p n k m t=0
 ·obtain⟨a,b⟩:=f e;obtain⟨l1,l2,j⟩:=Bj p n k m t;exact⟨tag',a,_,c,b,h.to (h.w.make e) l1 l2 (by rw[j])⟩
 ·obtain⟨a,b⟩:=i e;exact⟨tag',a,p,c,b,Sm.refl h⟩
theorem yq {a r:Nat} (b:a<=7) (c:r<=7):((Bw.bw 6 a r:Nat):Int)=bits .and .i64 (a:Int) (r:Int):=by
 have:∀x y:Fin 8,((Bw.bw 6 x.val y.val:Nat):Int)=bits .and .i64 (x.val:Int) (y.val:Int):=ay oK;exact this ⟨a,oA⟩ ⟨r,oA⟩
theorem mg (a b:Int) (r g:Nat) {p:PW} (h:Lv p) (W:World) (wb:Nat) (tag:Nat->Nat) (V:Nat->Value) (bt:cb W wb tag V p):Calls Tryz.prog 13 #[.pointer (some ⟨wb,0,none⟩),.int .i64 a,.int .i64 b,.int .i64 r,.int .i64 g] W (Okd p wb tag W):=by
 by_cases f:boE p a b=0
 ·have d:=f;unfold boE at d;have u:fS p a=0:=by
   split at d
   ·assumption
   ·exact absurd d (by assumption)
  rw[af u] at d;obtain⟨i,rfl,hi,o⟩:=vW u;obtain⟨j,rfl,z,D,E⟩:=DJ d;obtain⟨rk,F⟩:=h.w.m.keys;have q:=ll (F.key i o).c o;obtain⟨a4,e4⟩:∃a4:Nat,p.s i 4=a4:=⟨(p.s i 4).toNat,by have:=q.r;omega⟩
  by_cases y:p.s i 0≠1∧r<=7∧g<=65535∧(g=0∨(p.s i 0=7∨p.s i 0=8)∧p.s i 5=0)
  ·obtain⟨c1,c2,B,G⟩:=y;have v:a4<=7:=by have:=q.r;omega
   refine (n9 wb tag V p i j r g a4 (p.s i) W bt h.w.fits h.w.Es h.s.lf.DZ f hi z (sE hi) c1 c2 B oA e4 v).mono fun x t l=>?_;obtain⟨rfl,A,k⟩:=l;refine⟨0,rfl,oD,tag,V,_,k,A,h.to ?_ rfl rfl rfl⟩;refine h.w.copy (n:=i) (m:=j) (r:=r) (g:=g) o c1 z D E oA oA oA rfl rfl rfl rfl ?_ ?_ rfl
   ·show ((Bw.bw 6 a4 r:Nat):Int)=_
    rw[yq v c2,e4]
   ·show (if g=0 then p.s i 5 else (g:Int))=_
    split
    ·rename_i e;rw[af oA]
    ·rename_i e;rw[ae oA]
  ·refine (sh wb tag V p i j r g (p.s i) W bt h.w.fits h.w.Es h.s.lf.DZ f hi (sE hi) (by have:=q.g;omega) y).mono fun x t l=>?_;obtain⟨e,H,rfl,C⟩:=l;exact⟨e,rfl,oA,cK h bt C⟩
 ·exact (sg a b r g p h.w.fits h.w.Es h.s.lf.DZ f W wb tag V bt).mono fun x t ⟨e1,e2⟩=>⟨_,e1,DD a b,by rw[e2];exact cK h bt (ai _ _)⟩
end Wd
namespace Mmu
open Go.RowKit Mem Bw Nums
def sp (s:Int) (e:Ent):Bool:=e.1==s
theorem p7 (s:Int) (w:World):
  Calls Tryz.prog 147 #[.int .i64 s] w fun e w'=>e=.returned (.func (.func 171) #[] #[.pointer (some ⟨w.heap.size,0,none⟩)])∧w'.cell? ⟨w.heap.size,0,none⟩=some (.int .i64 s)∧Below w.heap.size w w':=by
 have b:∀(a:Fn) (first cap:Array Value) (w:World),(Instr.makeFunc a first cap).run Tryz.prog w=.ok (.func a first cap) w:=fun _ _ _ _=>rfl;go_enter Tryz.func147,Tryz.ntmps147
 go_wp2_with fail
 go_ret
 exact⟨rfl,cD w #[.int .i64 s] 3 0,bal (ai _ _) _⟩
theorem tZ (e:Ent) (h:Nat) (s:Int) (w:World) (a:w.cell? ⟨h,0,none⟩=some (.int .i64 s)):
  Calls Tryz.prog 171 #[.agg #[.int .i64 e.1,.int .i64 e.2.1,.int .i64 e.2.2.1,.bool e.2.2.2],.pointer (some ⟨h,0,none⟩)] w fun r w'=>r=.returned (.bool (sp s e))∧Below w.heap.size w w':=by
 obtain⟨x,y,z,u⟩:=e;have b:=((bal (ai w.heap.size w) (.cells #[.int .i64 x,.int .i64 y,.int .i64 z,.bool u] 56)).cell (aj _ _ a)).trans a;go_enter Tryz.func171,Tryz.ntmps171
 go_wp2_with fail
 go_ret
 exact⟨rfl,bal (ai _ _) _⟩
theorem tJ (v:Value) (l:List Ent) (s p:Int) (w:World) (N:gB w v l):
  Calls Tryz.prog 82 #[v,.int .i64 s,.int .i64 p] w fun r w'=>r=.returned (iA (hD l s p))∧Below w.heap.size w w':=by
 obtain⟨q,b,off,cap,rfl,K,O,hl⟩:=N;have H:=hid K;have I:=hid O;have U:(l.length:Int)<=100:=oA;have d:=hid (bal (ai w.heap.size w) (.cells #[.int .i64 0,.int .i64 0,.int .i64 0,.bool false] 56));have D:=hid (cD w #[.int .i64 0,.int .i64 0,.int .i64 0,.bool false] 56);have a:=hid (kg w);go_enter Tryz.func82,Tryz.ntmps82
 go_wp2_with fail
 generalize World.alloc _ _=W at d D a ⊢
 go_loopw [8] (fun i wr=>∃k:Nat,k<=l.length∧i=.int .i64 k∧Hid (∀j (c:j<l.length),j<k->pg s p l[j]=false)∧W=wr) (fun i _=>l.length - (intOf i).toNat)
 case atStart=>exact⟨0,oA,rfl,fun j _ h=>oA,rfl⟩
 case round=>
  obtain⟨k,hk,rfl,B,rfl⟩:=hrel;have E:=D.out;have V:=a.out 0 oD;have X:=a.out 1 oD;have Y:=a.out 2 oD;have Z:=a.out 3 oD;by_cases C:k<l.length
  ·have g:(k:Int)<(l.length:Int):=oA;have T:¬((k:Int)<0):=oA;have L:=H.out oA;subst L;obtain⟨c0,c1,c2,F⟩:=(I.below d) k C;have f:=hid (show pg s p l[k]=true->hD l s p=(l[k],true) from fun M=>
    qG C ((List.findIdx_eq C).2 ⟨M,fun j c=>B.out j oA c⟩))
   have n:=hid (show pg s p l[k]=false->∀j (c:j<l.length),j<k+1->pg s p l[j]=false from fun J j c S=>by
    by_cases e:j=k
    ·subst e;exact J
    ·exact B j c oA)
   generalize l[k]=e at c0 c1 c2 F f n;obtain⟨x,y,z,u⟩:=e;simp only at c0 c1 c2 F;by_cases t:x=s
   ·subst t;have P:(x==x)=true:=oS;by_cases A:y=p
    ·subst A;have Q:(y==y)=true:=oS;have G:=hid (f.out (by simp[pg]));go_wp2_with fail
     have o:=gE (v0:=.int .i64 x) (v1:=.int .i64 y) (v2:=.int .i64 z) (v3:=.bool u) E;refine aq (v:=iA ((x,y,z,u),true)) (by simp[iA,results,Tryz.results82,go_sem,o]) rfl ⟨by rw[G.out],?_⟩;exact gz (gz (gz (gz d (ar _) _) (ar _) _) (ar _) _) (ar _) _
    ·have Q:(y==p)=false:=by simpa using A
     have m:=hid (n.out (by simp[pg,A]));go_wp2_with fail
     exact⟨⟨k+1,oA,by go_num,m,by trivial⟩,by simp[intOf];omega⟩
   ·have P:(x==s)=false:=by simpa using t
    have m:=hid (n.out (by simp[pg,t]));go_wp2_with fail
    exact⟨⟨k+1,oA,by go_num,m,by trivial⟩,by simp[intOf];omega⟩
  ·obtain rfl:k=l.length:=oA;have R:¬((l.length:Int)<(l.length:Int)):=oA;have f:=hid (pM (l:=l) (s:=s) (p:=p) (by
    intro g;have:=dS (w:=g);rw[B.out _ g g] at this
    cases this))
   go_wp2_with fail
   have o:=gE (v0:=.int .i64 0) (v1:=.int .i64 0) (v2:=.int .i64 0) (v3:=.bool false) E;refine aq (v:=iA ((0,0,0,false),false)) (by simp[iA,results,Tryz.results82,go_sem,o]) rfl ⟨by rw[f.out],?_⟩;exact gz (gz (gz (gz d (ar _) _) (ar _) _) (ar _) _) (ar _) _
theorem rB {w:World} {B:Nat} {v:Value} {l:List Ent} (h:w.ownsRow B 56 4 v l.length (dE l)) (hl:l.length<=100):gB w v l:=by
 rcases h.2 with ⟨rfl,b⟩|⟨g,cap,f,rfl,b,_⟩
 ·rw[List.length_eq_zero_iff.1 b];exact⟨none,0,0,0,rfl,fun e=>by simp at e,fun j a=>by simp at a,oS⟩
 ·refine⟨some ⟨g,0,none⟩,g,0,cap,rfl,fun _=>rfl,fun j a=>?_,hl⟩;obtain⟨c,e1,e2,d⟩:=fL l j a;simp only[az];rw[h.cellAt (j*4) oA,h.cellAt (j*4+1) oA,h.cellAt (j*4+2) oA,h.cellAt (j*4+3) oA];exact⟨c,e1,e2,d⟩
def jH (s p:Int) (e:Ent):Bool:=e.1 !=s||(decide (0<=p)&&e.2.1 !=p)
def fH (l:List Ent) (s p:Int):List Ent:=l.filter (jH s p)
theorem kJ (l:List Ent) (s p:Int):(fH l s p).length<=l.length:=dz _ _
theorem tu {l:List Ent} {s p:Int} {k:Nat} (h:k<l.length):fH (l.take (k+1)) s p=fH (l.take k) s p++(if jH s p l[k]=true then [l[k]] else []):=by
 unfold fH;rw[bu h,eg];by_cases a:jH s p l[k]=true
 ·rw[af a,List.filter_cons_of_pos a];rfl
 ·rw[ae a,List.filter_cons_of_neg a];rfl
theorem ib (v:Value) (l:List Ent) (s p:Int) (w:World) (Q:gB w v l):
  Calls Tryz.prog 132 #[v,.int .i64 s,.int .i64 p] w fun r w'=>∃u,r=.returned u∧w'.ownsRow w.heap.size 56 4 u (fH l s p).length (dE (fH l s p))∧Below w.heap.size w w':=by
 obtain⟨i0,hi,I,J,K⟩:=eH jX;obtain⟨q,b,off,cap,rfl,O,R,hl⟩:=Q;have M:=hid O;have N:=hid R;have aa:(l.length:Int)<=100:=oA;go_enter Tryz.func132,Tryz.ntmps132
 go_wp2_with fail
 go_loopw [7,8] (fun u i wr=>∃(k:Nat) (m:List Ent),k<=l.length∧i=.int .i64 k∧Hid (m=fH (l.take k) s p)∧Hid (wr.ownsRow w.heap.size 56 4 u m.length (dE m))∧Hid (Below w.heap.size w wr)) (fun _ i _=>l.length - (intOf i).toNat)
 case atStart=>exact⟨0,[],oA,rfl,hid rfl,hid (cO _ _ _ _),hid (ai _ _)⟩
 case round=>
  obtain⟨k,m,hk,rfl,g,c,a⟩:=hrel;have hm:m.length<=100:=by
   rw[g.out];exact aB (kJ _ _ _) (by rw[bI];omega)
  by_cases H:k<l.length
  ·have ab:(k:Int)<(l.length:Int):=oA;have Z:¬((k:Int)<0):=oA;have P:=M.out oA;subst P;obtain⟨c0,c1,c2,G⟩:=(N.below a) k H;have t:=hid (tu (s:=s) (p:=p) H);generalize l[k]=e at c0 c1 c2 G t;obtain⟨x,y,z,u⟩:=e;simp only at c0 c1 c2 G;have F:=hid (show jH s p (x,y,z,u)=true->m++[(x,y,z,u)]=fH (l.take (k+1)) s p from fun h=>by rw[t.out,af h,g.out]);have E:=hid (show jH s p (x,y,z,u)=false->m=fH (l.take (k+1)) s p from fun h=>by rw[t.out,ae (by rw[h];decide),g.out,du]);have X:=hid (show jH s p (x,y,z,u)=true->True from fun _=>trivial);by_cases C:x=s
   ·subst C;have S:(x !=x)=false:=oS;by_cases j:0<=p
    ·have U:=j;by_cases D:y=p
     ·subst D;have T:(y !=y)=false:=oS;have o:=hid (E.out (by simp[jH]));go_wp2_with fail
      exact⟨⟨k+1,m,oA,by go_num,o,c,a⟩,by simp[intOf];omega⟩
     ·have T:(y !=p)=true:=by simpa using D
      have A:=hid (F.out (by simp[jH,D,j]));go_wp2_with (at_builtin;refine aW _ rfl _ _ 31 rfl w.heap.size 56 i0 (.agg #[.int .i64 0,.int .i64 0,.int .i64 0,.bool false]) 4 32 Tryz.underlying31 hi I J K rfl oD _ _ _ rfl (c.alloc _) ⟨_,0,none⟩ 1 1 [.int .i64 x,.int .i64 y,.int .i64 z,.bool u] rfl rfl (gj _ _ _ _ _ _) (eJ _ _ _ _) (by unfold maxLen;omega) oA (by have:=a.size;simp;omega) ?_;intro V W f d _;have n:=hid ((bal a _).grown d (by have:=a.size;simp;omega) (fun k hk=>(c.lt k hk).1));have B:=hid f;clear f d)
      refine⟨⟨k+1,m++[(x,y,z,u)],oA,by go_num,A,hid ?_,n⟩,by simp[intOf];omega⟩;rw[fG,av];exact B
    ·have U:=j;have o:=hid (E.out (by simp[jH,j]));go_wp2_with fail
     exact⟨⟨k+1,m,oA,by go_num,o,c,a⟩,by simp[intOf];omega⟩
   ·have S:(x !=s)=true:=by simpa using C
    have A:=hid (F.out (by simp[jH,C]));go_wp2_with (at_builtin;refine aW _ rfl _ _ 31 rfl w.heap.size 56 i0 (.agg #[.int .i64 0,.int .i64 0,.int .i64 0,.bool false]) 4 32 Tryz.underlying31 hi I J K rfl oD _ _ _ rfl (c.alloc _) ⟨_,0,none⟩ 1 1 [.int .i64 x,.int .i64 y,.int .i64 z,.bool u] rfl rfl (gj _ _ _ _ _ _) (eJ _ _ _ _) (by unfold maxLen;omega) oA (by have:=a.size;simp;omega) ?_;intro V W f d _;have n:=hid ((bal a _).grown d (by have:=a.size;simp;omega) (fun k hk=>(c.lt k hk).1));have B:=hid f;clear f d)
    refine⟨⟨k+1,m++[(x,y,z,u)],oA,by go_num,A,hid ?_,n⟩,by simp[intOf];omega⟩;rw[fG,av];exact B
  ·obtain rfl:k=l.length:=oA;have Y:¬((l.length:Int)<(l.length:Int)):=oA;have L:=hid (show m=fH l s p by rw[g.out,cY]);go_wp2_with fail
   go_ret
   refine⟨_,rfl,?_,a.out⟩;rw[<-L.out];exact c
