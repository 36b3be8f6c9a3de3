/- Qbd -/
import Derived.Test.YtaejnmmpddbbjaaGreatDoorQbc
namespace Go.Proofs.YtaejnmmpddbbjaaGreatDoor.Wd
open Go.RowKit Mem Bw Nums Mmu
def neW (W:World) (g n:Nat):Nat:=(List.range n).countP fun i=>match W.cell? ⟨g,i*7,none⟩ with|some (.int _ x)=>x !=0|_=>false
theorem neW_eq {W:World} {wb:Nat} {tag:Nat→Nat} {V:Nat→Value} {q:PW} {g cap n:Nat} (bt:BoxT W wb tag V q) (e:V 2=.slice (some ⟨g,0,none⟩) n cap) (a:q.slots.length=n):neW W g n=neS q.slots:=by
 subst a;unfold neW neS;refine List.countP_congr fun i hi=>?_;rw[bt.slotKind e (List.mem_range.1 hi)]
theorem rv_nextR {r:Nat→Nat} {m t n j:Nat} {q P:PW} (d:nds q<m+1) (e:Inv q) (f:TL q) (b:Up r q.slots) (g:luF q.slots t q.slots.length=j) (l:neS q.slots≤n) (h:rvN (drR (m+1)) t n q=P):
  (nds (drR (m+1) q j)<m+1∧Inv (drR (m+1) q j)∧TL (drR (m+1) q j)∧Up r (drR (m+1) q j).slots∧(drR (m+1) q j).slots.length=q.slots.length∧∃k,neS (drR (m+1) q j).slots≤k∧rvN (drR (m+1)) t k (drR (m+1) q j)=P)∧neS (drR (m+1) q j).slots<neS q.slots:=by
 obtain⟨hl,c⟩:=lu_in b g;have i:=rr_slots d e f hl c;obtain⟨i1,i2, -⟩:=(rr_inv (m+1)).1 q j d e hl c;have a:=ne_lt (dr_up (m+1) q j b).2 (dr_gone b) c;rw[i];refine⟨⟨by omega,i1,(rr_inv (m+1)).2 q j d e hl c f,(dr_up (m+1) q j b).1,(dr_up (m+1) q j b).2.1,?_⟩,a⟩
 cases n with
 |zero=>omega
 |succ n=>exact⟨n,by omega,by rw[←h,rv_go g]⟩
set_option maxRecDepth 100000
set_option maxHeartbeats 4000000
theorem revokeKey_any_all (a:Int) (p:PW) (w:p.Fits) (hl:∀l∈p.tlbs,l.length≤100) (s:Snd p) (W:World) (wb:Nat) (tag:Nat→Nat) (V:Nat→Value) (bt:BoxT W wb tag V p):
  Calls Tryz.prog 17 #[.pointer (some ⟨wb,0,none⟩),.int .i64 a] W fun x M=>x=.returned (.int .i64 (hasE p a))∧∃tag',Kt tag tag' W M∧(hasE p a=0→∃V',BoxT M wb tag' V' (rvoP p a))∧(hasE p a≠0→M=W):=by
 have z:=hid (has_ref wb V p a W (bt.view w hl));by_cases c:hasE p a=0
 rotate_left
 ·have d:=hid c;have ad:(hasE p a !=0)=true:=by simpa using c
  generalize hasE p a=x at z d ad ⊢;clear c s hl w bt;go_enter Tryz.func17,Tryz.ntmps17
  go_wp2_with fail
  refine z.mono ?_;rintro q w1 ⟨rfl,rfl⟩;go_wp2_with fail
  go_ret
  exact⟨rfl,tag,Kt.refl _ _,fun h=>(absurd h d),fun _=>rfl⟩
 obtain⟨t,rfl,ht,n⟩:=has_inD c;obtain⟨r,I⟩:=snd_up s;obtain⟨q2,g,cap,e2,B⟩:=bt.o.slots.shape;have O:=B (by omega);subst O;have T:=hid e2;have Y:=hid (show rvoP p t=rvN (drR (nds p+1)) t (neS p.slots) p by rw[rk_yes s c,rv_eq w s (bY _) I]);obtain⟨P,G⟩:∃P,rvN (drR (nds p+1)) t (neS p.slots) p=P:=⟨_,rfl⟩
 rw[G] at Y;have f:=hid (show nds p<nds p+1∧Inv p∧TL p∧Up r p.slots∧∃k,neS p.slots≤k∧rvN (drR (nds p+1)) t k p=P from⟨bY _,snd_inv w s,snd_tl s,I,_,au _,G⟩);have A:=hid (made_ref wb V p t W (bt.view w hl) I);have D:=hid bt;rw[c] at z ⊢;generalize nds p+1=m1 at f G;obtain⟨m,rfl⟩:∃m,m1=m+1:=⟨m1 - 1,by have:=f.1;omega⟩
 clear B c s hl w bt ht n I G e2;go_enter Tryz.func17,Tryz.ntmps17
 go_wp2_with fail
 refine z.mono ?_;rintro q w1 ⟨rfl,rfl⟩;go_wp2_with fail
 refine A.mono ?_;rintro q w1 ⟨v,rfl,hv,c⟩;have Z:=hid hv;replace D:=hid (D.below c);have U:=hid (aW (tag:=tag) c);clear hv c A z;go_wp2_with fail
 go_loopw [6] (fun v wr=>∃(q:PW) (tg:Nat→Nat),Hid (IntsIn wr v (mdL q.slots t q.slots.length))∧Hid (nds q<m+1∧Inv q∧TL q∧Up r q.slots∧q.slots.length=p.slots.length∧∃k,neS q.slots≤k∧rvN (drR (m+1)) t k q=P)∧Hid (BoxT wr wb tg V q)∧Hid (Kt tag tg W wr)) (fun _ wr=>neW wr g p.slots.length)
 case atStart=>exact⟨p,tag,Z,hid ⟨f.1,f.2.1,f.2.2.1,f.2.2.2.1,rfl,f.2.2.2.2⟩,D,U⟩
 case round=>
  obtain⟨q,tg,u,i,C,K⟩:=hrel;clear f D U Z;have J:=hid (show (mdL q.slots t q.slots.length=[]∧q=P)∨∃(L:List Int) (j:Nat),mdL q.slots t q.slots.length=L++[(j:Int)]∧j<q.slots.length∧(q.slots.getD j eS) 0≠0∧(nds (drR (m+1) q j)<m+1∧Inv (drR (m+1) q j)∧TL (drR (m+1) q j)∧Up r (drR (m+1) q j).slots∧(drR (m+1) q j).slots.length=p.slots.length∧∃k,neS (drR (m+1) q j).slots≤k∧rvN (drR (m+1)) t k (drR (m+1) q j)=P)∧neS (drR (m+1) q j).slots<neS q.slots by
   obtain⟨F,h2,h3,h4,h5,k,h6,h7⟩:=i.out;rcases md_last q.slots t q.slots.length with ⟨e1,e⟩|⟨L,j,e1,e, -, -⟩
   ·exact .inl ⟨e1,by rw[←h7,rv_stop e]⟩
   ·obtain⟨H,n⟩:=lu_in h4 e;obtain⟨⟨a1,a2,a3,a4,a5,a6⟩,b⟩:=rv_nextR F h2 h3 h4 e h6 h7;exact .inr ⟨L,j,e1,H,n,⟨a1,a2,a3,a4,a5.trans h5,a6⟩,b⟩)
  rcases J.out with ⟨e,B⟩|⟨L,j,e,H,n,hN,hM⟩
  ·rw[e] at u;obtain⟨qv,bv,ov,cv,rfl, -, -⟩:=u.out;have HX:=hid B;have ag:¬((0:Int)<(([]:List Int).length:Int)):=by simp
   clear J i e B u;go_wp2_with fail
   go_ret
   exact⟨rfl,tg,K.out,V,by rw[Y.out, ←HX.out];exact C⟩
  ·rw[e] at u;obtain⟨qv,bv,ov,cv,rfl,Q,ab⟩:=u.out;have O:=Q (by simp);subst O;have cl:wr.cell? ⟨bv,ov+L.length,none⟩=some (.int .i64 (j:Int)):=by
    have:=ab L.length (by simp);simpa using this
   have af:((L++[(j:Int)]).length:Int)=(L.length:Int)+1:=by simp
   have ai:(L.length:Int)≤1000:=by
    have F:=md_len q.slots t q.slots.length;rw[e,av] at F;have h2:=i.2.1.fits.slots;simp at F;omega
   generalize (L++[(j:Int)]).length=ln at af Q;have ag:(0:Int)<(ln:Int):=by omega
   have E:=hid (ref_any (m+1) q j wr wb tg V i.1 i.2.1 i.2.2.1 H C);rw[ae n,ae n] at E;have d:=hid hN;have A:=hid (show neS (drR (m+1) q j).slots<neW wr g p.slots.length by rw[neW_eq C T i.2.2.2.2.1];exact hM);generalize drR (m+1) q j=q' at E d A;clear J i e H n hN hM C u Q ab;go_wp2_with fail
   refine E.mono ?_;rintro y w2 ⟨rfl,ah,b2,k2⟩;have X:=hid (made_ref wb V q' t w2 (b2.view d.2.1.fits d.2.2.1.len) d.2.2.2.1);have R:=hid b2;have K2:=hid (K.trans k2);clear b2 k2 E K cl;go_wp2_with fail
   refine X.mono ?_;rintro y w3 ⟨v3,rfl,aa,N⟩;have ac:=hid aa;have S:=hid (R.below N);have K3:=hid (K2.trans (aW N));clear X aa N R K2;go_wp2_with fail
   refine⟨⟨q',ah,ac,d,S,K3⟩,?_⟩;show neW w3 g p.slots.length<neW wr g p.slots.length
   rw[neW_eq S T d.2.2.2.2.1];exact A
set_option maxRecDepth 512
set_option maxHeartbeats 200000
theorem usd_yes {p:PW} {t m j:Nat} (c:t≤j) (d:j<t+m) (b:j<p.slots.length) (a:p.slots[j] 0≠0):usd p t m=true:=by
 cases h:usd p t m with
 |true=>rfl
 |false=>have:=usd_not h b a;omega
theorem usd_none {p:PW} {t m:Nat} (h:∀j (e:j<p.slots.length),t≤j→j<t+m→p.slots[j] 0=0):usd p t m=false:=by
 unfold usd;rw[bZ];intro f d;obtain⟨i,hi⟩:=List.mem_iff_getElem?.1 d;rw[List.getElem?_take] at hi;by_cases a:i<m
 ·rw[ag a,dc] at hi;obtain⟨b,c⟩:=List.getElem?_eq_some_iff.1 hi;have:=h (t+i) b (by omega) (by omega);rw[c] at this;simp[this]
 ·rw[ae a] at hi
  cases hi
theorem slot_no {p:PW} {n:Int} (h:slotB p n=false):n<0∨(¬(n<0)∧(p.slots.length:Int)≤n):=by
 unfold slotB at h;have:=cP h;omega
set_option maxRecDepth 100000
set_option maxHeartbeats 8000000
theorem makeThings_any_all (n k m t0:Int) (p:PW) (J:p.Fits) (hl:∀l∈p.tlbs,l.length≤100) (Q:Snd p) (W:World) (wb:Nat) (tag:Nat→Nat) (V:Nat→Value) (bk:BoxT W wb tag V p):
  Calls Tryz.prog 16 #[.pointer (some ⟨wb,0,none⟩),.int .i64 n,.int .i64 k,.int .i64 m,.int .i64 t0] W fun r W'=>r=.returned (.int .i64 (mkE p n k m t0))∧∃tag',Kt tag tag' W W'∧(mkE p n k m t0=0→∃V',BoxT W' wb tag' V' (mkP p n k m t0))∧(mkE p n k m t0≠0→∃V',BoxT W' wb tag' V' p):=by
 obtain⟨bt,kr⟩:=retagC bk;have KR:=hid kr;have T0:=hid (fun x (h:W.heap.size≤x)=>show tagC tag W.heap.size x=0 from ae (by omega));generalize tagC tag W.heap.size=tg at*;clear bk kr;have U:=hid bt;have cJ:(p.slots.length:Int)≤1000:=by have:=J.slots;omega
 obtain⟨q2,u,cap2,e2,aN⟩:=bt.o.slots.shape;have c2:W.cell? ⟨wb,2,none⟩=some (.slice q2 p.slots.length cap2):=by rw[af bt.r (k:=2) rfl,e2]
 cases hsn:slotB p n with
 |false=>
  have g:=hid (show mkE p n k m t0=2 by
   have w:hasE p n=2:=by unfold hasE;rw[hsn];rfl
   have h2:clE p n=2:=by unfold clE;rw[w];rfl
   unfold mkE;rw[h2];split<;>rfl)
  rcases slot_no hsn with h0|⟨h0,w⟩
  ·clear bt J hl Q hsn e2 aN;go_enter Tryz.func16,Tryz.ntmps16
   go_wp2_with fail
   go_ret
   exact⟨by rw[g.out];rfl,tg,KR.out,fun h=>(by rw[g.out] at h;cases h),fun _=>⟨V,by first|exact s|exact D|exact c|exact U⟩⟩
  ·clear bt J hl Q hsn e2 aN;go_enter Tryz.func16,Tryz.ntmps16
   go_wp2_with fail
   go_ret
   exact⟨by rw[g.out];rfl,tg,KR.out,fun h=>(by rw[g.out] at h;cases h),fun _=>⟨V,by first|exact s|exact D|exact c|exact U⟩⟩
 |true=>
 obtain⟨j,rfl,hj⟩:=slotB_in hsn;have cz:¬((j:Int)<0):=by omega
 have cA:(j:Int)<(p.slots.length:Int):=by omega
 cases hst:slotB p t0 with
 |false=>
  have g:=hid (show mkE p j k m t0=2 by unfold mkE;rw[hst];rfl);rcases slot_no hst with h0|⟨h0,w⟩
  ·clear bt J hl Q hsn e2 aN hst;go_enter Tryz.func16,Tryz.ntmps16
   go_wp2_with fail
   go_ret
   exact⟨by rw[g.out];rfl,tg,KR.out,fun h=>(by rw[g.out] at h;cases h),fun _=>⟨V,by first|exact s|exact D|exact c|exact U⟩⟩
  ·clear bt J hl Q hsn e2 aN hst;go_enter Tryz.func16,Tryz.ntmps16
   go_wp2_with fail
   go_ret
   exact⟨by rw[g.out];rfl,tg,KR.out,fun h=>(by rw[g.out] at h;cases h),fun _=>⟨V,by first|exact s|exact D|exact c|exact U⟩⟩
 |true=>
 obtain⟨t,rfl,ht⟩:=slotB_in hst;have cK:¬((t:Int)<0):=by omega
 have cL:(t:Int)<(p.slots.length:Int):=by omega
 obtain rfl:=aN (by omega);have E2:=hid e2;have O:mkE p j k m t=if clE p j=0 then (if within 2 8 k=true then (if fcE p t m=0 then (if (p.slots.getD j nkey) 2 - usV p j<m then 5 else 0) else fcE p t m) else 3) else clE p j:=by unfold mkE;rw[hst,ag rfl,ah,ah]
 have ai:=hid (has_ref wb V p j W (bt.view J hl));by_cases ad:hasE p j=0
 rotate_left
 ·have P:clE p j=hasE p j:=ae ad;have g:=hid (show mkE p j k m t=hasE p j by rw[O,ae (by rw[P];exact ad),P]);have HN:=hid ad;have bP:(hasE p j==0)=false:=by simpa using ad
  generalize hasE p j=x at ai g HN bP;clear bt J hl Q hsn e2 hst O ad P;go_enter Tryz.func16,Tryz.ntmps16
  go_wp2_with fail
  refine ai.mono ?_;rintro q w1 ⟨rfl,rfl⟩;go_wp2_with fail
  go_ret
  exact⟨by rw[g.out];rfl,tg,KR.out,fun h=>absurd (g.symm.trans h) HN,fun _=>⟨V,U.out⟩⟩
 rw[ad] at ai;have an:p.slots.getD j nkey=p.slots[j]:=by rw[aa,ac hj];rfl
 obtain⟨f,hf⟩:∃f,p.slots[j]=f:=⟨_,rfl⟩
 have P:clE p j=if f 0=1 then 0 else 3:=by unfold clE;rw[ag ad,ah,an,hf]
 have RJ:=hid (show W.rangeAt u (j*7) (cf 6 f) from six_of (by
  have h2:=bt.o.slots;rw[e2] at h2;have h3:=h2.range hj;rw[hf] at h3;exact h3))
 have c:=hid bt;have am:=hid (aM W #[.int .i64 0,.int .i64 0,.int .i64 0,.int .i64 0,.int .i64 0,.int .i64 0] 78 W.heap.size 6 rfl (by decide));have H:=hid (show Below W.heap.size W ((W.alloc (.cells #[.int .i64 0,.int .i64 0,.int .i64 0,.int .i64 0,.int .i64 0,.int .i64 0] 78)).setCells W.heap.size 0 (cf 6 f)) from dZ (bal (aj W.heap.size W) (.cells #[.int .i64 0,.int .i64 0,.int .i64 0,.int .i64 0,.int .i64 0,.int .i64 0] 78)) (au _) _ 0);have C:=hid (World.rangeAt_setCells_same (W.alloc (.cells #[.int .i64 0,.int .i64 0,.int .i64 0,.int .i64 0,.int .i64 0,.int .i64 0] 78)) W.heap.size 0 (cf 6 f) (by rw[ax];exact am));have TK:=hid (there_sets (cf 6 f) 0 (W.alloc (.cells #[.int .i64 0,.int .i64 0,.int .i64 0,.int .i64 0,.int .i64 0,.int .i64 0] 78)) (B:=W.heap.size) am);have A:=hid (T0.out W.heap.size (au _));have aq:=hid (show t/16<p.kinds.length by have:=Q.lf.slots;omega);have cB:((t:Int)/16)=((t/16:Nat):Int):=by omega
 have cC:((t/16:Nat):Int)<(p.kinds.length:Int):=by have:=aq.out;omega
 have cD:(p.kinds.length:Int)≤1000:=by have:=J.kinds;omega
 obtain⟨N,cap1,e1⟩:=bt.o.kinds.form (show 0<p.kinds.length by have:=aq.out;omega);have E1:=hid e1;have ap:=hid (fun X (h:BoxT X wb tg V p)=>show X.cell? ⟨N,t/16,none⟩=some (.int .i64 p.kinds[t/16]) from by
  have h2:=h.o.kinds;rw[e1] at h2;exact h2.int aq)
 have R:fcE p t m=if p.kinds[t/16]=5 then (if within 1 (16 - (t:Int)%16) m=true then (if usd p t m.toNat=true then 12 else 0) else 2) else 3:=by unfold fcE;rw[getD_at (aq.out)];rfl
 by_cases w:f 0=1
 rotate_left
 ·rw[ae w] at P;have g:=hid (show mkE p j k m t=3 by rw[O,P];rfl);have bH:(f 0 !=1)=true:=by simpa using w
  clear bt J hl Q hsn hst e1 e2 ad an hf P O R T0;go_enter Tryz.func16,Tryz.ntmps16
  go_wp2_with fail
  refine ai.mono ?_;rintro q w1 ⟨rfl,rfl⟩;go_upto_region 7 with (first|((with_reducible refine gld 78 ?_);refine wp_ldK rfl _ rfl u (j*7) rfl (cf 6 f) (ax _ _) RJ ?_)|((with_reducible refine gst 78 ?_);refine wp_stK rfl _ _ rfl W.heap.size 0 rfl (cf 6 f) rfl (ax _ _) (bK _ _) am ?_))
  generalize World.setCells _ _ _ _=F at*;obtain⟨kb,z⟩:∃kb,W.heap.size=kb:=⟨_,rfl⟩
  have ao:=hid z;rw[z] at C TK A ⊢;clear z c2;have s:=hid (c.below H);have L:=hid (KR.trans (.below H));have c1:F.cell? ⟨wb,1,none⟩=some (.slice (some ⟨N,0,none⟩) p.kinds.length cap1):=by rw[af s.r (k:=1) rfl,E1.out]
  have y0:=af C (k:=0) (v:=.int .i64 (f 0)) (cf_at 6 _ 0 (by omega));have xk:=ap.out _ s;go_wp2_with fail
  go_ret
  exact⟨by rw[g.out];rfl,tg,L.out,fun h=>(by rw[g.out] at h;cases h),fun _=>⟨V,by first|exact s|exact D|exact c|exact U⟩⟩
 rw[ag w] at P;rw[ag P] at O;have bH:(f 0 !=1)=false:=by rw[w];rfl
 cases hwk:within 2 8 k with
 |false=>
  have g:=hid (show mkE p j k m t=3 by rw[O,hwk];rfl);have a6:k<2∨(¬(k<2)∧8<k):=by
   unfold within at hwk;have:=cP hwk;omega
  rcases a6 with h2|⟨h2,h3⟩
  ·clear bt J hl Q hsn hst e1 e2 ad an hf P O R T0 hwk;go_enter Tryz.func16,Tryz.ntmps16
   go_wp2_with fail
   refine ai.mono ?_;rintro q w1 ⟨rfl,rfl⟩;go_upto_region 7 with (first|((with_reducible refine gld 78 ?_);refine wp_ldK rfl _ rfl u (j*7) rfl (cf 6 f) (ax _ _) RJ ?_)|((with_reducible refine gst 78 ?_);refine wp_stK rfl _ _ rfl W.heap.size 0 rfl (cf 6 f) rfl (ax _ _) (bK _ _) am ?_))
   generalize World.setCells _ _ _ _=F at*;obtain⟨kb,z⟩:∃kb,W.heap.size=kb:=⟨_,rfl⟩
   have ao:=hid z;rw[z] at C TK A ⊢;clear z c2;have s:=hid (c.below H);have L:=hid (KR.trans (.below H));have c1:F.cell? ⟨wb,1,none⟩=some (.slice (some ⟨N,0,none⟩) p.kinds.length cap1):=by rw[af s.r (k:=1) rfl,E1.out]
   have y0:=af C (k:=0) (v:=.int .i64 (f 0)) (cf_at 6 _ 0 (by omega));have xk:=ap.out _ s;go_wp2_with fail
   go_ret
   exact⟨by rw[g.out];rfl,tg,L.out,fun h=>(by rw[g.out] at h;cases h),fun _=>⟨V,by first|exact s|exact D|exact c|exact U⟩⟩
  ·clear bt J hl Q hsn hst e1 e2 ad an hf P O R T0 hwk;go_enter Tryz.func16,Tryz.ntmps16
   go_wp2_with fail
   refine ai.mono ?_;rintro q w1 ⟨rfl,rfl⟩;go_upto_region 7 with (first|((with_reducible refine gld 78 ?_);refine wp_ldK rfl _ rfl u (j*7) rfl (cf 6 f) (ax _ _) RJ ?_)|((with_reducible refine gst 78 ?_);refine wp_stK rfl _ _ rfl W.heap.size 0 rfl (cf 6 f) rfl (ax _ _) (bK _ _) am ?_))
   generalize World.setCells _ _ _ _=F at*;obtain⟨kb,z⟩:∃kb,W.heap.size=kb:=⟨_,rfl⟩
   have ao:=hid z;rw[z] at C TK A ⊢;clear z c2;have s:=hid (c.below H);have L:=hid (KR.trans (.below H));have c1:F.cell? ⟨wb,1,none⟩=some (.slice (some ⟨N,0,none⟩) p.kinds.length cap1):=by rw[af s.r (k:=1) rfl,E1.out]
   have y0:=af C (k:=0) (v:=.int .i64 (f 0)) (cf_at 6 _ 0 (by omega));have xk:=ap.out _ s;go_wp2_with fail
   go_ret
   exact⟨by rw[g.out];rfl,tg,L.out,fun h=>(by rw[g.out] at h;cases h),fun _=>⟨V,by first|exact s|exact D|exact c|exact U⟩⟩
 |true=>
 rw[hwk,ag rfl] at O;have a6:¬(k<2)∧¬(8<k):=by
  unfold within at hwk;have:=az hwk;omega
 obtain⟨cS,cT⟩:=a6;by_cases h5:p.kinds[t/16]=5
 rotate_left
 ·rw[ae h5] at R;have g:=hid (show mkE p j k m t=3 by rw[O,R];rfl);have cs:(p.kinds[t/16] !=5)=true:=by simpa using h5
  generalize p.kinds[t/16]=y at*;generalize t/16=tq at*;clear bt J hl Q hsn hst e1 e2 ad an hf P O R h5 T0 hwk aq;go_enter Tryz.func16,Tryz.ntmps16
  go_wp2_with fail
  refine ai.mono ?_;rintro q w1 ⟨rfl,rfl⟩;go_upto_region 7 with (first|((with_reducible refine gld 78 ?_);refine wp_ldK rfl _ rfl u (j*7) rfl (cf 6 f) (ax _ _) RJ ?_)|((with_reducible refine gst 78 ?_);refine wp_stK rfl _ _ rfl W.heap.size 0 rfl (cf 6 f) rfl (ax _ _) (bK _ _) am ?_))
  generalize World.setCells _ _ _ _=F at*;obtain⟨kb,z⟩:∃kb,W.heap.size=kb:=⟨_,rfl⟩
  have ao:=hid z;rw[z] at C TK A ⊢;clear z c2;have s:=hid (c.below H);have L:=hid (KR.trans (.below H));have c1:F.cell? ⟨wb,1,none⟩=some (.slice (some ⟨N,0,none⟩) p.kinds.length cap1):=by rw[af s.r (k:=1) rfl,E1.out]
  have y0:=af C (k:=0) (v:=.int .i64 (f 0)) (cf_at 6 _ 0 (by omega));have xk:=ap.out _ s;go_wp2_with fail
  go_ret
  exact⟨by rw[g.out];rfl,tg,L.out,fun h=>(by rw[g.out] at h;cases h),fun _=>⟨V,by first|exact s|exact D|exact c|exact U⟩⟩
 rw[ag h5] at R;rw[h5] at ap;obtain⟨tm,bY⟩:∃tm:Int,(t:Int)%16=tm:=⟨_,rfl⟩
 rw[bY] at R;have cM:0≤tm:=by omega
 have cN:tm<16:=by omega
 cases hwm:within 1 (16 - tm) m with
 |false=>
  have g:=hid (show mkE p j k m t=2 by rw[O,R,hwm];rfl);have cg:m<1∨(¬(m<1)∧16<m)∨(¬(m<1)∧¬(16<m)∧16<tm+m):=by
   unfold within at hwm;have:=cP hwm;omega
  generalize t/16=tq at*;rcases cg with h6|⟨h6,h7⟩|⟨h6,h7,h8⟩
  ·clear bt J hl Q hsn hst e1 e2 ad an hf P O R T0 hwk hwm h5 aq;go_enter Tryz.func16,Tryz.ntmps16
   go_wp2_with fail
   refine ai.mono ?_;rintro q w1 ⟨rfl,rfl⟩;go_upto_region 7 with (first|((with_reducible refine gld 78 ?_);refine wp_ldK rfl _ rfl u (j*7) rfl (cf 6 f) (ax _ _) RJ ?_)|((with_reducible refine gst 78 ?_);refine wp_stK rfl _ _ rfl W.heap.size 0 rfl (cf 6 f) rfl (ax _ _) (bK _ _) am ?_))
   generalize World.setCells _ _ _ _=F at*;obtain⟨kb,z⟩:∃kb,W.heap.size=kb:=⟨_,rfl⟩
   have ao:=hid z;rw[z] at C TK A ⊢;clear z c2;have s:=hid (c.below H);have L:=hid (KR.trans (.below H));have c1:F.cell? ⟨wb,1,none⟩=some (.slice (some ⟨N,0,none⟩) p.kinds.length cap1):=by rw[af s.r (k:=1) rfl,E1.out]
   have y0:=af C (k:=0) (v:=.int .i64 (f 0)) (cf_at 6 _ 0 (by omega));have xk:=ap.out _ s;go_wp2_with fail
   go_ret
   exact⟨by rw[g.out];rfl,tg,L.out,fun h=>(by rw[g.out] at h;cases h),fun _=>⟨V,by first|exact s|exact D|exact c|exact U⟩⟩
  ·clear bt J hl Q hsn hst e1 e2 ad an hf P O R T0 hwk hwm h5 aq;go_enter Tryz.func16,Tryz.ntmps16
   go_wp2_with fail
   refine ai.mono ?_;rintro q w1 ⟨rfl,rfl⟩;go_upto_region 7 with (first|((with_reducible refine gld 78 ?_);refine wp_ldK rfl _ rfl u (j*7) rfl (cf 6 f) (ax _ _) RJ ?_)|((with_reducible refine gst 78 ?_);refine wp_stK rfl _ _ rfl W.heap.size 0 rfl (cf 6 f) rfl (ax _ _) (bK _ _) am ?_))
   generalize World.setCells _ _ _ _=F at*;obtain⟨kb,z⟩:∃kb,W.heap.size=kb:=⟨_,rfl⟩
   have ao:=hid z;rw[z] at C TK A ⊢;clear z c2;have s:=hid (c.below H);have L:=hid (KR.trans (.below H));have c1:F.cell? ⟨wb,1,none⟩=some (.slice (some ⟨N,0,none⟩) p.kinds.length cap1):=by rw[af s.r (k:=1) rfl,E1.out]
   have y0:=af C (k:=0) (v:=.int .i64 (f 0)) (cf_at 6 _ 0 (by omega));have xk:=ap.out _ s;go_wp2_with fail
   go_ret
   exact⟨by rw[g.out];rfl,tg,L.out,fun h=>(by rw[g.out] at h;cases h),fun _=>⟨V,by first|exact s|exact D|exact c|exact U⟩⟩
  ·clear bt J hl Q hsn hst e1 e2 ad an hf P O R T0 hwk hwm h5 aq;go_enter Tryz.func16,Tryz.ntmps16
   go_wp2_with fail
   refine ai.mono ?_;rintro q w1 ⟨rfl,rfl⟩;go_upto_region 7 with (first|((with_reducible refine gld 78 ?_);refine wp_ldK rfl _ rfl u (j*7) rfl (cf 6 f) (ax _ _) RJ ?_)|((with_reducible refine gst 78 ?_);refine wp_stK rfl _ _ rfl W.heap.size 0 rfl (cf 6 f) rfl (ax _ _) (bK _ _) am ?_))
   generalize World.setCells _ _ _ _=F at*;obtain⟨kb,z⟩:∃kb,W.heap.size=kb:=⟨_,rfl⟩
   have ao:=hid z;rw[z] at C TK A ⊢;clear z c2;have s:=hid (c.below H);have L:=hid (KR.trans (.below H));have c1:F.cell? ⟨wb,1,none⟩=some (.slice (some ⟨N,0,none⟩) p.kinds.length cap1):=by rw[af s.r (k:=1) rfl,E1.out]
   have y0:=af C (k:=0) (v:=.int .i64 (f 0)) (cf_at 6 _ 0 (by omega));have xk:=ap.out _ s;go_wp2_with fail
   go_ret
   exact⟨by rw[g.out];rfl,tg,L.out,fun h=>(by rw[g.out] at h;cases h),fun _=>⟨V,by first|exact s|exact D|exact c|exact U⟩⟩
 |true=>
 rw[hwm,ag rfl] at R;have cj:¬(m<1)∧¬(16<m)∧¬(16<tm+m):=by
  unfold within at hwm;have:=az hwm;omega
 obtain⟨cU,cV,cW⟩:=cj;obtain⟨mn,rfl⟩:∃mn:Nat,m=mn:=⟨m.toNat,by omega⟩
 rw[ah] at R;have aS:=hid (show t+mn≤p.slots.length by have:=Q.lf.slots;omega);have cO:(t:Int)+(mn:Int)≤(p.slots.length:Int):=by have:=aS.out;omega
 have ba:=hid R;have a9:=hid O;have bg:=hid Q;have aY:=hid J;have cq:=hid hl;have bA:=hid P;have HJ:=hid hj;have HF:=hid hf;have aQ:=hid an;have bc:=hid Q.lf.ram;have bv:=hid (fun X (h:BoxT X wb tg V p)=>anyFrom_ref wb V p j X (h.view J hl));have bF:=hid (fun X (h:BoxT X wb tg V p) i (hi:i<p.slots.length)=>show X.cell? ⟨u,i*7,none⟩=some (.int .i64 (p.slots[i] 0)) from by have w:=h.slotsAt e2 hi (show 0<7 by omega);rw[bz] at w;exact w);generalize t/16=tq at*;clear bt J hl Q hsn hst e1 e2 ad an hf P O R T0 hwk hwm h5 aq ht;go_enter Tryz.func16,Tryz.ntmps16
 go_wp2_with fail
 refine ai.mono ?_;rintro q w1 ⟨rfl,rfl⟩;go_upto_region 7 with (first|((with_reducible refine gld 78 ?_);refine wp_ldK rfl _ rfl u (j*7) rfl (cf 6 f) (ax _ _) RJ ?_)|((with_reducible refine gst 78 ?_);refine wp_stK rfl _ _ rfl W.heap.size 0 rfl (cf 6 f) rfl (ax _ _) (bK _ _) am ?_))
 generalize World.setCells _ _ _ _=F at*;obtain⟨kb,z⟩:∃kb,W.heap.size=kb:=⟨_,rfl⟩
 have ao:=hid z;rw[z] at C TK A ⊢;clear z c2;have s:=hid (c.below H);have L:=hid (KR.trans (.below H));have c1:F.cell? ⟨wb,1,none⟩=some (.slice (some ⟨N,0,none⟩) p.kinds.length cap1):=by rw[af s.r (k:=1) rfl,E1.out]
 have y0:=af C (k:=0) (v:=.int .i64 (f 0)) (cf_at 6 _ 0 (by omega));have xk:=ap.out _ s;go_upto_region 12 with fail
 clear c1 y0 xk
 go_loopw [13] (fun i wr=>∃(a:Nat),t≤a∧a≤t+mn∧i=.int .i64 a∧F=wr∧Hid (∀x (hx:x<p.slots.length),t≤x→x<a→p.slots[x] 0=0)) (fun i _=>t+mn - (intOf i).toNat)
 case atStart=>exact⟨t,au _,by omega,rfl,rfl,hid (fun x _ w h2=>by omega)⟩
 case round=>
  obtain⟨a,bI,ct,rfl,rfl,HN⟩:=hrel;by_cases a3:a<t+mn
  ·have bs:(a:Int)<(t:Int)+(mn:Int):=by omega
   have bn:a<p.slots.length:=by have:=aS.out;omega
   have cv:(a:Int)<(p.slots.length:Int):=by omega
   have c2:F.cell? ⟨wb,2,none⟩=some (.slice (some ⟨u,0,none⟩) p.slots.length cap2):=by rw[af s.r (k:=2) rfl,E2.out]
   have xa:=bF.out _ s a bn;by_cases h0:p.slots[a] 0=0
   ·rw[h0] at xa;have bC:=hid (show ∀x (hx:x<p.slots.length),t≤x→x<a+1→p.slots[x] 0=0 from fun x hx w h2=>by
     by_cases e:x=a
     ·subst e;exact h0
     ·exact HN x hx w (by omega))
    clear h0;go_wp2_with fail
    exact⟨⟨a+1,by omega,by omega,by go_num,by first|rfl|trivial,bC⟩,by simp[intOf];omega⟩
   ·have HU:=usd_yes (m:=mn) bI a3 bn h0;have g:=hid (show mkE p j k mn t=12 by rw[a9.out,ba.out,HU];rfl);have bG:(p.slots[a] 0 !=0)=true:=by simpa using h0
    generalize p.slots[a] 0=y at xa bG;clear h0 HU;go_wp2_with fail
    go_ret
    exact⟨by rw[g.out];rfl,tg,L.out,fun h=>(by rw[g.out] at h;cases h),fun _=>⟨V,by first|exact s|exact D|exact c|exact U⟩⟩
  ·have cy:¬((a:Int)<(t:Int)+(mn:Int)):=by omega
   have bh:=hid (usd_none (p:=p) (t:=t) (m:=mn) (fun x hx w h2=>HN.out x hx w (by omega)));have bq:fcE p t mn=0:=by rw[ba.out,bh.out];rfl
   have a2:=a9.out;rw[ag bq,aQ.out,HF.out] at a2;obtain⟨j',aU,ej, -, -,bo,br,bu,bZ⟩:=clay_in bg bA;obtain rfl:j'=j:=by omega
   rw[HF.out] at bo br bu;obtain⟨cw,bp⟩:=bo;obtain⟨cE,cF⟩:=br;obtain⟨cG,cH⟩:=bu;obtain⟨cc,cd⟩:=bZ;have bB:=hid (show (p.kinds.length:Int)≤24 by have:=bg.lf.k2;omega);have cx:f 1≤24:=by have:=bB.out;omega
   have cI:(mn:Int)≤16:=by omega
   have y2:=af C (k:=2) (v:=.int .i64 (f 2)) (cf_at 6 _ 2 (by omega));have y3:=af C (k:=3) (v:=.int .i64 (f 3)) (cf_at 6 _ 3 (by omega));have bj:=hid (show usV p j'=if frm p j'=true then f 3 else 0 by unfold usV;rw[ah,aQ.out,HF.out]);have hB:((mkB p j':Nat):Int)=f 1+usV p j':=by unfold mkB;rw[ah,aQ.out,HF.out];omega
   have HP:=hid (show mkP p j' k mn t={mkI p j' k (mkB p j') t mn with slots:=(mkI p j' k (mkB p j') t mn).slots.set j' (upd f 3 (usV p j'+mn))} by unfold mkP;rw[ah,ah,ah,aQ.out,HF.out]);have bD:=hid (usd_not bh aU (by rw[HF.out];omega));have bf:=hid (show ∀i,i≤mn→∀(h:j'<(mkI p j' k (mkB p j') t i).slots.length),(mkI p j' k (mkB p j') t i).slots[j']=f from fun i hi h=>by
    have w:=mkI_at p j' k (mkB p j') t j' i (by have:=bD.out;omega);rw[ac h,ac aU,HF.out] at w;exact aK w)
   have cp:=hid (fun i=>mkI_fits aY (j':Int) k (mkB p j') t i);have I:=hid (fun i=>mkI_len p (j':Int) k (mkB p j') t i);have av:=hid hB;have aw:=hid a2;have bb:=hid (show f 1+f 2≤(p.kinds.length:Int) from bp);clear a2 hB bq bp;generalize mkB p j'=d at*;go_upto_region 17 with fail
   go_wp2_with fail
   refine (bv.out _ s).mono ?_;rintro q w3 ⟨rfl,rfl⟩
   cases aF:frm p j' with
   |true=>
    obtain⟨us,aG⟩:∃us,f 3=us:=⟨_,rfl⟩
    have aT:=hid (show usV p j'=us by rw[bj.out,aF,ag rfl];exact aG);rw[aG];clear aF aG;have bE:=hid (show 0≤us∧us≤100 by rw[←aT.out];exact⟨cc,cd⟩);obtain⟨cQ,cR⟩:=bE.out;rw[aT.out] at aw av HP;by_cases bM:f 2<us+(mn:Int)
    ·have g:=hid (show mkE p j' k mn t=5 by rw[aw.out,ag (by omega)]);go_wp2_with fail
     go_ret
     exact⟨by rw[g.out];rfl,tg,L.out,fun h=>(by rw[g.out] at h;cases h),fun _=>⟨V,by first|exact s|exact D|exact c|exact U⟩⟩
    have g:=hid (show mkE p j' k mn t=0 by rw[aw.out,ae (by omega)]);have aV:=hid (show d+mn≤p.kinds.length by have:=av.out;have:=bb.out;omega);have KW:=hid (show Kt tg tg W F from .below H);go_upto_region 22 with fail
    clear y2 y3
    go_loopw [15] (fun i wr=>∃(a:Nat),a≤mn∧i=.int .i64 a∧Hid (BoxT wr wb tg V (mkI p j' k d t a))∧Hid (Kt tg tg W wr)∧Hid (wr.rangeAt kb 0 (cf 6 f)∧wr.there kb 0 6)) (fun i _=>mn - (intOf i).toNat)
    case atStart=>exact⟨0,by omega,rfl,s,KW,hid ⟨C.out,TK.out⟩⟩
    case round=>
     obtain⟨a,ha,rfl,c,Y,Z⟩:=hrel;have E:=hid Z.1;have ab:=hid Z.2;clear Z KW;by_cases a3:a<mn
     ·have bs:(a:Int)<(mn:Int):=by omega
      have y1:=af E (k:=1) (v:=.int .i64 (f 1)) (cf_at 6 _ 1 (by omega));obtain⟨fr,aJ⟩:∃fr:Nat,d+a=fr:=⟨_,rfl⟩
      have aF:f 1+us+(a:Int)=(fr:Int):=by have:=av.out;omega
      have aW:=hid aJ;obtain⟨ta,aO⟩:∃ta:Nat,t+a=ta:=⟨_,rfl⟩
      have ay:=hid aO;have bJ:fr<p.kinds.length:=by have:=aV.out;omega
      have bL:(fr:Int)<(p.kinds.length:Int):=by omega
      have e1:V 1=.slice (some ⟨N,0,none⟩) (mkI p j' k d t a).kinds.length cap1:=by rw[(I.out a).1];exact E1
      have c1:wr.cell? ⟨wb,1,none⟩=some (.slice (some ⟨N,0,none⟩) p.kinds.length cap1):=by rw[af c.r (k:=1) rfl,E1.out]
      have aP:=(c.kindsThere e1 fr 1 (by rw[(I.out a).1];omega) 0 (by omega)).2;rw[bz] at aP;obtain⟨yk,a8⟩:∃y,wr.cell? ⟨N,fr,none⟩=some y:=by
       have w:=(c.kindsThere e1 fr 1 (by rw[(I.out a).1];omega) 0 (by omega)).1;rw[bz] at w;exact Option.isSome_iff_exists.1 w
      obtain⟨b3,k3⟩:=c.kindsCell e1 fr k;have D:=hid b3;have K3:=hid (Y.trans k3);have R3:=hid (show (wr.setCell ⟨N,fr,none⟩ (.int .i64 k)).rangeAt kb 0 (cf 6 f) from fun o v hv=>k3.cell (E.out o v hv) A);have T3:=hid (k3.there ab A);clear b3 k3 e1 aJ aO;go_upto_region 27 with fail
      generalize World.setCell _ _ _=W3 at*;clear y1 c1 aP a8 c Y E ab;generalize wr=ck at*
      go_loopw [17] (fun i wr=>∃(e:Nat),e≤16∧i=.int .i64 e∧Hid (BoxT wr wb tg V {mkI p j' k d t a with kinds:=(mkI p j' k d t a).kinds.set fr k,ram:=zr e (mkI p j' k d t a).ram (fr*16)})∧Hid (Kt tg tg W wr)∧Hid (wr.rangeAt kb 0 (cf 6 f)∧wr.there kb 0 6)) (fun i _=>16 - (intOf i).toNat)
      case atStart=>exact⟨0,by omega,rfl,hid (by rw[zr_zero];exact D),K3,hid ⟨R3.out,T3.out⟩⟩
      case round=>
       obtain⟨e,he,rfl,c,Y,Z⟩:=hrel;have E:=hid Z.1;have ab:=hid Z.2;clear Z D K3 R3 T3;by_cases bT:e<16
       ·have bU:(e:Int)<16:=by omega
        obtain⟨ix,aL⟩:∃ix:Nat,fr*16+e=ix:=⟨_,rfl⟩
        have bQ:(fr:Int)*16+(e:Int)=(ix:Int):=by omega
        have aX:=hid aL;have a4:p.ram.length=p.kinds.length*16:=bc.out;have bR:ix<p.ram.length:=by omega
        have bS:(ix:Int)<(p.ram.length:Int):=by omega
        obtain⟨g0,cap0,e0⟩:=c.o.ram.form (by rw[zr_len,(I.out a).2.1];omega);have ar:V 0=.slice (some ⟨g0,0,none⟩) (zr e (mkI p j' k d t a).ram (fr*16)).length cap0:=e0;rw[zr_len,(I.out a).2.1] at e0;have c0:wr.cell? ⟨wb,0,none⟩=some (.slice (some ⟨g0,0,none⟩) p.ram.length cap0):=by rw[af c.r (k:=0) rfl,e0]
        have bV:(p.ram.length:Int)≤1000:=by have:=aY.ram;omega
        have a7:=(c.ramThere ar ix 1 (by show ix+1≤(zr e (mkI p j' k d t a).ram (fr*16)).length;rw[zr_len,(I.out a).2.1];omega) 0 (by omega)).2;rw[bz] at a7;obtain⟨yr,cm⟩:∃y,wr.cell? ⟨g0,ix,none⟩=some y:=by
         have w:=(c.ramThere ar ix 1 (by show ix+1≤(zr e (mkI p j' k d t a).ram (fr*16)).length;rw[zr_len,(I.out a).2.1];omega) 0 (by omega)).1;rw[bz] at w;exact Option.isSome_iff_exists.1 w
        obtain⟨b4,k4⟩:=c.ramCell ar ix 0;have B4:=hid (show BoxT (wr.setCell ⟨g0,ix,none⟩ (.int .i64 0)) wb tg V {mkI p j' k d t a with kinds:=(mkI p j' k d t a).kinds.set fr k,ram:=zr (e+1) (mkI p j' k d t a).ram (fr*16)} by rw[zr_succ,aX.out];exact b4);have K4:=hid (Y.trans k4);have R4:=hid (show (wr.setCell ⟨g0,ix,none⟩ (.int .i64 0)).rangeAt kb 0 (cf 6 f) from fun o v hv=>k4.cell (E.out o v hv) A);have a0:=hid (k4.there ab A);clear b4 k4 e0 ar aL a4;go_wp2_with fail
        exact⟨⟨e+1,by omega,by go_num,B4,K4,hid ⟨R4.out,a0.out⟩⟩,by simp[intOf];omega⟩
       ·obtain rfl:e=16:=by omega
        have bO:¬((16:Int)<16):=by omega
        have L5:=hid (show ({mkI p j' k d t a with kinds:=(mkI p j' k d t a).kinds.set fr k,ram:=zr 16 (mkI p j' k d t a).ram (fr*16)}:PW).slots.length=p.slots.length from (I.out a).2.2);have aB:V 2=.slice (some ⟨u,0,none⟩) ({mkI p j' k d t a with kinds:=(mkI p j' k d t a).kinds.set fr k,ram:=zr 16 (mkI p j' k d t a).ram (fr*16)}:PW).slots.length cap2:=by rw[L5.out];exact E2
        have a5:ta<p.slots.length:=by have:=aS.out;have:=ay.out;omega
        have bW:(ta:Int)<(p.slots.length:Int):=by omega
        have bX:(t:Int)+(a:Int)=(ta:Int):=by have:=ay.out;omega
        have c2:wr.cell? ⟨wb,2,none⟩=some (.slice (some ⟨u,0,none⟩) p.slots.length cap2):=by rw[af c.r (k:=2) rfl,E2.out]
        obtain⟨h6,k6⟩:=c.slotsRow aB (i:=ta) (by rw[L5.out];exact a5) (nsl k (fr:Int) j');have B6:=hid (show BoxT (wr.setCells u (ta*7) (cf 7 (nsl k (fr:Int) j'))) wb tg V (mkI p j' k d t (a+1)) by
         show BoxT _ wb tg V (mk1 (mkI p j' k d t a) j' k d t a)
         unfold mk1;rw[aW.out,ay.out];exact h6)
        have K6:=hid (Y.trans k6);have R6:=hid (show (wr.setCells u (ta*7) (cf 7 (nsl k (fr:Int) j'))).rangeAt kb 0 (cf 6 f) from fun o v hv=>k6.cell (E.out o v hv) A);have T6:=hid (k6.there ab A);have aZ:=hid (c.slotsThere aB (ta*7) 7 (by rw[L5.out];omega));clear h6 k6 aB;go_wp2_with (first|((with_reducible refine gst 80 ?_);refine wp_stS rfl _ _ rfl u (ta*7) rfl (cf 7 (nsl k (fr:Int) j')) rfl (ax _ _) (bK _ _) aZ ?_))
        exact⟨⟨a+1,by omega,by go_num,B6,K6,hid ⟨R6.out,T6.out⟩⟩,by simp[intOf];omega⟩
     ·obtain rfl:a=mn:=by omega
      have bN:¬((a:Int)<(a:Int)):=by omega
      have y3:=af E (k:=3) (v:=.int .i64 (f 3)) (cf_at 6 _ 3 (by omega));have f3:=(ab.out 3 (by omega)).2;rw[aC] at f3;have R7:=hid (range_upd E (us+a));have B7:=hid (c.kp (T:=fun x=>x=kb) ((aR (fun x=>x=kb) wr).setCell (b:=kb) (o:=3) (.inl rfl) (.int .i64 (us+a))) (fun x _ e=>by rw[e];exact A) (fun _ _=>rfl));have K7:=hid (Y.setOut (b:=kb) (o:=3) (by rw[ao.out];exact au _) (.int .i64 (us+a)));go_upto_region 32 with fail
      generalize World.setCell _ _ _=M at*;clear y3 f3 E ab c Y;obtain⟨kf,al⟩:∃kf,upd f 3 (us+(a:Int))=kf:=⟨_,rfl⟩
      rw[al] at R7;have L7:=hid (I.out a).2.2;have he:V 2=.slice (some ⟨u,0,none⟩) (mkI p j' k d t a).slots.length cap2:=by rw[L7.out];exact E2
      have aD:j'<(mkI p j' k d t a).slots.length:=by rw[L7.out];exact aU
      have aE:=bf.out a (au _) aD;have BD:Hid (BoxT M.drew wb tg V (mkI p j' k d t a)):=hid (B7.below (aA M 1));have KD:Hid (Kt tg tg W M.drew):=hid (K7.trans (.below (aA M 1)));have RD:Hid (M.drew.rangeAt kb 0 (cf 6 kf)):=hid (range_belowO R7 (aA M 1));obtain⟨h8,k8⟩:=BD.slotsKey he aD kf (by rw[aE, ←al];rfl) (fun x hx=>by rw[aE, ←al];unfold upd;rw[ae (by omega)]);have B8:=hid (show BoxT (M.drew.setCells u (j'*7) (cf 6 kf)) wb tg V (mkP p j' k a t) by rw[HP.out,al];exact h8);have K8:=hid (KD.trans k8);have R8:=hid (show (M.drew.setCells u (j'*7) (cf 6 kf)).rangeAt kb 0 (cf 6 kf) from fun o v hv=>k8.cell (RD.out o v hv) A);have aH:=hid (BD.slotsThere he (j'*7) 6 (by rw[L7.out];omega));have KS:=hid (fun X q (h:BoxT X wb tg V q) (hr:X.rangeAt kb 0 (cf 6 kf))=>show X.cell? ⟨wb,2,none⟩=some (.slice (some ⟨u,0,none⟩) p.slots.length cap2)∧X.rangeAt kb 0 (cf 6 kf) from⟨by rw[af h.r (k:=2) rfl,E2.out],hr⟩);clear h8 k8 he aD aE al HP;refine wp_region_held_drew (S:=fun X=>X.cell? ⟨wb,2,none⟩=some (.slice (some ⟨u,0,none⟩) p.slots.length cap2)∧X.rangeAt kb 0 (cf 6 kf)) (by kernel_rfl) (KS.out _ _ BD RD) (fun aI=>?_);have G:=hid aI;clear aI;refine tk 0 (.pointer (some ⟨wb,0,none⟩)) rfl G ?_;simp only[jj];refine tk 1 (.pointer (some ⟨wb,0,none⟩)) rfl G ?_;simp only[jj];refine tk 2 (.pointer (some ⟨wb,2,none⟩)) rfl G ?_;simp only[jj];refine dV 3 (.slice (some ⟨u,0,none⟩) p.slots.length cap2) rfl (Or.inl ⟨by rfl,fun W h=>by have h3:=h.1;clear h;go_simp⟩) G ?_;simp only[jj];refine tk 4 (.int .i64 j') rfl G ?_;simp only[jj];refine dV 5 (.agg (cf 6 kf).toArray) rfl (yieldsIf_load_mid (by rfl) _ _ rfl _ _ rfl (cf 6 kf) _ (fun _ h=>h.2) Tryz.underlying78 rfl (by rw[info6k,ax])) G ?_;simp only[jj];refine tk 6 (.pointer (some ⟨u,j'*7,none⟩)) rfl G ?_;simp only[jj];refine tk 7 (.pointer (some ⟨u,j'*7,none⟩)) rfl G ?_;simp only[jj];refine wpAnyH_ready (rs:=[8]) (by kernel_rfl) (by simp) (AllReadyH.cons rfl (fun K hK=>?_) AllReadyH.nil);refine wp_store_mid 78 _ _ rfl u (j'*7) (cf 6 kf).toArray rfl rfl (by rw[List.size_toArray,ax];exact aH) (by rw[info6k];rfl) (all_oneCell_toArray (bK 6 _)) ?_;refine hK _ _ (KS.out _ _ B8 R8) (fun _=>?_);clear hK K G
      try simp only[Act.put]
      refine dC (by kernel_rfl) ?_ _;clear KS BD KD RD B7 K7 R7 aH;generalize World.setCells _ _ _ _=W8 at*;go_wp2_with fail
      go_ret
      exact⟨by rw[g.out];rfl,tg,KR.trans K8,fun _=>⟨V,B8.out⟩,fun h=>absurd (by first|rfl|assumption|exact g) h⟩
   |false=>
    obtain⟨us,aG⟩:∃us:Int,(0:Int)=us:=⟨_,rfl⟩
    have aT:=hid (show usV p j'=us by rw[bj.out,aF,ae (by decide)];exact aG);subst aG;clear aF;rw[aT.out] at aw av HP;rw[Int.sub_zero] at aw;rw[Int.add_zero] at av;rw[Int.zero_add] at HP;by_cases bM:f 2<(mn:Int)
    ·have g:=hid (show mkE p j' k mn t=5 by rw[aw.out,ag (by omega)]);go_wp2_with fail
     go_ret
     exact⟨by rw[g.out];rfl,tg,L.out,fun h=>(by rw[g.out] at h;cases h),fun _=>⟨V,by first|exact s|exact D|exact c|exact U⟩⟩
    have g:=hid (show mkE p j' k mn t=0 by rw[aw.out,ae (by omega)]);have aV:=hid (show d+mn≤p.kinds.length by have:=av.out;have:=bb.out;omega);have KW:=hid (show Kt tg tg W F from .below H);go_upto_region 22 with fail
    clear y2 y3
    go_loopw [15] (fun i wr=>∃(a:Nat),a≤mn∧i=.int .i64 a∧Hid (BoxT wr wb tg V (mkI p j' k d t a))∧Hid (Kt tg tg W wr)∧Hid (wr.rangeAt kb 0 (cf 6 f)∧wr.there kb 0 6)) (fun i _=>mn - (intOf i).toNat)
    case atStart=>exact⟨0,by omega,rfl,s,KW,hid ⟨C.out,TK.out⟩⟩
    case round=>
     obtain⟨a,ha,rfl,c,Y,Z⟩:=hrel;have E:=hid Z.1;have ab:=hid Z.2;clear Z KW;by_cases a3:a<mn
     ·have bs:(a:Int)<(mn:Int):=by omega
      have y1:=af E (k:=1) (v:=.int .i64 (f 1)) (cf_at 6 _ 1 (by omega));obtain⟨fr,aJ⟩:∃fr:Nat,d+a=fr:=⟨_,rfl⟩
      have aF:f 1+(a:Int)=(fr:Int):=by have:=av.out;omega
      have aW:=hid aJ;obtain⟨ta,aO⟩:∃ta:Nat,t+a=ta:=⟨_,rfl⟩
      have ay:=hid aO;have bJ:fr<p.kinds.length:=by have:=aV.out;omega
      have bL:(fr:Int)<(p.kinds.length:Int):=by omega
      have e1:V 1=.slice (some ⟨N,0,none⟩) (mkI p j' k d t a).kinds.length cap1:=by rw[(I.out a).1];exact E1
      have c1:wr.cell? ⟨wb,1,none⟩=some (.slice (some ⟨N,0,none⟩) p.kinds.length cap1):=by rw[af c.r (k:=1) rfl,E1.out]
      have aP:=(c.kindsThere e1 fr 1 (by rw[(I.out a).1];omega) 0 (by omega)).2;rw[bz] at aP;obtain⟨yk,a8⟩:∃y,wr.cell? ⟨N,fr,none⟩=some y:=by
       have w:=(c.kindsThere e1 fr 1 (by rw[(I.out a).1];omega) 0 (by omega)).1;rw[bz] at w;exact Option.isSome_iff_exists.1 w
      obtain⟨b3,k3⟩:=c.kindsCell e1 fr k;have D:=hid b3;have K3:=hid (Y.trans k3);have R3:=hid (show (wr.setCell ⟨N,fr,none⟩ (.int .i64 k)).rangeAt kb 0 (cf 6 f) from fun o v hv=>k3.cell (E.out o v hv) A);have T3:=hid (k3.there ab A);clear b3 k3 e1 aJ aO;go_upto_region 27 with fail
      generalize World.setCell _ _ _=W3 at*;clear y1 c1 aP a8 c Y E ab;generalize wr=ck at*
      go_loopw [17] (fun i wr=>∃(e:Nat),e≤16∧i=.int .i64 e∧Hid (BoxT wr wb tg V {mkI p j' k d t a with kinds:=(mkI p j' k d t a).kinds.set fr k,ram:=zr e (mkI p j' k d t a).ram (fr*16)})∧Hid (Kt tg tg W wr)∧Hid (wr.rangeAt kb 0 (cf 6 f)∧wr.there kb 0 6)) (fun i _=>16 - (intOf i).toNat)
      case atStart=>exact⟨0,by omega,rfl,hid (by rw[zr_zero];exact D),K3,hid ⟨R3.out,T3.out⟩⟩
      case round=>
       obtain⟨e,he,rfl,c,Y,Z⟩:=hrel;have E:=hid Z.1;have ab:=hid Z.2;clear Z D K3 R3 T3;by_cases bT:e<16
       ·have bU:(e:Int)<16:=by omega
        obtain⟨ix,aL⟩:∃ix:Nat,fr*16+e=ix:=⟨_,rfl⟩
        have bQ:(fr:Int)*16+(e:Int)=(ix:Int):=by omega
        have aX:=hid aL;have a4:p.ram.length=p.kinds.length*16:=bc.out;have bR:ix<p.ram.length:=by omega
        have bS:(ix:Int)<(p.ram.length:Int):=by omega
        obtain⟨g0,cap0,e0⟩:=c.o.ram.form (by rw[zr_len,(I.out a).2.1];omega);have ar:V 0=.slice (some ⟨g0,0,none⟩) (zr e (mkI p j' k d t a).ram (fr*16)).length cap0:=e0;rw[zr_len,(I.out a).2.1] at e0;have c0:wr.cell? ⟨wb,0,none⟩=some (.slice (some ⟨g0,0,none⟩) p.ram.length cap0):=by rw[af c.r (k:=0) rfl,e0]
        have bV:(p.ram.length:Int)≤1000:=by have:=aY.ram;omega
        have a7:=(c.ramThere ar ix 1 (by show ix+1≤(zr e (mkI p j' k d t a).ram (fr*16)).length;rw[zr_len,(I.out a).2.1];omega) 0 (by omega)).2;rw[bz] at a7;obtain⟨yr,cm⟩:∃y,wr.cell? ⟨g0,ix,none⟩=some y:=by
         have w:=(c.ramThere ar ix 1 (by show ix+1≤(zr e (mkI p j' k d t a).ram (fr*16)).length;rw[zr_len,(I.out a).2.1];omega) 0 (by omega)).1;rw[bz] at w;exact Option.isSome_iff_exists.1 w
        obtain⟨b4,k4⟩:=c.ramCell ar ix 0;have B4:=hid (show BoxT (wr.setCell ⟨g0,ix,none⟩ (.int .i64 0)) wb tg V {mkI p j' k d t a with kinds:=(mkI p j' k d t a).kinds.set fr k,ram:=zr (e+1) (mkI p j' k d t a).ram (fr*16)} by rw[zr_succ,aX.out];exact b4);have K4:=hid (Y.trans k4);have R4:=hid (show (wr.setCell ⟨g0,ix,none⟩ (.int .i64 0)).rangeAt kb 0 (cf 6 f) from fun o v hv=>k4.cell (E.out o v hv) A);have a0:=hid (k4.there ab A);clear b4 k4 e0 ar aL a4;go_wp2_with fail
        exact⟨⟨e+1,by omega,by go_num,B4,K4,hid ⟨R4.out,a0.out⟩⟩,by simp[intOf];omega⟩
       ·obtain rfl:e=16:=by omega
        have bO:¬((16:Int)<16):=by omega
        have L5:=hid (show ({mkI p j' k d t a with kinds:=(mkI p j' k d t a).kinds.set fr k,ram:=zr 16 (mkI p j' k d t a).ram (fr*16)}:PW).slots.length=p.slots.length from (I.out a).2.2);have aB:V 2=.slice (some ⟨u,0,none⟩) ({mkI p j' k d t a with kinds:=(mkI p j' k d t a).kinds.set fr k,ram:=zr 16 (mkI p j' k d t a).ram (fr*16)}:PW).slots.length cap2:=by rw[L5.out];exact E2
        have a5:ta<p.slots.length:=by have:=aS.out;have:=ay.out;omega
        have bW:(ta:Int)<(p.slots.length:Int):=by omega
        have bX:(t:Int)+(a:Int)=(ta:Int):=by have:=ay.out;omega
        have c2:wr.cell? ⟨wb,2,none⟩=some (.slice (some ⟨u,0,none⟩) p.slots.length cap2):=by rw[af c.r (k:=2) rfl,E2.out]
        obtain⟨h6,k6⟩:=c.slotsRow aB (i:=ta) (by rw[L5.out];exact a5) (nsl k (fr:Int) j');have B6:=hid (show BoxT (wr.setCells u (ta*7) (cf 7 (nsl k (fr:Int) j'))) wb tg V (mkI p j' k d t (a+1)) by
         show BoxT _ wb tg V (mk1 (mkI p j' k d t a) j' k d t a)
         unfold mk1;rw[aW.out,ay.out];exact h6)
        have K6:=hid (Y.trans k6);have R6:=hid (show (wr.setCells u (ta*7) (cf 7 (nsl k (fr:Int) j'))).rangeAt kb 0 (cf 6 f) from fun o v hv=>k6.cell (E.out o v hv) A);have T6:=hid (k6.there ab A);have aZ:=hid (c.slotsThere aB (ta*7) 7 (by rw[L5.out];omega));clear h6 k6 aB;go_wp2_with (first|((with_reducible refine gst 80 ?_);refine wp_stS rfl _ _ rfl u (ta*7) rfl (cf 7 (nsl k (fr:Int) j')) rfl (ax _ _) (bK _ _) aZ ?_))
        exact⟨⟨a+1,by omega,by go_num,B6,K6,hid ⟨R6.out,T6.out⟩⟩,by simp[intOf];omega⟩
     ·obtain rfl:a=mn:=by omega
      have bN:¬((a:Int)<(a:Int)):=by omega
      have y3:=af E (k:=3) (v:=.int .i64 (f 3)) (cf_at 6 _ 3 (by omega));have f3:=(ab.out 3 (by omega)).2;rw[aC] at f3;have R7:=hid (range_upd E (a:Int));have B7:=hid (c.kp (T:=fun x=>x=kb) ((aR (fun x=>x=kb) wr).setCell (b:=kb) (o:=3) (.inl rfl) (.int .i64 (a:Int))) (fun x _ e=>by rw[e];exact A) (fun _ _=>rfl));have K7:=hid (Y.setOut (b:=kb) (o:=3) (by rw[ao.out];exact au _) (.int .i64 (a:Int)));go_upto_region 32 with fail
      generalize World.setCell _ _ _=M at*;clear y3 f3 E ab c Y;obtain⟨kf,al⟩:∃kf,upd f 3 ((a:Int))=kf:=⟨_,rfl⟩
      rw[al] at R7;have L7:=hid (I.out a).2.2;have he:V 2=.slice (some ⟨u,0,none⟩) (mkI p j' k d t a).slots.length cap2:=by rw[L7.out];exact E2
      have aD:j'<(mkI p j' k d t a).slots.length:=by rw[L7.out];exact aU
      have aE:=bf.out a (au _) aD;have BD:Hid (BoxT M.drew wb tg V (mkI p j' k d t a)):=hid (B7.below (aA M 1));have KD:Hid (Kt tg tg W M.drew):=hid (K7.trans (.below (aA M 1)));have RD:Hid (M.drew.rangeAt kb 0 (cf 6 kf)):=hid (range_belowO R7 (aA M 1));obtain⟨h8,k8⟩:=BD.slotsKey he aD kf (by rw[aE, ←al];rfl) (fun x hx=>by rw[aE, ←al];unfold upd;rw[ae (by omega)]);have B8:=hid (show BoxT (M.drew.setCells u (j'*7) (cf 6 kf)) wb tg V (mkP p j' k a t) by rw[HP.out,al];exact h8);have K8:=hid (KD.trans k8);have R8:=hid (show (M.drew.setCells u (j'*7) (cf 6 kf)).rangeAt kb 0 (cf 6 kf) from fun o v hv=>k8.cell (RD.out o v hv) A);have aH:=hid (BD.slotsThere he (j'*7) 6 (by rw[L7.out];omega));have KS:=hid (fun X q (h:BoxT X wb tg V q) (hr:X.rangeAt kb 0 (cf 6 kf))=>show X.cell? ⟨wb,2,none⟩=some (.slice (some ⟨u,0,none⟩) p.slots.length cap2)∧X.rangeAt kb 0 (cf 6 kf) from⟨by rw[af h.r (k:=2) rfl,E2.out],hr⟩);clear h8 k8 he aD aE al HP;refine wp_region_held_drew (S:=fun X=>X.cell? ⟨wb,2,none⟩=some (.slice (some ⟨u,0,none⟩) p.slots.length cap2)∧X.rangeAt kb 0 (cf 6 kf)) (by kernel_rfl) (KS.out _ _ BD RD) (fun aI=>?_);have G:=hid aI;clear aI;refine tk 0 (.pointer (some ⟨wb,0,none⟩)) rfl G ?_;simp only[jj];refine tk 1 (.pointer (some ⟨wb,0,none⟩)) rfl G ?_;simp only[jj];refine tk 2 (.pointer (some ⟨wb,2,none⟩)) rfl G ?_;simp only[jj];refine dV 3 (.slice (some ⟨u,0,none⟩) p.slots.length cap2) rfl (Or.inl ⟨by rfl,fun W h=>by have h3:=h.1;clear h;go_simp⟩) G ?_;simp only[jj];refine tk 4 (.int .i64 j') rfl G ?_;simp only[jj];refine dV 5 (.agg (cf 6 kf).toArray) rfl (yieldsIf_load_mid (by rfl) _ _ rfl _ _ rfl (cf 6 kf) _ (fun _ h=>h.2) Tryz.underlying78 rfl (by rw[info6k,ax])) G ?_;simp only[jj];refine tk 6 (.pointer (some ⟨u,j'*7,none⟩)) rfl G ?_;simp only[jj];refine tk 7 (.pointer (some ⟨u,j'*7,none⟩)) rfl G ?_;simp only[jj];refine wpAnyH_ready (rs:=[8]) (by kernel_rfl) (by simp) (AllReadyH.cons rfl (fun K hK=>?_) AllReadyH.nil);refine wp_store_mid 78 _ _ rfl u (j'*7) (cf 6 kf).toArray rfl rfl (by rw[List.size_toArray,ax];exact aH) (by rw[info6k];rfl) (all_oneCell_toArray (bK 6 _)) ?_;refine hK _ _ (KS.out _ _ B8 R8) (fun _=>?_);clear hK K G
      try simp only[Act.put]
      refine dC (by kernel_rfl) ?_ _;clear KS BD KD RD B7 K7 R7 aH;generalize World.setCells _ _ _ _=W8 at*;go_wp2_with fail
      go_ret
      exact⟨by rw[g.out];rfl,tg,KR.trans K8,fun _=>⟨V,B8.out⟩,fun h=>absurd (by first|rfl|assumption|exact g) h⟩
set_option maxRecDepth 512
set_option maxHeartbeats 200000
theorem makeThings_any (n k m a:Int) (p:PW) (i:p.Fits) (hl:∀l∈p.tlbs,l.length≤100) (j:Snd p) (W:World) (wb:Nat) (tag:Nat→Nat) (V:Nat→Value) (d:BoxT W wb tag V p):
  Calls Tryz.prog 16 #[.pointer (some ⟨wb,0,none⟩),.int .i64 n,.int .i64 k,.int .i64 m,.int .i64 a] W fun r b=>r=.returned (.int .i64 (mkE p n k m a))∧∃tag',Kt tag tag' W b∧(mkE p n k m a=0→∃c,BoxT b wb tag' c (mkP p n k m a)):=(makeThings_any_all n k m a p i hl j W wb tag V d).mono fun x b h=>by
 obtain⟨e,o,f,g,_⟩:=h;exact⟨e,o,f,g⟩
end Go.Proofs.YtaejnmmpddbbjaaGreatDoor.Wd
