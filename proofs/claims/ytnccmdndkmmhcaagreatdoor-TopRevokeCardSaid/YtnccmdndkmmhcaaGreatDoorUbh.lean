/- Ubh -/
import Derived.Test.YtnccmdndkmmhcaaGreatDoorUbg
set_option maxRecDepth 100000
set_option maxHeartbeats 16000000
namespace Go.Proofs.YtnccmdndkmmhcaaGreatDoor
namespace Wd
open Go.RowKit Mem Bw Nums Mmu Hex
structure Own (w0 W:World) (wb:Nat) (tag:Nat->Nat) (V:Nat->Value) (p:PW):Prop where
 b:cb W wb tag V p
 t:∀k,k<w0.heap.size->tag k=0
 e:Below w0.heap.size w0 W
theorem Own.next {w0 W a:World} {wb:Nat} {tag:Nat->Nat} {V:Nat->Value} {p:PW} (h:Own w0 W wb tag V p) (c:Below W.heap.size W a):Own w0 a wb tag V p:=⟨h.b.below c,h.t,btr h.e c⟩
theorem Own.to {w0 W b:World} {wb:Nat} {tag tag':Nat->Nat} {V c:Nat->Value} {p p':PW} (h:Own w0 W wb tag V p) (d:cb b wb tag' c p') (hk:Kt tag tag' W b):Own w0 b wb tag' c p':=
 ⟨d,fun k a=>hk.t k (aE a h.e.size) (h.t k a),hk.k.below h.e h.e.size (fun k a e=>e (h.t k a))⟩
structure yS (ls:List ByteArray) (P:Nat->PW) (f c:Nat) (zs:List Int):Prop where
 n0:0<ls.length
 nn:ls.length<=200
 sz:∀t∈ls,t.size<=1000
 one:∃l,kQ 32 (ls.getD 0 ByteArray.empty)=⟨#[119,111,114,108,100]⟩::l∧(∀t∈l,gf t=true)∧l.length<=100∧l.map Prs.hJ=(f:Int)::(c:Int)::zs∧P 1=wlP f c zs
 num:1<=f∧f<=24∧1<=c∧c<=4∧1<=zs.length∧zs.length<=8∧∀z∈zs,0<=z∧z<=3
 all:∀i,1<=i->i<ls.length->∃x l,kQ 32 (ls.getD i ByteArray.empty)=x::l∧x≠⟨#[119,111,114,108,100]⟩∧x≠⟨#[99,111,100,101]⟩∧kj (P i) (P (i+1)) (x::l)
theorem kI (s:ByteArray) (P:Nat->PW) (f c:Nat) (zs:List Int) (w:World) (hs:s.size<=4000) (hr:yS (Prs.gy s) P f c zs) (aq:KnW w):
  Calls Tryz.prog 113 #[.string s] w fun r w'=>∃X tag,r=.returned (.tuple #[.agg (de X),.agg #[.int .i64 0,.int .i64 (-1)]])∧fS w' tag X (P (Prs.gy s).length)∧(∀k,k<w.heap.size->tag k=0)∧Below w.heap.size w w':=by
 have B0:=hid (bal (bal (af w.heap.size w) (.cells zW 28)) (.cells #[.int .i64 0,.int .i64 0] 47));have D:=hid (cw (aP w zW 28 w.heap.size 11 rfl oD) (bal (af _ _) (.cells #[.int .i64 0,.int .i64 0] 47)));have R:=hid (aP (w.alloc (.cells zW 28)) #[.int .i64 0,.int .i64 0] 47 (w.heap.size+1) 2 oS oD);have SZ:=hid (show w.heap.size+2=((w.alloc (.cells zW 28)).alloc (.cells #[.int .i64 0,.int .i64 0] 47)).heap.size by simp);have HL:=hid (fun W:World=>Prs.rB s W oA);obtain⟨ls,an⟩:∃ls,Prs.gy s=ls:=⟨_,rfl⟩
 rw[an] at HL hr ⊢;have n:=hid hr;have HK:=hid aq;have aK:(s.size:Int)<=4000:=oA;go_enter Tryz.func113,Tryz.ntmps113
 go_wp2_with fail
 refine (HL.out _).mono ?_;rintro r a ⟨lb,aL,rfl,ax,E⟩;generalize World.alloc (World.alloc w _) _=W0 at*;have L:=hid (btr B0 E);have al:=hid (cw D E);have am:=hid (cw R E);have O:=hid (show w.heap.size+2<=a.heap.size by have:=SZ.out;have:=E.size;omega);have ST:=hid ax;have T5:=hid (aP a zW 28 a.heap.size 11 rfl oD);go_upto_region 7 with (first|((with_reducible refine gst 28 ?_);refine wpList_store_mid rfl 28 _ _ rfl a.heap.size 0 zW rfl rfl T5 fA (by simp[Value.oneCell']) ?_))
 have u:=hid (World.there_setCells T5 a.heap.size 0 [.slice none 0 0,.slice none 0 0,.slice none 0 0,.slice none 0 0,.slice none 0 0,.slice none 0 0,.slice none 0 0,.slice none 0 0,.slice none 0 0,.slice none 0 0,.int .i64 0]);have KX:=hid (show Kp (fun k=>k=a.heap.size) (a.alloc (.cells zW 28)) ((a.alloc (.cells zW 28)).setCells a.heap.size 0 [.slice none 0 0,.slice none 0 0,.slice none 0 0,.slice none 0 0,.slice none 0 0,.slice none 0 0,.slice none 0 0,.slice none 0 0,.slice none 0 0,.slice none 0 0,.int .i64 0]) from aM (T:=fun k=>k=a.heap.size) (.inl rfl) _ _ _ (aV _ _));have B5:=hid (KX.below (bal (af a.heap.size a) (.cells zW 28)) oS (fun k hk e=>oA));generalize World.setCells _ _ _ _=W5 at u B5 ⊢;generalize ay:a.heap.size=wb at u ⊢;have M:=hid ay;have NN:=hid n.nn;have aQ:(ls.length:Int)<=200:=by have:=n.nn;omega
 have LS:=hid (fun W (h:Below a.heap.size a W) k (hk:k<ls.length)=>show W.cell? ⟨lb,k,none⟩=some (.string ls[k]) from by have:=ST.out k hk;rw[aC] at this;exact gU h this);have CU:=hid (fun W k (hk:k<ls.length)=>wh ls[k] 32 W (by have:=n.sz ls[k] (av hk);omega));have KN:=hid (fun W (h:Below a.heap.size a W)=>HK.below (btr L h))
 go_loopw [6,7] (fun g i wr=>∃k:Nat,k<=ls.length∧i=.int .i64 (k:Int)∧((k=0∧g=.bool false∧Hid (wr.there wb 0 11∧Below a.heap.size a wr))∨(1<=k∧g=.bool true∧∃tag V,Hid (Own a wr wb tag V (P k))))) (fun _ i _=>ls.length - (intOf i).toNat)
 case atStart=>exact⟨0,oA,rfl,.inl ⟨rfl,rfl,hid ⟨u.out,B5.out⟩⟩⟩
 case round=>
  obtain⟨k,hk,rfl,h2⟩:=hrel;rcases h2 with ⟨rfl,rfl,N⟩|⟨ao,rfl,tag,V,z⟩
  ·have n0:=n.n0;have aN:(0:Int)<(ls.length:Int):=oA;obtain⟨l,e1,aw,au,hm,eP⟩:=n.one;obtain⟨f0,f1,c0,c1,z0,z1,hz⟩:=n.num;have j:=hid (CU.out wr 0 n0);have A:=LS.out _ N.2 0 n0;rw[show ls[0]=ls.getD 0 ByteArray.empty by rw[aa,ac n0];rfl] at j A;rw[e1] at j;have ag:=hid (show 3<=l.length by have:=dF List.length hm;simp at this;omega);have WL:=hid (fun y cap W (h:fR W y 1 l)=>p9 y 1 cap f c zs l W h aw au hm f0 f1 c0 c1 z0 z1 hz);have EP:=hid eP;generalize ls.getD 0 ByteArray.empty=line at j A;have aH:(l.length:Int)<=100:=oA;go_wp2_with fail
   refine j.mono ?_;rintro r m ⟨y,J,rfl,I,F,Y⟩;obtain⟨x0,az⟩:=gK I;have ah:=hid az;have aF:¬J=1:=by have:=ag.out;simp at Y;omega
   have aJ:(1:Int)<=(l.length:Int)+1:=oA;have u:=hid (cw N.1 F);have B6:=hid (btr N.2 F);go_wp2_with fail
   refine (WL.out y (J - 1) m ah).mono ?_;rintro r w7 ⟨X,tag,rfl,hw,ad,G⟩;have T7:=hid (cw u G);have q:=hid (btr B6 G);have ai:=hid (aj _ _ (Option.isSome_iff_exists.1 (u.out 0 oA).1).choose_spec);have OW:=hid (show Own a (w7.setCells wb 0 [X 0,X 1,X 2,X 3,X 4,X 5,X 6,X 7,X 8,X 9,X 10]) wb (fun k=>if k=wb then 1 else tag k) X (P 1) from⟨by rw[EP.out];exact hw.box (ad wb ai) T7,fun k hk=>by rw[ae (by have:=M.out;omega)];exact ad k (aE hk B6.size),(aM (T:=fun k=>k=wb) (.inl rfl) _ _ _ (aV _ _)).below q q.size (fun k hk e=>by have:=M.out;omega)⟩);have p:=hid hw.Ji;go_wp2_with (first|((with_reducible refine gst 28 ?_);refine wpList_store_mid rfl 28 _ _ rfl wb 0 (de X) rfl rfl T7 fA p ?_))
   exact⟨⟨1,oA,by go_num,.inr ⟨oA,rfl,_,X,OW⟩⟩,by simp[intOf];omega⟩
  by_cases H:k<ls.length
  ·have aI:(k:Int)<(ls.length:Int):=oA;obtain⟨x,l,e1,nw,nc,bl⟩:=n.all k ao H;have j:=hid (CU.out wr k H);have A:=LS.out _ z.e k H;rw[show ls[k]=ls.getD k ByteArray.empty by rw[aa,ac H];rfl] at j A;rw[e1] at j;have BL:=hid bl;have aR:(x.toList==[119,111,114,108,100])=false:=by have:=sf nw;rw[ByteArray.toList_eq (bs:=⟨#[119,111,114,108,100]⟩)] at this;exact this
   have aO:(x.toList==[99,111,100,101])=false:=by have:=sf nc;rw[ByteArray.toList_eq (bs:=⟨#[99,111,100,101]⟩)] at this;exact this
   generalize ls.getD k ByteArray.empty=line at j A;go_wp2_with fail
   refine j.mono ?_;rintro r m ⟨y,J,rfl,I,F,Y⟩;have x0:=(gK I).1;have d:=hid (z.next F);have BC:=hid (BL.out m wb tag V y J d.b (KN.out _ d.e) I Y);go_wp2_with fail
   refine BC.mono ?_;rintro r w7 ⟨rfl,aA,V2,G,ap⟩;have p:=hid (d.to G ap);go_wp2_with fail
   exact⟨⟨k+1,oA,by go_num,.inr ⟨oA,rfl,aA,V2,p⟩⟩,by simp[intOf];omega⟩
  obtain rfl:k=ls.length:=oA;have aG:¬((ls.length:Int)<(ls.length:Int)):=oA;go_upto_region 26 with fail
  have L0:=hid (show w.heap.size<a.heap.size by have:=O.out;omega);have L1:=hid (show w.heap.size+1<a.heap.size by have:=O.out;omega);have aB:=hid (show w.heap.size≠wb∧w.heap.size+1≠wb by have:=O.out;have:=M.out;omega);have BE:=hid (aD wr 1);have OS:=hid z.b.o.Ji;have R5:=hid z.b.r;refine wp_region_held_drew (S:=fun W=>W.rangeAt wb 0 (de V).toList) oK (bf R5 BE) (fun hH=>?_);refine tg 0 (.agg (de V)) rfl (yieldsIf_load_mid oR _ _ rfl _ _ rfl (de V).toList _ (fun _ h=>h) Tryz.underlying28 rfl fA) hH ?_;simp only[jj];refine wpAnyH_ready (rs:=[1]) oK oS (AllReadyH.cons rfl (fun K B=>?_) AllReadyH.nil);refine wnt oR ?_;simp only[dc,bC,bh];go_simp
  refine (qD _).mono ?_;rintro e m ⟨rfl,hb⟩;have d:=hid (z.next (btr BE hb));have D:=hid (cw al d.e);have R:=hid (cw am d.e);refine B _ _ d.b.r (fun _=>?_);have Z:Kp (fun k=>k=w.heap.size) m (m.setCells w.heap.size 0 (de V).toList):=aM (T:=fun k=>k=w.heap.size) (.inl rfl) _ _ _ (aV _ _);have p:=hid (d.b.kp Z (fun k _ e=>by rw[e];exact d.t _ L0) (fun _ _=>rfl));have TZ:=hid d.t;have q:=hid (Z.below (btr L d.e) (btr L d.e).size (fun k hk e=>oA));have U:=hid (eg R Z oA);have Q7:=hid (World.rangeAt_setCells_same m w.heap.size 0 (de V).toList D);refine wpAnyH_ready (rs:=[2]) oK oS (AllReadyH.cons rfl (fun K B=>?_) AllReadyH.nil);refine wnt oR ?_;simp only[dc,bC,bh];refine wp_store_mid 28 _ _ rfl w.heap.size 0 (de V) rfl rfl D fA OS ?_;generalize m.setCells w.heap.size 0 (de V).toList=C at p q U Q7 ⊢;refine B _ _ p.r (fun _=>?_);have ab:Kp (fun k=>k=w.heap.size+1) C (C.setCells (w.heap.size+1) 0 [.int .i64 0,.int .i64 (-1)]):=aM (T:=fun k=>k=w.heap.size+1) (.inl rfl) _ _ _ (aV _ _);have Q:=hid (p.kp ab (fun k _ e=>by rw[e];exact TZ _ L1) (fun _ _=>rfl));have B8:=hid (ab.below q q.size (fun k hk e=>oA));have Q8:=hid (eM Q7 ab oA);have P8:=hid (World.rangeAt_setCells_same C (w.heap.size+1) 0 [.int .i64 0,.int .i64 (-1)] U.out);refine wpAnyH_ready (rs:=[3]) oK oS (AllReadyH.cons rfl (fun K B=>?_) AllReadyH.nil);refine wnt oR ?_;simp only[dc,bC,bh];refine uP rfl (w.heap.size+1) rfl rfl U ?_;generalize C.setCells (w.heap.size+1) 0 [.int .i64 0,.int .i64 (-1)]=W8 at Q B8 Q8 P8 ⊢;refine B _ _ Q.r (fun _=>?_);refine dw oK ?_ _;go_wp2_with fail
  exact ar (v:=.tuple #[.agg (de V),.agg #[.int .i64 0,.int .i64 (-1)]]) (nf rfl rfl (run_loadVar_mid _ w.heap.size 0 28 (de V).toList _ Q8 Tryz.underlying28 rfl fA) rfl (run_loadVar_mid _ (w.heap.size+1) 0 47 [.int .i64 0,.int .i64 (-1)] _ P8 Tryz.underlying47 rfl jG)) rfl ⟨V,rfl,tag,Q.o,fun k hk=>TZ.out k (by have:=L0.out;omega),B8.out⟩
def tQ (p:PW):Bool:=decide (p.IL.length<=1000)&&(decide (p.kinds.length<=1000)&&(decide (p.IH.length<=1000)&&(decide (p.II.length<=1000)&&(decide (p.lines.length<=1000)&&(p.lines.all (fun l=>decide (l.length<=1000))&&(decide (p.bits.length<=1000)&&(decide (p.IJ.length<=1000)&&(decide (p.ready.length<=1000)&&(p.ready.all (fun l=>decide (l.length<=1000))&&(decide (p.IK.length<=1000)&&(decide (p.IQ.length<=1000)&&p.IK.all (fun l=>decide (l.length<=100)))))))))))))
theorem lF {p:PW} (h:tQ p=true):p.Fits∧∀l∈p.IK,l.length<=100:=by
 unfold tQ at h;simp only[am,bg,aU] at h;obtain⟨a,f,g,i,j,k,m,n,o,b,c,d,e⟩:=h;exact⟨⟨a,f,g,i,j,k,m,n,o,b,c,d⟩,e⟩
def uD (a b:ByteArray):Bool:=a.data.toList==b.data.toList
theorem j8 {a b:ByteArray} (h:uD a b=true):a=b:=mr (by unfold uD at h;simpa using h)
theorem tc {a b:ByteArray} (h:uD a b=false):a≠b:=fun e=>by subst e;unfold uD at h;simp at h
def nat (t:ByteArray):Nat:=(Prs.hJ t).toNat
def lJ (t:ByteArray):Bool:=decide (0<=Prs.hJ t)
theorem xQ {t:ByteArray} (h:lJ t=true):gf t=true∧Prs.hJ t=(nat t:Int):=by
 unfold lJ at h;have:=aA h;refine⟨?_,by unfold nat;omega⟩;unfold gf;rw[cF];exact .inr h
theorem _root_.Go.Proofs.YtnccmdndkmmhcaaGreatDoor.dQ:type_of% @xQ:= @xQ
def clC (p:PW) (s b n:Nat):Bool:=tQ p&&(decide (p.IH.length=p.kinds.length*16)&&(decide (s<p.IH.length)&&(decide (opE p s=0)&&(decide (1<=n)&&(decide (b+n<=p.kinds.length)&&((List.range n).all (fun d=>p.kinds.getD (b+d) 0==0)&&p.IH.all (fun s=>s 0 !=1)))))))
theorem Eo {p:PW} {b a c:ByteArray} (d:lJ b=true) (e:lJ a=true) (g:lJ c=true) (h:clC p (nat b) (nat a) (nat c)=true):kj p {p with IH:=p.IH.set (nat b) (clk (nat a) (nat c))} [⟨#[99,108,97,121]⟩,b,a,c]:=by
 unfold clC at h;simp only[am,bg,aU,List.mem_range,bz,bne_iff_ne] at h;obtain⟨a1,k,l,m,n,o,q,r⟩:=h;obtain⟨u,hl⟩:=lF a1;refine Gn u hl (fun t j=>?_) (by simp only[cd,eQ,(dQ d).2,(dQ e).2,(dQ g).2]) k l m n o (fun f s b1 b2=>?_) (fun i hi=>r _ (av hi))
 ·simp only[bK,dA,or_false] at j;rcases j with rfl|rfl|rfl
  ·exact (dQ d).1
  ·exact (dQ e).1
  ·exact (dQ g).1
 ·have:=q (f - nat a) oA;rw[show nat a+(f - nat a)=f by omega,aa,ac s] at this;exact this
def mkC (p:PW) (kk:Nat) (xk:ByteArray) (n m t:Int):Bool:=tQ p&&(p4 p&&(decide (kk<knB.length)&&(uD (knB.getD kk ByteArray.empty) xk&&((List.range kk).all (fun j=> !uD (knB.getD j ByteArray.empty) xk)&&decide (mkE p n (2+(kk:Int)) m t=0)))))
theorem Fv {p:PW} {f:Nat} {g a b c:ByteArray} (n:gf a=true) (o:gf b=true) (q:gf c=true) (h:mkC p f g (Prs.hJ a) (Prs.hJ b) (Prs.hJ c)=true):kj p (mkP p (Prs.hJ a) (2+(f:Int)) (Prs.hJ b) (Prs.hJ c)) [⟨#[109,97,107,101]⟩,g,a,b,c]:=by
 unfold mkC at h;simp only[am,bg,aU,List.mem_range,dD] at h;obtain⟨a1,i,d,k,l,m⟩:=h;obtain⟨u,hl⟩:=lF a1;refine Gr u hl (kM i) d ?_ (fun j r s=>?_) (fun t e=>?_) rfl m
 ·have:=j8 k;rw[aa,ac d] at this;exact this
 ·have:=tc (l j s);rw[aa,ac r] at this;exact this
 ·simp only[bK,dA,or_false] at e;rcases e with rfl|rfl|rfl
  ·exact n
  ·exact o
  ·exact q
def cpC (p:PW) (i j r g:Nat) (s:Nat->Int):Bool:=tQ p&&(decide (p.IH.length=p.kinds.length*16)&&(decide (boE p i j=0)&&(decide (i<p.IH.length)&&(decide (j<p.IH.length)&&(decide (s 0≠1)&&(decide (r<=7)&&(decide (g<=65535)&&((decide (g=0)||(decide (0<g)&&((decide (s 0=7)||decide (s 0=8))&&decide (s 5=0))))&&(decide (0<=s 4)&&decide (s 4<=7))))))))))
theorem Ep {p:PW} {a b c d:ByteArray} (f:lJ a=true) (g:lJ b=true) (i:lJ c=true) (j:lJ d=true) (h:cpC p (nat a) (nat b) (nat c) (nat d) (p.IH.getD (nat a) ft)=true):
  kj p {p with IH:=p.IH.set (nat b) (kpS (p.IH.getD (nat a) ft) (Bw.bw 6 ((p.IH.getD (nat a) ft) 4).toNat (nat c):Nat) (nat d) (nat a))} [⟨#[99,111,112,121]⟩,a,b,c,d]:=by
 unfold cpC at h;simp only[am,cF,bg] at h;obtain⟨a1,l,m,e,n,o,q,r,s,v,w⟩:=h;obtain⟨u,hl⟩:=lF a1;refine Gp u hl (fun t k=>?_) (by simp only[cd,eQ,(dQ f).2,(dQ g).2,(dQ i).2,(dQ j).2]) l m e n (by rw[aa,ac e];rfl) o q r s oA oA;simp only[bK,dA,or_false] at k;rcases k with rfl|rfl|rfl|rfl
 ·exact (dQ f).1
 ·exact (dQ g).1
 ·exact (dQ i).1
 ·exact (dQ j).1
def etC (p:PW) (s g f wr:Nat):Bool:=tQ p&&(decide (fmE p s 4=0)&&(decide (g<=255)&&(decide (wr<=1)&&(decide (f<p.kinds.length)&&(decide (p.IL.length=p.kinds.length*16)&&(decide (p.kinds.getD f 0=3)&&decide (p.IL.getD (s*16+g/16) 0=0)))))))
theorem EE {p:PW} {a b c d:ByteArray} (e:lJ a=true) (f:lJ b=true) (g:lJ c=true) (i:lJ d=true) (h:etC p (nat a) (nat b) (nat c) (nat d)=true):
  kj p {p with IL:=p.IL.set (nat a*16+nat b/16) (32768+(nat c:Int))} [⟨#[101,110,116,101,114]⟩,a,b,c,d]:=by
 unfold etC at h;simp only[am,bg] at h;obtain⟨a1,k,l,m,n,o,q,r⟩:=h;obtain⟨s,hl⟩:=lF a1;refine BH s hl (fun t j=>?_) (by simp only[cd,eQ,(dQ e).2,(dQ f).2,(dQ g).2,(dQ i).2]) k l m n o q r;simp only[bK,dA,or_false] at j;rcases j with rfl|rfl|rfl|rfl
 ·exact (dQ e).1
 ·exact (dQ f).1
 ·exact (dQ g).1
 ·exact (dQ i).1
def epC (p:PW) (s g f wr ev:Nat):Bool:=tQ p&&(decide (fmE p s 4=0)&&(decide (g<=255)&&(decide (wr<=1)&&(decide (f<p.kinds.length)&&(decide (p.IL.length=p.kinds.length*16)&&(decide (p.kinds.getD f 0=2)&&(decide (p.IL.getD (s*16+g/16) 0=(ev:Int))&&(decide (0<ev)&&(decide (ev<=65535)&&(decide (ev%1024*16+g%16<p.IL.length)&&decide (p.IL.getD (ev%1024*16+g%16) 0=0)))))))))))
theorem Ey {p:PW} {d a b c:ByteArray} {e:Nat} (f:lJ d=true) (g:lJ a=true) (i:lJ b=true) (j:lJ c=true) (h:epC p (nat d) (nat a) (nat b) (nat c) e=true):
  kj p {p with IL:=p.IL.set (e%1024*16+nat a%16) (32768+(nat c:Int)*16384+(nat b:Int))} [⟨#[101,110,116,101,114]⟩,d,a,b,c]:=by
 unfold epC at h;simp only[am,bg] at h;obtain⟨a1,o,q,r,s,u,v,w,x,l,m,n⟩:=h;obtain⟨y,hl⟩:=lF a1;refine BF y hl (fun t k=>?_) (by simp only[cd,eQ,(dQ f).2,(dQ g).2,(dQ i).2,(dQ j).2]) o q r s u v w x l m n;simp only[bK,dA,or_false] at k;rcases k with rfl|rfl|rfl|rfl
 ·exact (dQ f).1
 ·exact (dQ g).1
 ·exact (dQ i).1
 ·exact (dQ j).1
def six (a b c d e f:ByteArray) (k:Nat):Int:=[0,Prs.hJ a,Prs.hJ b,Prs.hJ c,Prs.hJ d,Prs.hJ e,Prs.hJ f].getD k 0
def eqC (p:PW) (t:Nat) (N:Nat->Int):Bool:=tQ p&&(decide (fmE p t 6=0)&&(decide (t<p.II.length)&&((decide (N 1= -1)||decide (fmE p (N 1) (eqK 1)=0))&&((decide (N 2= -1)||decide (fmE p (N 2) (eqK 2)=0))&&((decide (N 3= -1)||decide (fmE p (N 3) (eqK 3)=0))&&(decide (0<=N 4)&&(decide (N 4<p.IJ.length)&&(decide (0<=N 5)&&(decide (N 5<=3)&&(decide (0<=N 6)&&(decide (N 6<=3)&&decide ((p.II.getD t bl) 9=0))))))))))))
theorem EC {p:PW} {a b c d e f g:ByteArray} (m:lJ a=true) (A:gf b=true) (B:gf c=true) (C:gf d=true) (D:gf e=true) (E:gf f=true) (F:gf g=true) (h:eqC p (nat a) (six b c d e f g)=true):
  kj p (eqP p (nat a) (six b c d e f g)) [⟨#[101,113,117,105,112]⟩,a,b,c,d,e,f,g]:=by
 unfold eqC at h;simp only[am,cF,bg] at h;obtain⟨a1,s,l,u,v,w,x,y,z,o,q,r,j⟩:=h;obtain⟨H,hl⟩:=lF a1;refine DY H hl (fun t n=>?_) (by simp only[cd,eQ,(dQ m).2];rfl) s l (fun k k1 I i=>?_) x y z o q r (by rw[aa,ac l] at j;exact j)
 ·simp only[bK,dA,or_false] at n;rcases n with rfl|rfl|rfl|rfl|rfl|rfl|rfl
  ·exact (dQ m).1
  ·exact A
  ·exact B
  ·exact C
  ·exact D
  ·exact E
  ·exact F
 ·have G:k=1∨k=2∨k=3:=oA;rcases G with rfl|rfl|rfl
  ·exact u.resolve_left i
  ·exact v.resolve_left i
  ·exact w.resolve_left i
def Ia (x:ByteArray):Nat:=(knB.map (uD x)).idxOf true
def vC (p:PW):List ByteArray->Option PW
 |[x,a,b,c]=>if uD ⟨#[99,108,97,121]⟩ x&&(lJ a&&(lJ b&&(lJ c&&clC p (nat a) (nat b) (nat c)))) then some {p with IH:=p.IH.set (nat a) (clk (nat b) (nat c))} else none
 |[x,a,b,c,d]=>
  if uD ⟨#[109,97,107,101]⟩ x then (if gf b&&(gf c&&(gf d&&mkC p (Ia a) a (Prs.hJ b) (Prs.hJ c) (Prs.hJ d))) then some (mkP p (Prs.hJ b) (2+(Ia a:Int)) (Prs.hJ c) (Prs.hJ d)) else none)
  else if lJ a&&(lJ b&&(lJ c&&lJ d)) then
   (if uD ⟨#[99,111,112,121]⟩ x then (if cpC p (nat a) (nat b) (nat c) (nat d) (p.IH.getD (nat a) ft) then some {p with IH:=p.IH.set (nat b) (kpS (p.IH.getD (nat a) ft) (Bw.bw 6 ((p.IH.getD (nat a) ft) 4).toNat (nat c):Nat) (nat d) (nat a))} else none)
   else if uD ⟨#[101,110,116,101,114]⟩ x then
    (if etC p (nat a) (nat b) (nat c) (nat d) then some {p with IL:=p.IL.set (nat a*16+nat b/16) (32768+(nat c:Int))}
    else if epC p (nat a) (nat b) (nat c) (nat d) (p.IL.getD (nat a*16+nat b/16) 0).toNat then some {p with IL:=p.IL.set ((p.IL.getD (nat a*16+nat b/16) 0).toNat%1024*16+nat b%16) (32768+(nat d:Int)*16384+(nat c:Int))} else none)
   else none)
  else none
 |[x,a,b,c,d,e,f,g]=>if uD ⟨#[101,113,117,105,112]⟩ x&&(lJ a&&(gf b&&(gf c&&(gf d&&(gf e&&(gf f&&(gf g&&eqC p (nat a) (six b c d e f g)))))))) then some (eqP p (nat a) (six b c d e f g)) else none
 |_=>none
theorem At {p p':PW}:∀{xs:List ByteArray},vC p xs=some p'->kj p p' xs
 |[x,a,b,c],h=>by
  rw[vC] at h;split at h
  ·rename_i hc;simp only[am] at hc;obtain⟨i,j,k,l,m⟩:=hc
   cases h
   rw[<-j8 i];exact Eo j k l m
  ·cases h
 |[x,a,b,c,d],h=>by
  rw[vC] at h;split at h
  ·rename_i hx;split at h
   ·rename_i hc;simp only[am] at hc;obtain⟨i,j,k,l⟩:=hc
    cases h
    rw[<-j8 hx];exact Fv i j k l
   ·cases h
  ·split at h
   ·rename_i hn;simp only[am] at hn;obtain⟨i,j,k,l⟩:=hn;split at h
    ·rename_i hx;split at h
     ·rename_i hc
      cases h
      rw[<-j8 hx];exact Ep i j k l hc
     ·cases h
    ·split at h
     ·rename_i hx;split at h
      ·rename_i hc
       cases h
       rw[<-j8 hx];exact EE i j k l hc
      ·split at h
       ·rename_i hc
        cases h
        rw[<-j8 hx];exact Ey i j k l hc
       ·cases h
     ·cases h
   ·cases h
 |[x,a,b,c,d,e,f,g],h=>by
  rw[vC] at h;split at h
  ·rename_i hc;simp only[am] at hc;obtain⟨i,j,k,l,m,n,o,q,r⟩:=hc
   cases h
   rw[<-j8 i];exact EC j k l m n o q r
  ·cases h
 |[],h=>by cases h
 |[_],h=>by cases h
 |[_,_],h=>by cases h
 |[_,_,_],h=>by cases h
 |[_,_,_,_,_,_],h=>by cases h
 |[_,_,_,_,_,_,_],h=>by cases h
 |_::_::_::_::_::_::_::_::_::_,h=>by cases h
def vM:List (List ByteArray)->PW->Nat->Option PW
 |[],p,_=>some p
 |_::_,p,0=>some p
 |xs::r,p,n+1=>match vC p xs with
  |some q=>vM r q n
  |none=>none
theorem nh:∀{a:List (List ByteArray)} {p p':PW} {n:Nat} {xs:List ByteArray},a[n]? =some xs->vM a p (n+1)=some p'->∃q,vM a p n=some q∧vC q xs=some p'
 |[],_,_,_,_,h,_=>by simp at h
 |ys::r,p,p',0,xs,h,hr=>by
  simp at h;subst h;unfold vM at hr;split at hr
  ·rename_i q hq;have:q=p':=by cases r<;>(unfold vM at hr;cases hr;rfl)
   subst this;exact⟨p,by unfold vM;rfl,hq⟩
  ·cases hr
 |ys::r,p,p',n+1,xs,h,hr=>by
  simp only[aX] at h;unfold vM at hr;split at hr
  ·rename_i q hq;obtain⟨d,b,c⟩:=nh h hr;refine⟨d,?_,c⟩;unfold vM;rw[hq];exact b
  ·cases hr
theorem pU {b:List (List ByteArray)} {p:PW}:∀{n:Nat} {a:PW},n<=b.length->vM b p n=some a->∀m,m<=n->∃q,vM b p m=some q
 |0,a,_,h,m,hm=>by
  obtain rfl:m=0:=oA;exact⟨a,h⟩
 |n+1,a,hn,h,m,hm=>by
  by_cases e:m=n+1
  ·subst e;exact⟨a,h⟩
  ·obtain⟨q,c,_⟩:=nh (ac (show n<b.length by omega)) h;exact pU oA c m oA
def ye:List ByteArray->Bool
 |x::_=> !uD x ⟨#[119,111,114,108,100]⟩&& !uD x ⟨#[99,111,100,101]⟩
 |[]=>false
def fX (ls:List ByteArray) (p1:PW) (i:Nat):PW:=(vM ((ls.drop 1).map (kQ 32)) p1 (i - 1)).getD p1
theorem uw {ls:List ByteArray} {f c:Nat} {zs:List Int} {l:List ByteArray} (n0:0<ls.length) (nn:ls.length<=200) (sz:ls.all (fun t=>decide (t.size<=1000))=true) (e1:kQ 32 (ls.getD 0 ByteArray.empty)=⟨#[119,111,114,108,100]⟩::l) (n:∀t∈l,gf t=true) (hl:l.length<=100) (m:l.map Prs.hJ=(f:Int)::(c:Int)::zs)
  (num:1<=f∧f<=24∧1<=c∧c<=4∧1<=zs.length∧zs.length<=8∧∀z∈zs,0<=z∧z<=3) (o:((ls.drop 1).map (kQ 32)).all ye=true) (p:(vM ((ls.drop 1).map (kQ 32)) (wlP f c zs) (ls.length - 1)).isSome=true):yS ls (fX ls (wlP f c zs)) f c zs:=by
 obtain⟨v,h⟩:=Option.isSome_iff_exists.1 p;have b:((ls.drop 1).map (kQ 32)).length=ls.length - 1:=oS;refine⟨n0,nn,fun t r=>aA (aU.1 sz t r),⟨l,e1,n,hl,m,?_⟩,num,fun i s d=>?_⟩
 ·unfold fX;obtain⟨q,u⟩:=pU (by rw[b];exact aq _) h 0 oA
  cases hx:(ls.drop 1).map (kQ 32)<;>rfl
 ·have hi:i - 1<((ls.drop 1).map (kQ 32)).length:=by rw[b];omega
  have g:((ls.drop 1).map (kQ 32))[i - 1]? =some (kQ 32 (ls.getD i ByteArray.empty)):=by
   rw[db,dL,show 1+(i - 1)=i by omega,ac d,aa,ac d];rfl
  obtain⟨p2,e⟩:=pU (by rw[b];exact aq _) h (i - 1+1) oA;obtain⟨q,j,k⟩:=nh g e;have a:=aU.1 o _ (ef g);have w1:fX ls (wlP f c zs) i=q:=by unfold fX;rw[j];rfl
  have w2:fX ls (wlP f c zs) (i+1)=p2:=by unfold fX;rw[show i+1 - 1=i - 1+1 by omega,e];rfl
  rw[w1,w2];generalize kQ 32 (ls.getD i ByteArray.empty)=xs at*
  cases xs with
  |nil=>unfold ye at a;cases a
  |cons x l=>
   unfold ye at a;simp only[am,dD] at a;exact⟨x,l,rfl,tc a.1,tc a.2,At k⟩
def A3:ByteArray:=⟨#[119,111,114,108,100,32,50,52,32,50,32,48,10,99,108,97,121,32,49,32,49,32,50,48,10,109,97,107,101,32,110,111,100,101,32,49,32,49,32,50,10,109,97,107,101,32,115,112,97,99,101,32,49,32,49,32,51,10,109,97,107,101,32,116,97,98,108,101,32,49,32,49,32,52,10,109,97,107,101,32,112,97,103,101,32,49,32,52,32,53,10,109,97,107,101,32,116,97,115,107,32,49,32,50,32,57,10,109,97,107,101,32,100,111,111,114,32,49,32,49,32,49,49,10,109,97,107,101,32,98,101,108,108,32,49,32,49,32,49,50,10,99,111,112,121,32,49,49,32,49,54,32,55,32,53,10,99,111,112,121,32,49,50,32,49,55,32,55,32,50,10,99,111,112,121,32,49,48,32,49,56,32,55,32,48,10,99,111,112,121,32,55,32,49,57,32,51,32,48,10,99,111,112,121,32,51,32,50,48,32,55,32,48,10,99,111,112,121,32,52,32,50,49,32,55,32,48,10,99,111,112,121,32,50,32,50,50,32,55,32,48,10,99,111,112,121,32,57,32,50,51,32,54,32,48,10,101,110,116,101,114,32,50,32,48,32,51,32,48,10,101,110,116,101,114,32,50,32,48,32,52,32,48,10,101,110,116,101,114,32,50,32,49,32,53,32,48,10,101,110,116,101,114,32,50,32,50,32,54,32,49,10,101,113,117,105,112,32,56,32,48,32,50,32,45,32,48,32,49,32,48,10,101,113,117,105,112,32,57,32,49,32,50,32,49,48,32,49,32,50,32,48,10]⟩
def IB:PW:=fX (Prs.gy A3) (wlP 24 2 [0]) (Prs.gy A3).length
theorem xW:yS (Prs.gy A3) (fX (Prs.gy A3) (wlP 24 2 [0])) 24 2 [0]:=
 uw (l:=[⟨#[50,52]⟩,⟨#[50]⟩,⟨#[48]⟩]) (aA oK) (aA oK) oK oK oD oD oK oD oK oK
