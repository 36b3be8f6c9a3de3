/- Qbr -/
import Derived.Test.YtnccmdndkmmhcaaGreatDoorRows
import Derived.ChangeSame
import Derived.ChangeVars
import Derived.JoinedOf
import Derived.RowKit
import Derived.RowKitTokens
import Derived.LaidLaws
import Derived.LaidHandle
import Derived.Stop.Joined
import Derived.ProofKit
import Derived.OpenShut
import Derived.Deep.Slices
import Derived.Lib.SmallJoins
import Derived.Test.YtnccmdndkmmhcaaGreatDoorQbq
set_option maxRecDepth 100000
set_option maxHeartbeats 16000000
namespace Go.Proofs.YtnccmdndkmmhcaaGreatDoor
namespace Wd
open Go.RowKit Mem Bw Nums Mmu Hex Mad
def Bks (W:World) (l:List (Nat×(Nat->Value)×PW)):Prop:=∀x∈l,W.rangeAt x.1 0 (de x.2.1).toList∧fp W x.2.1 x.2.2
theorem Bks.below {W a:World} {l:List (Nat×(Nat->Value)×PW)} (h:Bks W l) (b:Below W.heap.size W a):Bks a l:=fun x c=>⟨bK (h x c).1 b,(h x c).2.below b⟩
theorem Bks.cons {W:World} {l:List (Nat×(Nat->Value)×PW)} (h:Bks W l) {b:Nat} {X:Nat->Value} {p:PW} (r:W.rangeAt b 0 (de X).toList) (v:fp W X p):Bks W ((b,X,p)::l):=fun x a=>by
 rcases bL.1 a with rfl|a
 ·exact⟨r,v⟩
 ·exact h x a
theorem Bks.one {W:World} {b:Nat} {X:Nat->Value} {p:PW} (r:W.rangeAt b 0 (de X).toList) (v:fp W X p):Bks W [(b,X,p)]:=Bks.cons (fun _ h=>by cases h) r v
theorem Cv {q:PW} (h:Lw q) (n:Nat):q.s n 0=0∨1<=q.s n 0:=by
 obtain⟨r,a⟩:=h.m.keys;by_cases e:q.s n 0=0
 ·exact .inl e
 ·exact .inr (by have:=(lM (a.key n e).c e).k;omega)
theorem FG {s:Nat->Int} (f:Int) (h:s 0=0∨1<=s 0):opn f s=(decide (1<s 0)&&(s 1==f)):=by
 unfold opn
 congr 1
 by_cases g:1<s 0
 ·rw[az g,show (s 0 !=0)=true by simp;omega,show (s 0 !=1)=true by simp;omega];rfl
 ·rw[aw g];rcases h with h|h
  ·rw[h];rfl
  ·rw[show s 0=1 by omega];rfl
theorem uf {q:PW} {f:Int} {K n:Nat} (h:0<K↔∃j,j<n∧opn f (q.s j)=true) (g:opn f (q.s n)=false):0<K↔∃j,j<n+1∧opn f (q.s j)=true:=by
 rw[h];refine⟨fun ⟨j,a,b⟩=>⟨j,oA,b⟩,fun ⟨j,a,b⟩=>⟨j,?_,b⟩⟩;rcases Nat.lt_or_eq_of_le (Nat.le_of_lt_succ a) with e|e
 ·exact e
 ·subst e;rw[g] at b;cases b
theorem Az (W:World) (f:Nat->Int):Below W.heap.size W ((W.alloc (.cells zT 37)).setCells W.heap.size 0 (cf 20 f))∧((W.alloc (.cells zT 37)).setCells W.heap.size 0 (cf 20 f)).rangeAt W.heap.size 0 (cf 20 f):=
 ⟨bR (bal (af W.heap.size W) (.cells zT 37)) (aq _) (cf 20 f) 0,World.rangeAt_setCells_same _ W.heap.size 0 (cf 20 f) (by rw[ay];exact aP W zT 37 W.heap.size 20 rfl oD)⟩
theorem Ag {q:PW} (h:Lw q) {f i:Nat} (g:opn (f:Int) (q.s i)=true):q.k f≠0:=fun e=>by
 rw[zh h e i] at g;cases g
theorem sU (v:Value) (rs:List Int) (wh M sl:Int) (w:World) (hv:oB w v rs) (h0: -9223372036854775808<=wh) (h1:wh<=9223372036854775807) (d0: -9223372036854775808<=M) (d1:M<=9223372036854775807) (bj: -9223372036854775808<=sl) (bk:sl<=9223372036854775807) (hk:KnW w):
  Calls Tryz.prog 7 #[v,.int .i64 wh,.int .i64 M,.int .i64 sl] w fun r w'=>r=.returned (.bool true)∧Below w.heap.size w w':=by
 have HV:=hid hv;have HK:=hid hk;obtain⟨q,b,off,cap,ev,hq,hi,C⟩:=hv;subst ev;by_cases hr:256<rs.length
 ·have bg:(256:Int)<(rs.length:Int):=oA;go_enter Tryz.func7,Tryz.ntmps7
  go_wp2_with fail
  go_ret
  exact⟨rfl,af _ _⟩
 have bg:¬(256:Int)<(rs.length:Int):=oA;have PK:=hid (fun W:World=>ef M 14 W d0 d1 oD);have PB:=hid (cD M 14 oD);have aG:=hid (fun W:World=>ef sl 60 W bj bk oD);have an:=hid (cD sl 60 oD);generalize fS M 14=dq at PK PB;obtain⟨dn,rfl⟩:∃u:Nat,dq=u:=⟨dq.toNat,by have:=PB.out;omega⟩
 generalize fS sl 60=aH at aG an;obtain⟨n0,rfl⟩:∃u:Nat,aH=u:=⟨aH.toNat,by have:=an.out;omega⟩
 have bV:(n0:Int)<60:=by have:=an.out;omega
 have LL:=hid (zU (.slice q rs.length cap) rs wh dn 18 w HV oA h0 h1 (by have:=PB.out;omega) oD oD HK);go_enter Tryz.func7,Tryz.ntmps7
 go_wp2_with fail
 refine (PK.out _).mono ?_;rintro r w' ⟨rfl,rfl⟩;go_wp2_with fail
 refine LL.mono ?_;rintro r w3 ⟨X,rest⟩;obtain⟨p,rfl,wx,hl,o1,aI⟩:∃p,r=.returned (.agg (de X))∧fp w3 X p∧Lv p∧Hid ((de X).all (·.oneCell')=true)∧Below w.heap.size w w3:=by
  obtain⟨tag,p,P⟩:=rest;exact⟨p,P.1,P.2.1.v P.2.2.1.w.I0,P.2.2.1,hid P.2.1.Jb,P.2.2.2.2⟩
 have T:=hid hl;have B1:=hid aI;have T7:=hid (aP w3 zW 28 w3.heap.size 11 rfl oD);have y:=hid (vS wx);go_upto_region 4 with ((with_reducible refine gst 28 ?_);refine wpList_store_mid rfl 28 _ _ rfl w3.heap.size 0 (de X) rfl rfl T7 fD o1 ?_)
 have D:=hid (Bks.one y.2.1 y.2.2.2);have F:=hid (btr B1 y.1);generalize World.setCells _ _ _ _=w2 at D F ⊢;clear T7 y B1 PK PB aI wx hl;generalize w3.heap.size=b7 at*;have V:=hid (show (b7,X,p)∈[(b7,X,p)] from cC ..);have CA:=hid (yg T X w2 (D.out _ V).2);go_wp2_with fail
 refine (aG.out _).mono ?_;rintro r w' ⟨rfl,rfl⟩;go_upto_region 5 with fail
 go_wp2_with ((with_reducible refine gld 28 ?_);refine jt rfl _ rfl b7 rfl X (D.out _ V).1 ?_)
 refine (CA.out _).mono ?_;rintro r wa ⟨Y,e,q,rfl,hy,hq,aq⟩;have HQ:=hid hq;have O8:=hid hy.Jb;have y:=hid (vS hy);have T8:=hid (aP wa zW 28 wa.heap.size 11 rfl oD);replace D:=hid ((D.below aq).below y.1);replace F:=hid (btr (btr F aq) y.1);have A:=hid y.2.1;have B:=hid y.2.2.2;go_upto_region 6 with ((with_reducible refine gst 28 ?_);refine wpList_store_mid rfl 28 _ _ rfl wa.heap.size 0 (de Y) rfl rfl T8 fD O8 ?_)
 generalize World.setCells _ _ _ _=w4 at D F A B ⊢;clear T8 y O8 CA aq hy hq;generalize wa.heap.size=b8 at*;by_cases he:e=0
 rotate_left
 ·rw[GI he];have OK:=hid (F2 X p w4 (D.out _ V).2 T.w.fits T.s0 (by have:=T.w.m.tk.lf.k1;omega));go_wp2_with ((with_reducible refine gld 28 ?_);refine jt rfl _ rfl b7 rfl X (D.out _ V).1 ?_)
  refine OK.mono ?_;rintro r wc ⟨rfl,C⟩;have B9:=hid (btr F C);go_wp2_with fail
  go_ret
  exact⟨rfl,B9.out⟩
 obtain rfl:=he;rw[GH];have o:=hid (HQ.out rfl);clear HQ;have OK:=hid (F2 Y q w4 B o.w.fits o.s0 (by have:=o.w.m.tk.lf.k1;omega));go_wp2_with ((with_reducible refine gld 28 ?_);refine jt rfl _ rfl b8 rfl Y A ?_)
 refine OK.mono ?_;rintro r a ⟨rfl,C⟩;replace F:=hid (btr F C);replace A:=hid (bK A C);replace B:=hid (B.below C);clear C OK D V T;have Q:=hid o.w.fits;have lf:=o.w.m.tk.lf;have bG:=lf.k1;have bI:=lf.k2;have bR:=lf.IA;have bT:=lf.IB;have bN:=lf.lines;have bS:=lf.ID;have bC:=lf.c2;obtain⟨q1,b1,o1,k1,e1,aM,aU⟩:=B.kinds;obtain rfl:=aM oA;obtain⟨q2,b2,o2,k2,e2,aN,aV⟩:=B.IA;obtain rfl:=aN oA;obtain⟨q3,b3,E,k3,e3,aO,aW⟩:=B.IB;obtain rfl:=aO oA;obtain⟨q4,b4,I,k4,e4,aQ,aX⟩:=B.lines;obtain rfl:=aQ oA;obtain⟨q8,b9,o8,k8,e8,aR,aY⟩:=B.ID;obtain rfl:=aR (by have:=lf.c1;omega);have C1:=hid (show a.cell? ⟨b8,1,none⟩=some (.slice (some ⟨b1,o1,none⟩) q.kinds.length k1) by rw[<-e1];exact ai A (k:=1) rfl);have C2:=hid (show a.cell? ⟨b8,2,none⟩=some (.slice (some ⟨b2,o2,none⟩) q.IA.length k2) by rw[<-e2];exact ai A (k:=2) rfl);have C3:=hid (show a.cell? ⟨b8,3,none⟩=some (.slice (some ⟨b3,E,none⟩) q.IB.length k3) by rw[<-e3];exact ai A (k:=3) rfl);have C4:=hid (show a.cell? ⟨b8,4,none⟩=some (.slice (some ⟨b4,I,none⟩) q.lines.length k4) by rw[<-e4];exact ai A (k:=4) rfl);have C8:=hid (show a.cell? ⟨b8,8,none⟩=some (.slice (some ⟨b9,o8,none⟩) q.ID.length k8) by rw[<-e8];exact ai A (k:=8) rfl);have Z1:=hid (show ∀f,f<q.kinds.length->a.cell? ⟨b1,o1+f,none⟩=some (.int .i64 (q.k f)) from fun f N=>by rw[<-xl N];exact aU f N);have Z2:=hid (show ∀n k,n<q.IA.length->k<7->a.cell? ⟨b2,o2+n*7+k,none⟩=some (.int .i64 (q.s n k)) from fun n k H hk=>by rw[<-uu H];exact aV n H k _ (dk 7 _ k hk));have Z3:=hid (show ∀n,n<q.IB.length->a.rangeAt b3 (E+n*20) (cf 20 (q.t n)) from fun n H=>by rw[show q.t n=q.IB[n] by show q.IB.getD n bl=_;rw[aa,ac H];rfl];exact aW n H);have Z4:=hid (show ∀f,f<q.lines.length->∃x,a.cell? ⟨b4,I+f,none⟩=some x∧ei a x (q.li f) from fun f N=>by rw[show q.li f=q.lines[f] by show q.lines.getD f []=_;rw[aa,ac N];rfl];exact aX f N);have Z8:=hid aY;clear aU aV aW aX aY e1 e2 e3 e4 e8 aM aN aO aQ aR B A lf;have kl:(q.kinds.length:Int)<=1000:=by have:=Q.kinds;omega
 have bW:(q.IA.length:Int)<=1000:=by have:=Q.IA;omega
 have bX:(q.IB.length:Int)<=1000:=by have:=Q.IB;omega
 have bU:(q.lines.length:Int)<=1000:=by have:=Q.lines;omega
 have bp:(q.ID.length:Int)<=1000:=by have:=Q.ID;omega
 go_wp2_with fail
 go_loopw [12] (fun i wr=>∃f:Nat,f<=q.kinds.length∧i=.int .i64 (f:Int)∧Hid (Below a.heap.size a wr)) (fun i _=>q.kinds.length - (intOf i).toNat)
 case atStart=>exact⟨0,oA,rfl,hid (af _ _)⟩
 case round=>
  obtain⟨f,N,rfl,HB⟩:=hrel;have c1:=cu HB C1;by_cases bc:f<q.kinds.length
  rotate_left
  ·obtain rfl:f=q.kinds.length:=oA;have ah:¬((q.kinds.length:Int)<(q.kinds.length:Int)):=oA;go_wp2_with fail
   exact ar (v:=.bool true) (by simp[results,Tryz.results7,go_sem]) rfl ⟨rfl,btr F HB⟩
  have bO:(f:Int)<(q.kinds.length:Int):=oA;have am:=hid bc;have bJ:¬((q.IA.length:Int)<0):=oA;go_wp2_with fail
  go_loopw [13,14] (fun c i wr=>∃K n:Nat,K<=n∧n<=q.IA.length∧c=.int .i64 (K:Int)∧i=.int .i64 (n:Int)∧Hid (0<K↔∃j,j<n∧opn (f:Int) (q.s j)=true)∧Hid (Below a.heap.size a wr)) (fun _ i _=>q.IA.length - (intOf i).toNat)
  case atStart=>exact⟨0,0,oA,oA,rfl,rfl,hid ⟨fun h=>oA,fun ⟨_,h,_⟩=>oA⟩,HB⟩
  case round=>
   obtain⟨K,n,bv,H,rfl,rfl,z,d⟩:=hrel;have c2:=cu d C2;by_cases aK:n<q.IA.length
   ·have bP:(n:Int)<(q.IA.length:Int):=oA;have aJ:(0:Int)<=(n:Int):=oA;have z0:=cu d (Z2.out n 0 aK oD);have z1:=cu d (Z2.out n 1 aK oD);rw[bz] at z0;have R:=hid (Cv o.w n);have G:=hid (show opn (f:Int) (q.s n)=(decide (1<q.s n 0)&&(q.s n 1==(f:Int))) from FG _ R);generalize q.s n 0=s0 at z0 G R;generalize q.s n 1=s1 at z1 G;have bu:(K:Int)<=1000:=oA;have bs:(0:Int)<=(K:Int):=oA;by_cases g0:1<s0
    ·by_cases g1:s1=(f:Int)
     ·have g2:(s1==(f:Int))=true:=by simpa using g1
      have U:=hid (show opn (f:Int) (q.s n)=true by rw[G.out,g2,az g0];rfl);clear G R;go_wp2_with (first|go_skip|go_big_skip)
      exact⟨⟨K+1,n+1,oA,oA,by go_num,by go_num,hid ⟨fun _=>⟨n,oA,U.out⟩,fun _=>oA⟩,d⟩,by simp[intOf];omega⟩
     ·have g2:(s1==(f:Int))=false:=by simpa using g1
      have U:=hid (show opn (f:Int) (q.s n)=false by rw[G.out,g2,Bool.and_false]);clear G R;go_wp2_with (first|go_skip|go_big_skip)
      exact⟨⟨K,n+1,oA,oA,rfl,by go_num,hid (uf z U),d⟩,by simp[intOf];omega⟩
    ·have U:=hid (show opn (f:Int) (q.s n)=false by rw[G.out,aw g0];rfl);clear G R;go_wp2_with (first|go_skip|go_big_skip)
     exact⟨⟨K,n+1,oA,oA,rfl,by go_num,hid (uf z U),d⟩,by simp[intOf];omega⟩
   obtain rfl:n=q.IA.length:=oA;have ah:¬((q.IA.length:Int)<(q.IA.length:Int)):=oA;have z1:=cu d (Z1.out f am);have c1:=cu d C1;have bD:(0:Int)<=(f:Int):=oA;have ag:=hid (show 0<K↔q.k f≠0 from⟨fun h=>Ag o.w (z.1 h).choose_spec.2,fun h=>z.2 (zS o.w h)⟩);by_cases O:q.k f=0
   rotate_left
   ·have bq:(0:Int)<(K:Int):=by have:=ag.2 O;omega
    have bH:(q.k f !=0)=true:=by simpa using O
    have br:0<K:=ag.2 O;generalize q.k f=kf at*;go_wp2_with fail
    exact⟨⟨f+1,oA,by go_num,d⟩,by simp[intOf];omega⟩
   obtain rfl:K=0:=by have:=ag.out;omega
   rw[O] at z1;have ae:=hid O;clear O ag z;go_upto_region 22 with fail
   obtain⟨vl,aT,aS⟩:=Z4.out f oA;rw[Ca o.w ae] at aS;obtain⟨ql,bo,ol,ax,rfl,_,_⟩:=aS;have al:=hid (fun k (hk:k<20)=>wj o.w ae k hk);have ao:=hid (Z3.out f oA);generalize q.t f=tf at al ao;have S4:=hid (fun W (h:Below wr.heap.size wr W)=>show W.cell? ⟨b8,4,none⟩=some (.slice (some ⟨b4,I,none⟩) q.lines.length k4)∧W.cell? ⟨b4,I+f,none⟩=some (.slice ql ([]:List Int).length ax)∧W.cell? ⟨b8,3,none⟩=some (.slice (some ⟨b3,E,none⟩) q.IB.length k3)∧W.rangeAt b3 (E+f*20) (cf 20 tf) from⟨cu h (cu d C4),cu h (cu d aT),cu h (cu d C3),cW (cW ao d) h⟩);have BD:=hid (aB wr 1);refine wp_region_held_drew (S:=fun W=>W.cell? ⟨b8,4,none⟩=some (.slice (some ⟨b4,I,none⟩) q.lines.length k4)∧W.cell? ⟨b4,I+f,none⟩=some (.slice ql ([]:List Int).length ax)∧W.cell? ⟨b8,3,none⟩=some (.slice (some ⟨b3,E,none⟩) q.IB.length k3)∧W.rangeAt b3 (E+f*20) (cf 20 tf)) oK (S4.out _ BD) (fun ab=>?_);have g:=hid ab;clear ab;have bE:(f:Int)<(q.lines.length:Int):=oA;have bF:(f:Int)<(q.IB.length:Int):=oA;refine Mem.tk 0 (.pointer (some ⟨b8,4,none⟩)) rfl g ?_;simp only[jj];refine tg 1 (.slice (some ⟨b4,I,none⟩) q.lines.length k4) rfl (Or.inl ⟨oR,fun W h=>by have h3:=h.1;clear h;go_simp⟩) g ?_;simp only[jj];refine Mem.tk 2 (.int .i64 (f:Int)) rfl g ?_;simp only[jj];refine Mem.tk 3 (.pointer (some ⟨b4,I+f,none⟩)) rfl g ?_;simp only[jj];refine tg 4 (.slice ql ([]:List Int).length ax) rfl (Or.inl ⟨oR,fun W h=>by have h3:=h.2.1;clear h;go_simp⟩) g ?_;simp only[jj];refine Mem.tk 5 (.int .i64 0) rfl g ?_;simp only[jj];refine Mem.tk 6 (.bool false) rfl g ?_;simp only[jj];refine Mem.tk 7 (.bool false) rfl g ?_;simp only[jj];refine Mem.tk 8 (.pointer (some ⟨b8,3,none⟩)) rfl g ?_;simp only[jj];refine tg 9 (.slice (some ⟨b3,E,none⟩) q.IB.length k3) rfl (Or.inl ⟨oR,fun W h=>by have h3:=h.2.2.1;clear h;go_simp⟩) g ?_;simp only[jj];refine Mem.tk 10 (.int .i64 (f:Int)) rfl g ?_;simp only[jj];refine Mem.tk 11 (.pointer (some ⟨b3,E+f*20,none⟩)) rfl g ?_;simp only[jj];refine tg 12 (.agg (cf 20 tf).toArray) rfl (yieldsIf_load_mid oR _ _ rfl _ _ rfl (cf 20 tf) _ (fun _ h=>h.2.2.2) Tryz.underlying37 rfl (by rw[ay];exact gA)) g ?_;simp only[jj];refine wpAnyH_ready (rs:=[13]) oK oS (AllReadyH.cons rfl (fun K hK=>?_) AllReadyH.nil);go_simp
   refine (mg _).mono ?_;rintro r w1 ⟨rfl,C⟩;have A1:=hid (btr BD C);clear C;go_wp2_with fail
   refine hK _ _ (S4.out _ A1) (fun ab=>?_);have ap:=hid ab;clear hK K ab
   try simp only[Act.put,jD,jE,jF]
   refine tg 14 (.bool false) rfl (Or.inl ⟨oR,fun W _=>qc _ _ _ rfl tf bl al rfl rfl W⟩) ap ?_;simp only[jj];refine Mem.tk 15 (.bool false) rfl ap ?_;simp only[jj];refine dc oK ?_ _;replace d:=hid (btr d A1);clear g ap S4 BD A1 aT al ao;generalize World.drewN _ _=wz at*;go_wp2_with fail
   go_loopw [15] (fun i wr=>∃n:Nat,n<=q.IB.length∧i=.int .i64 (n:Int)∧Hid (Below a.heap.size a wr)) (fun i _=>q.IB.length - (intOf i).toNat)
   case atStart=>exact⟨0,oA,rfl,d⟩
   case round=>
    obtain⟨n,H,rfl,z⟩:=hrel;have c3:=cu z C3;by_cases aL:n<q.IB.length
    ·have bf:(n:Int)<(q.IB.length:Int):=oA;have aJ:(0:Int)<=(n:Int):=oA;have RT:=hid (cW (Z3.out n aL) z);have aE:=hid aL;have aA:=(fun k hk=>Es o.w ae n (k:=k) hk);generalize q.t n=tn at RT aA;have Z:=hid aA;clear aA;have TN:=hid (aP wr zT 37 wr.heap.size 20 rfl oD);have TB:=hid (Az wr tn);go_upto_region 28 with (first|((with_reducible refine gld 37 ?_);refine wpList_load_mid rfl 37 _ rfl b3 (E+n*20) rfl (cf 20 tn) _ RT Tryz.underlying37 rfl (by rw[ay];exact gA) ?_)|((with_reducible refine gst 37 ?_);refine gV rfl _ _ rfl wr.heap.size rfl (cf 20 tn) rfl (ay _ _) (bQ _ _) TN ?_))
     generalize World.setCells _ _ _ _=w7 at TB ⊢;clear TN RT;have B7:=hid (btr z TB.1);have L:=hid TB.2;clear TB;generalize wr.heap.size=bn at L ⊢;have a2:=ai L (k:=11) (dk 20 tn 11 oD);have a7:(tn 11==(f:Int))=false:=by simpa using Z.out 11 oS
     generalize tn 11=bY at a2 a7;have a3:=ai L (k:=12) (dk 20 tn 12 oD);have a8:(tn 12==(f:Int))=false:=by simpa using Z.out 12 oS
     generalize tn 12=bZ at a3 a8;have a4:=ai L (k:=13) (dk 20 tn 13 oD);have a9:(tn 13==(f:Int))=false:=by simpa using Z.out 13 oS
     generalize tn 13=cc at a4 a9;have a5:=ai L (k:=14) (dk 20 tn 14 oD);have ba:(tn 14==(f:Int))=false:=by simpa using Z.out 14 oS
     generalize tn 14=cd at a5 ba;have a6:=ai L (k:=17) (dk 20 tn 17 oD);have bb:(tn 17==(f:Int))=false:=by simpa using Z.out 17 oS
     generalize tn 17=cg at a6 bb;go_wp2_with (first|go_skip|go_big_skip)
     exact⟨⟨n+1,by have:=aE.out;omega,by go_num,B7⟩,by simp[intOf];have:=aE.out;omega⟩
    obtain rfl:n=q.IB.length:=oA;have ah:¬((q.IB.length:Int)<(q.IB.length:Int)):=oA;go_wp2_with fail
    go_loopw [17] (fun i wr=>∃c:Nat,c<=q.ID.length∧i=.int .i64 (c:Int)∧Hid (Below a.heap.size a wr)) (fun i _=>q.ID.length - (intOf i).toNat)
    case atStart=>exact⟨0,oA,rfl,z⟩
    case round=>
     obtain⟨c,hc,rfl,HG⟩:=hrel;have c8:=cu HG C8;by_cases au:c<q.ID.length
     ·have bB:(c:Int)<(q.ID.length:Int):=oA;have bA:(0:Int)<=(c:Int):=oA;have aC:=hid au;obtain⟨x,hx,bh,_⟩:=Z8.out c au;obtain⟨qe,be,oe,ke,rfl,aj,aZ,bL⟩:=bh;have HX:=hid hx;have aF:=hid aZ;have a0:=hid aj;have DT:=hid (fun e he=>zi o.w ae (av au) (e:=e) he);generalize q.ID[c]=l at*;have bM:(l.length:Int)<=100:=oA;clear hx aZ aj;go_wp2_with fail
      go_loopw [18] (fun i wr=>∃n:Nat,n<=l.length∧i=.int .i64 (n:Int)∧Hid (Below a.heap.size a wr)) (fun i _=>l.length - (intOf i).toNat)
      case atStart=>exact⟨0,oA,rfl,HG⟩
      case round=>
       obtain⟨n,H,rfl,J⟩:=hrel;have c8:=cu J C8;have hx:=cu J HX;by_cases ad:n<l.length
       ·have bf:(n:Int)<(l.length:Int):=oA;have aJ:(0:Int)<=(n:Int):=oA;have aj:=a0.out oA;subst aj;have E2:=cu J (aF.out n ad).2.2.1;have E0:=cu J (aF.out n ad).1;have f2:(l[n].2.2.1==(f:Int))=false:=by simpa using (DT.out _ (av ad)).2
        have f0:(l[n].1==(f:Int))=false:=by simpa using (DT.out _ (av ad)).1
        have aD:=hid ad;generalize l[n].2.2.1=z2 at E2 f2;generalize l[n].1=z0 at E0 f0;go_wp2_with (first|go_skip|go_big_skip)
        exact⟨⟨n+1,by have:=aD.out;omega,by go_num,J⟩,by simp[intOf];have:=aD.out;omega⟩
       ·obtain rfl:n=l.length:=oA;have ah:¬((l.length:Int)<(l.length:Int)):=oA;go_wp2_with fail
        exact⟨⟨c+1,by have:=aC.out;omega,by go_num,J⟩,by simp[intOf];have:=aC.out;omega⟩
     ·obtain rfl:c=q.ID.length:=oA;have ah:¬((q.ID.length:Int)<(q.ID.length:Int)):=oA;go_wp2_with fail
      exact⟨⟨f+1,by have:=am.out;omega,by go_num,HG⟩,by simp[intOf];have:=am.out;omega⟩
end Wd
open Go.ChangeShapes Go.WideShapes Go.RowKit
theorem own:ownKnob Tryz.prog.godebug=none:=by kernel_rfl
theorem pb:laidOutB Tryz.prog=true:=by kernel_rfl
namespace Wd
open Go.ChangeShapes Go.WideShapes Go.RowKit Go.Deep Go.Joins Mem Nums Hex
theorem vz {P:Program} {W:World} {r:Reach} {base:Nat} {t e:TypeId} {a:Addr} {len cap:Nat} (b:P.underlying t=some (.slice e)) (h:Value.okWide P W r base t (.slice (some a) len cap)):a.spot=none:=by
 simp only[Value.okWide,b,Cell.okWide,Cell.ok] at h;exact h.2.2.2.1
theorem Ad {P:Program} {w:World} {base:Nat} {spare:Nat->Bool} {held:Bool} {H:Type} {enc:TypeId×Value->H} {u:TypeId} {fuel:Nat} {a:Addr} {cs:List Value} {x:DataW H×List MemPlace} (e:P.underlying u=some (.int .i64))
  (c:w.cells? base a 1=some cs) (h:DataW.trod enc P w base spare held fuel u cs=some x):∃q:Int,w.cell? (a.add 0)=some (.int .i64 q)∧ -9223372036854775808<=q∧q<=9223372036854775807:=by
 obtain⟨_,hl,d⟩:=World.cells?_some c
 match cs,hl with
 |[c0],_=>
  obtain⟨n0,b,_,f⟩:=DataW.trod_int e h;simp at b;subst b;refine⟨n0,d 0 oA,?_⟩;simp[Lit.wf,IntKind.min,IntKind.max,IntKind.signed,IntKind.bits] at f;omega
theorem xS {H:Type} {enc:TypeId×Value->H} {W:World} {r:Reach} {base:Nat} {v:Value} {d:DataW H} {p:List MemPlace}
  (hv:Value.okWide Tryz.prog W r base 22 v) (h:DataW.Trod enc Tryz.prog W 0 (fun _=>true) true 22 v d p):
  ∃zs:List Int,oB W v zs∧zs.length<=maxLen:=by
 obtain⟨a0,len,cap,rfl⟩:=okWide_slice Tryz.underlying22 hv;obtain⟨fuel,x⟩:=h;rcases open_slice Tryz.underlying22 x with ⟨b,_⟩|⟨a,J,E,m,n,D,B,b,_,hl,G,A,_,w⟩
 ·simp[Value.cells] at b;obtain⟨rfl,rfl,rfl⟩:=b;exact⟨[],⟨none,0,0,0,rfl,fun h=>by simp at h,fun j c=>by simp at c,fun z k=>by simp at k⟩,oS⟩
 ·simp[Value.cells] at b;obtain⟨rfl,rfl,rfl⟩:=b;have s:=vz Tryz.underlying22 hv;obtain⟨f,g,C⟩:=a;simp at s;subst s;have I:len<=m:=by rw[A];split<;>omega
  obtain⟨q,o⟩:=choose_lt (α:=Int) (n:=len) (p:=fun i q=>W.cell? ⟨f,g+i,none⟩=some (.int .i64 q)∧ -9223372036854775808<=q∧q<=9223372036854775807) (fun i hi=>by
   obtain⟨F,l,u⟩:=w i oA;rw[Ej] at l;obtain⟨q,t,k1⟩:=Ad Tryz.underlying3 l u;simp only[nF,Nat.mul_one,bz] at t;exact⟨q,t,k1⟩)
  refine⟨(List.range len).map q,⟨some ⟨f,g,none⟩,f,g,cap,oS,fun _=>rfl,fun j c=>?_,fun z k=>?_⟩,by simp;omega⟩
  ·have y:j<len:=by simpa using c
   have e:((List.range len).map q)[j]=q j:=oS;rw[e];exact (o j y).1
  ·obtain⟨j,c,rfl⟩:=List.mem_map.1 k;exact (o j (List.mem_range.1 c)).2
theorem vy {H:Type} {enc:TypeId×Value->H} {P:Program} {w:World} {base:Nat} {spare:Nat->Bool} {held:Bool} {t e:TypeId} {fuel:Nat} {cs:List Value} {L:List (List UInt8)} {p:List MemPlace} (C:P.underlying t=some (.slice e)) (y:P.underlying e=some .string) (v:P.cellsOf e=1)
  (h:DataW.trod enc P w base spare held fuel t cs=some (.slice (L.map fun l=>.lit (.string l)) [],p)) (h0:0<L.length):
  ∃b o c,cs=[.slice (some ⟨b,o,none⟩) L.length c]∧∀k (hk:k<L.length),w.cell? ⟨b,o+k,none⟩=some (.string ⟨L[k].toArray⟩):=by
 rcases open_slice1 C v h with ⟨_,d⟩|⟨a,len,cap,m,n,V,D,E,x,_,hl,_,A,d,i⟩
 ·simp at d
 ·simp only[Prod.mk.injEq,DataW.slice.injEq] at d;have z:len=L.length:=by have:=dG List.length d.1.1;simpa using this.symm
  subst z;have F:L.length<=m:=by rw[A];split<;>omega
  obtain⟨j,q,r⟩:=a;have B:r=none:=by
   have:=(i 0 oA).1;have:=World.cell?_spot this;simpa [Addr.add] using this
  subst B;refine⟨j,q,cap,x,fun k hk=>?_⟩;obtain⟨f,u⟩:=i k oA;obtain⟨s,e1,e2,_⟩:=DataW.trod_string y u;have g:=dG (·[k]?) d.1.1;simp only[cZ,ac hk,List.getElem?_range hk,Option.map_some,bJ] at g;simp only[Prod.mk.injEq] at e2;rw[<-g] at e2;simp at e1 e2;rw[e1] at f;have e4:(⟨L[k].toArray⟩:ByteArray)=s:=by rw[e2.1]
  rw[e4, <-nF];exact f
theorem knG:Tryz.prog.globalNamed "keyhold/keyholdref.kindNames"=some 1:=oK
theorem knT:(Tryz.prog.globals[1]?).map (·.type)=some 150:=oK
theorem Iy:Tryz.prog.cellsOf 9=1:=oK
theorem GS {W:World} {g t:Nat} {cs:Array Value} {fuel:Nat} {p:List MemPlace} (h:Tryz.prog.globalNamed "keyhold/keyholdref.kindNames"=some g) (i:(Tryz.prog.globals[g]?).map (·.type)=some t) (hv:W.var? Tryz.prog "keyhold/keyholdref.kindNames"=some cs)
  (a:DataW.trod (fun _=>()) Tryz.prog W 0 (fun _=>true) false fuel t cs.toList=some (Rows.laid_keyhold_keyholdref_kindNames,p)):KnW W:=by
 obtain rfl:=aL (knG.symm.trans h);obtain rfl:=aL (knT.symm.trans i);have e:(Rows.laid_keyhold_keyholdref_kindNames:DataW Unit)=.slice ((knB.map fun x=>x.data.toList).map fun l=>.lit (.string l)) []:=rfl;rw[e] at a;obtain⟨b,o,c,d,f⟩:=vy Tryz.underlying150 Tryz.underlying9 Iy a oD;refine⟨b,o,c,?_,fun k hk=>?_⟩
 ·rw[World.var?_cell knG hv 0];have:=dG (·[0]?) d;rw[show (knB.map fun x=>x.data.toList).length=7 from rfl] at this;simpa using this
 ·have:=f k (by rw[bO];exact hk);rw[this];simp
