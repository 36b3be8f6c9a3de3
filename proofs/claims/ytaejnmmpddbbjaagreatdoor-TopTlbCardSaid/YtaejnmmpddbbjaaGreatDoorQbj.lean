/- Qbj -/
import Derived.BigGuard
import Derived.BigQuiet
import Derived.Test.YtaejnmmpddbbjaaGreatDoorQbe
set_option maxRecDepth 100000
set_option maxHeartbeats 16000000
namespace Go.Proofs.YtaejnmmpddbbjaaGreatDoor
namespace Wd
open Go.RowKit Mem Bw Nums Mmu Hex
def knB:List ByteArray:=[⟨#[112,97,103,101]⟩,⟨#[116,97,98,108,101]⟩,⟨#[115,112,97,99,101]⟩,⟨#[110,111,100,101]⟩,⟨#[116,97,115,107]⟩,⟨#[100,111,111,114]⟩,⟨#[98,101,108,108]⟩]
def KnW (w:World):Prop:=∃kb ko cap,w.cell? ⟨1,0,none⟩=some (.slice (some ⟨kb,ko,none⟩) 7 cap)∧fv w kb ko knB
theorem KnW.below {w w':World} (h:KnW w) (a:Below w.heap.size w w'):KnW w':=by
 obtain⟨d,e,cap,b,c⟩:=h;exact⟨d,e,cap,gA a b,fv.EN c a⟩
def jl (p p':PW) (xs:List ByteArray):Prop:=∀(w:World) (wb:Nat) (tag:Nat->Nat) (V:Nat->Value) (b cap:Nat),cb w wb tag V p->KnW w->fv w b 0 xs->xs.length<=cap->
 Calls Tryz.prog 73 #[.pointer (some ⟨wb,0,none⟩),.slice (some ⟨b,0,none⟩) xs.length cap] w fun r w'=>r=.returned (.int .i64 0)∧∃tag' V',cb w' wb tag' V' p'∧Kt tag tag' w w'
theorem gl {w:World} {b:Nat} {x:ByteArray} {l:List ByteArray} (h:fv w b 0 (x::l)):w.cell? ⟨b,0,none⟩=some (.string x)∧fv w b 1 l:=
 ⟨h 0 oS,fun j a=>by have:=h (j+1) (by simp;omega);rw[show 0+(j+1)=1+j by omega] at this;exact this⟩
theorem eW {tag:Nat->Nat} {c k:Nat} (h:c<=k):iD tag c k=0:=ae oA
theorem Cz {p:PW} {c d e:ByteArray} {s b n:Nat} (P:p.Fits) (hl:∀l∈p.D9,l.length<=100) (O:∀t∈[c,d,e],fI t=true) (M:[c,d,e].map Prs.gG=[(s:Int),(b:Int),(n:Int)])
  (R:p.DZ.length=p.kinds.length*16) (Q:s<p.DZ.length) (C:opE p s=0) (N:1<=n) (J:b+n<=p.kinds.length) (hk:∀f (hf:f<p.kinds.length),b<=f->f<b+n->p.kinds[f]=0) (K:∀i (hi:i<p.DZ.length),p.DZ[i] 0≠1):
  jl p {p with DZ:=p.DZ.set s (clk b n)} [⟨#[99,108,97,121]⟩,c,d,e]:=by
 intro w wb tag V X cap B _ F L;obtain⟨bt,T⟩:=hV B;have Y:=hid (fun x (h:w.heap.size<=x)=>eW (tag:=tag) h);have v:=hid T;have m:=hid bt;generalize iD tag w.heap.size=tg at*;obtain⟨U,G⟩:=gl F;have j:=hid (ik X 1 (cap - 1) [c,d,e] w G O oS);rw[M] at j;have aa:¬cap=1:=by simp at L;omega
 have A:=hid (fun W (h:Below w.heap.size w W)=>gA h U);have o:=hid (fun W a ca (h:Below w.heap.size w W) (H:fu W a 0 [(s:Int),(b:Int),(n:Int)])=>nW wb tg V p a ca s b n W (m.below h) P hl H R Q C N J hk K);go_enter Tryz.func73,Tryz.ntmps73
 go_wp2_with fail
 refine j.mono ?_;rintro r w1 ⟨u,rfl,S,k⟩;obtain⟨a,ca,rfl,Z,ab,I⟩:=jc S oS oS;have g:=hid k;have q:=hid I;have x1:=A.out _ k;go_wp2_with fail
 refine (o.out w1 a ca g q).mono ?_;rintro r w2 ⟨rfl,D,E⟩;have y:=hid D;have z:=hid E;go_wp2_with fail
 go_ret
 exact⟨rfl,tg,V,y.out,v.trans ((bf g).trans z)⟩

theorem yo {p:PW} {b c d e:ByteArray} {s g f wr:Nat} (Q:p.Fits) (hl:∀l∈p.D9,l.length<=100) (P:∀t∈[b,c,d,e],fI t=true) (O:[b,c,d,e].map Prs.gG=[(s:Int),(g:Int),(f:Int),(wr:Int)]) (D:fmE p s 4=0) (M:g<=255) (U:wr<=1) (L:f<p.kinds.length) (R:p.Eb.length=p.kinds.length*16) (hk:p.kinds.getD f 0=3) (X:p.Eb.getD (s*16+g/16) 0=0):
  jl p {p with Eb:=p.Eb.set (s*16+g/16) (32768+(f:Int))} [⟨#[101,110,116,101,114]⟩,b,c,d,e]:=by
 intro w wb tag V xb cap C _ G K;obtain⟨bt,Y⟩:=hV C;have z:=hid (fun x (h:w.heap.size<=x)=>eW (tag:=tag) h);have q:=hid Y;have m:=hid bt;generalize iD tag w.heap.size=tg at*;obtain⟨Z,H⟩:=gl G;have j:=hid (ik xb 1 (cap - 1) [b,c,d,e] w H P oS);rw[O] at j;have ab:¬cap=1:=by simp at K;omega
 have B:=hid (fun W (h:Below w.heap.size w W)=>gA h Z);have n:=hid (fun W a ca (h:Below w.heap.size w W) (I:fu W a 0 [(s:Int),(g:Int),(f:Int),(wr:Int)]) (S:tg a=0)=>l4 wb tg V p a 0 ca s g f wr W (m.below h) Q hl I S D M U L R hk X);go_enter Tryz.func73,Tryz.ntmps73
 go_wp2_with fail
 refine j.mono ?_;rintro r w1 ⟨u,rfl,T,k⟩;obtain⟨a,ca,rfl,aa,N,J⟩:=jc T oS oS;have A:=hid (z.out a N);have i:=hid k;have o:=hid J;have x1:=B.out _ k;go_wp2_with fail
 refine (n.out w1 a ca i o A).mono ?_;rintro r w2 ⟨rfl,E,F⟩;have v:=hid E;have y:=hid F;go_wp2_with fail
 go_ret
 exact⟨rfl,tg,V,v.out,q.trans ((bf i).trans y)⟩
theorem yn {p:PW} {c d e i:ByteArray} {s g f wr a:Nat} (T:p.Fits) (hl:∀l∈p.D9,l.length<=100) (S:∀t∈[c,d,e,i],fI t=true) (R:[c,d,e,i].map Prs.gG=[(s:Int),(g:Int),(f:Int),(wr:Int)]) (E:fmE p s 4=0) (P:g<=255) (hw:wr<=1) (O:f<p.kinds.length) (Y:p.Eb.length=p.kinds.length*16) (hk:p.kinds.getD f 0=2) (hz:p.Eb.getD (s*16+g/16) 0=a) (M:0<a) (N:a<=65535) (U:a%1024*16+g%16<p.Eb.length) (X:p.Eb.getD (a%1024*16+g%16) 0=0):
  jl p {p with Eb:=p.Eb.set (a%1024*16+g%16) (32768+(wr:Int)*16384+(f:Int))} [⟨#[101,110,116,101,114]⟩,c,d,e,i]:=by
 intro w wb tag V xb cap D _ H L;obtain⟨bt,kr⟩:=hV D;have A:=hid (fun x (h:w.heap.size<=x)=>eW (tag:=tag) h);have v:=hid kr;have n:=hid bt;generalize iD tag w.heap.size=tg at*;obtain⟨x0,I⟩:=gl H;have k:=hid (ik xb 1 (cap - 1) [c,d,e,i] w I S oS);rw[R] at k;have ab:¬cap=1:=by simp at L;omega
 have C:=hid (fun W (h:Below w.heap.size w W)=>gA h x0);have o:=hid (fun W b ca (h:Below w.heap.size w W) (J:fu W b 0 [(s:Int),(g:Int),(f:Int),(wr:Int)]) (Z:tg b=0)=>mZ wb tg V p b 0 ca s g f wr a W (n.below h) T hl J Z E P hw O Y hk hz M N U X);go_enter Tryz.func73,Tryz.ntmps73
 go_wp2_with fail
 refine k.mono ?_;rintro r w1 ⟨u,rfl,hu,m⟩;obtain⟨b,ca,rfl,aa,Q,K⟩:=jc hu oS oS;have B:=hid (A.out b Q);have j:=hid m;have q:=hid K;have x1:=C.out _ m;go_wp2_with fail
 refine (o.out w1 b ca j q B).mono ?_;rintro r w2 ⟨rfl,F,G⟩;have y:=hid F;have z:=hid G;go_wp2_with fail
 go_ret
 exact⟨rfl,tg,V,y.out,v.trans ((bf j).trans z)⟩
theorem An {p:PW} {b c d e f g i:ByteArray} {t:Nat} {N:Nat->Int} (Y:p.Fits) (hl:∀l∈p.D9,l.length<=100) (X:∀t∈[b,c,d,e,f,g,i],fI t=true) (U:[b,c,d,e,f,g,i].map Prs.gG=[(t:Int),N 1,N 2,N 3,N 4,N 5,N 6]) (E:fmE p t 6=0) (ht:t<p.DY.length) (hk:∀k,1<=k->k<4->N k≠ -1->fmE p (N k) (eqK k)=0) (H:0<=N 4) (I:N 4<p.D6.length) (J:0<=N 5) (K:N 5<=3) (L:0<=N 6) (M:N 6<=3) (Z:p.DY[t] 9=0):
  jl p (eqP p t N) [⟨#[101,113,117,105,112]⟩,b,c,d,e,f,g,i]:=by
 intro w wb tag V xb cap D _ O S;obtain⟨bt,kr⟩:=hV D;have A:=hid (fun x (h:w.heap.size<=x)=>eW (tag:=tag) h);have v:=hid kr;have o:=hid bt;generalize iD tag w.heap.size=tg at*;obtain⟨x0,P⟩:=gl O;have m:=hid (ik xb 1 (cap - 1) [b,c,d,e,f,g,i] w P X oS);rw[U] at m;have ac:¬cap=1:=by simp at S;omega
 have C:=hid (fun W (h:Below w.heap.size w W)=>gA h x0);have q:=hid (fun W a ca (h:Below w.heap.size w W) (Q:fu W a 0 [(t:Int),N 1,N 2,N 3,N 4,N 5,N 6]) (aa:tg a=0)=>m3 wb tg V p a ca t N W (o.below h) Y hl Q aa E ht hk H I J K L M Z);go_enter Tryz.func73,Tryz.ntmps73
 go_wp2_with fail
 refine m.mono ?_;rintro r w1 ⟨u,rfl,hu,n⟩;obtain⟨a,ca,rfl,ab,T,R⟩:=jc hu oS oS;have B:=hid (A.out a T);have j:=hid n;have s:=hid R;have x1:=C.out _ n;go_wp2_with fail
 refine (q.out w1 a ca j s B).mono ?_;rintro r w2 ⟨rfl,F,G⟩;have y:=hid F;have z:=hid G;go_wp2_with fail
 go_ret
 exact⟨rfl,tg,V,y.out,v.trans ((bf j).trans z)⟩
theorem CA {p:PW} {e f m n:ByteArray} {i j r g a:Nat} {s:Nat->Int} (hp:p.Fits) (hl:∀l∈p.D9,l.length<=100) (ac:∀t∈[e,f,m,n],fI t=true) (hm:[e,f,m,n].map Prs.gG=[(i:Int),(j:Int),(r:Int),(g:Int)]) (ad:p.DZ.length=p.kinds.length*16) (X:boE p i j=0) (hi:i<p.DZ.length) (hj:j<p.DZ.length) (hs:p.DZ[i]=s) (b:s 0≠1) (hr:r<=7) (Z:g<=65535) (ab:g=0∨(0<g∧(s 0=7∨s 0=8)∧s 5=0)) (P:s 4=a) (T:a<=7):
  jl p {p with DZ:=p.DZ.set j (kpS s (Bw.bw 6 a r:Nat) g i)} [⟨#[99,111,112,121]⟩,e,f,m,n]:=by
 intro w wb tag V xb cap O _ Q Y;obtain⟨bt,kr⟩:=hV O;have L:=hid (fun x (h:w.heap.size<=x)=>eW (tag:=tag) h);have I:=hid kr;have E:=hid bt;generalize iD tag w.heap.size=tg at*;obtain⟨x0,S⟩:=gl Q;have z:=hid (ik xb 1 (cap - 1) [e,f,m,n] w S ac oS);rw[hm] at z;have ag:¬cap=1:=by simp at Y;omega
 have N:=hid (fun W (h:Below w.heap.size w W)=>gA h x0);have F:=hid (fun W (h:Below w.heap.size w W)=>n9 wb tg V p i j r g a s W (E.below h) hp hl ad X hi hj hs b hr Z ab P T);go_enter Tryz.func73,Tryz.ntmps73
 go_wp2_with fail
 refine z.mono ?_;rintro r w1 ⟨u,rfl,hu,C⟩;obtain⟨q,ca,rfl,af,aa,U⟩:=jc hu oS oS;have M:=hid (L.out q aa);have D:=hid C;have G:=hid U;have x1:=N.out _ C;go_upto_region 38 with fail
 have y:=hid (btr D (show Below w1.heap.size w1 w1.drew from aC w1 1));have o:=hid (G.below (show Below w1.heap.size w1 w1.drew from aC w1 1));have ae:=hid (aj _ _ (o.out 0 oS));refine bj (R:=fun W=>fu W q 0 [(i:Int),(j:Int),(r:Int),(g:Int)]) [14] [0,1,2,3,4,5,6,7,8,9,10,11,12] 2 oK o oK oK oK (fun _=>?_)
 repeat (refine Rf.rs ?_ rfl oR (fun W h=>by have b:=h 0 oS;have c:=h 1 oS;have d:=h 2 oS;have B:=h 3 oS;clear h;rw[az] at b c d B;simp only[aS,bc] at b c d B;go_simp;try rfl);simp only[jj])
 refine aG ?_;generalize w1.drew=w2 at*;refine Rf.r1 13 rfl (fun K v=>?_);refine wnt oR ?_;go_simp
 refine (F.out w2 y).mono ?_;rintro r w3 ⟨rfl,c,d⟩;have J:=hid c;have A:=hid d;have H:=hid (show fu w3 q 0 [(i:Int),(j:Int),(r:Int),(g:Int)] from fun k hk=>A.cell (o.out k hk) M);go_wp2_with fail
 refine v _ _ trivial (fun _=>H.out) (fun _ _=>?_)
 try simp only[jj]
 refine Rf.r1 14 rfl (fun K v=>?_);refine wnt oR ?_;go_simp
 refine v _ _ trivial (bK oK) (fun _ _=>?_)
 try simp only[jj]
 refine aO oK ?_ _;go_wp2_with fail
 go_ret
 exact⟨rfl,tg,V,J.out,I.trans ((bf y).trans A)⟩
theorem pB {a b:ByteArray} (h:a≠b):(a.toList==b.toList)=false:=by
 rw[ByteArray.toList_eq,ByteArray.toList_eq];refine beq_eq_false_iff_ne.2 fun e=>h (kP e)
theorem CB {p:PW} {E c d e:ByteArray} {kk:Nat} {n m t:Int} (hp:p.Fits) (hl:∀l∈p.D9,l.length<=100) (hs:Snd p) (ag:kk<knB.length) (hx:knB[kk]=E) (am:∀j (b:j<knB.length),j<kk->knB[j]≠E) (an:∀t∈[c,d,e],fI t=true) (hm:[c,d,e].map Prs.gG=[n,m,t]) (hE:mkE p n (2+(kk:Int)) m t=0):
  jl p (mkP p n (2+(kk:Int)) m t) [⟨#[109,97,107,101]⟩,E,c,d,e]:=by
 intro w wb tag V N cap aa ah z ae;obtain⟨bt,kr⟩:=hV aa;have T0:=hid (fun x (h:w.heap.size<=x)=>eW (tag:=tag) h);have Y:=hid kr;have Q:=hid bt;generalize iD tag w.heap.size=tg at*;obtain⟨x0,au⟩:=gl z;have D:=z 1 oS;have ab:fv w N 2 [c,d,e]:=fun j b=>by have:=z (j+2) (by simp at b ⊢;omega);rw[show 0+(j+2)=2+j by omega] at this;exact this
 have I:=hid (fun W (h:Below w.heap.size w W)=>ik N 2 (cap - 2) [c,d,e] W (fv.EN ab h) an oS);rw[hm] at I;have aw:¬cap=2:=by simp at ae;omega
 obtain⟨kb,ko,ay,C,ao⟩:=ah;have G:=hid (fun W (h:Below w.heap.size w W)=>(⟨gA h D,gA h C⟩:_∧_));have Z:=hid (fun W (h:Below w.heap.size w W) j (b:j<knB.length)=>gA h (ao j b));have H:=hid (fun W (h:Below w.heap.size w W)=>l8 n (2+(kk:Int)) m t p hp hl hs W wb tg V (Q.below h));rw[hE] at H;have k7:(kk:Int)<7:=by have:knB.length=7:=rfl;omega
 have ax:((kk:Int)==7)=false:=by simp;omega
 have U:=hid am;have X:=hid hx;have aq:=hid ag;go_enter Tryz.func73,Tryz.ntmps73
 go_wp2_with fail
 go_loopw [5] (fun i wr=>∃(j:Nat),j<=kk∧i=.int .i64 (j:Int)∧Hid (Below w.heap.size w wr)) (fun i _=>kk - (intOf i).toNat)
 case atStart=>exact⟨0,oA,rfl,hid (ai _ _)⟩
 case round=>
  obtain⟨j,b,rfl,f⟩:=hrel;obtain⟨D,C⟩:=G.out _ f;have M:j<knB.length:=oA;have j7:(j:Int)<7:=oA;have O:=Z.out _ f j M;by_cases al:j<kk
  ·have hn:=pB (U.out j M al);generalize knB[j]=y at O hn;go_upto_region 5 with fail
   refine aZ oK oK ?_
   repeat (first|go_big_quiet_skip|(go_big_quiet_want;go_big_quiet_op;first|go_big_quiet_on|go_big_quiet_call (fail)))
   refine cy ?_;intro _ A;obtain⟨nq,B⟩:=A;subst B;have a:=hid (aV f nq);generalize wr.drewN nq=w3 at*;go_wp2_with fail
   exact⟨⟨j+1,oA,by go_num,a⟩,by simp[intOf];omega⟩
  obtain rfl:j=kk:=oA;rw[X.out] at O;go_upto_region 5 with fail
  refine aZ oK oK ?_
  repeat (first|go_big_quiet_skip|(go_big_quiet_want;go_big_quiet_op;first|go_big_quiet_on|go_big_quiet_call (fail)))
  refine cy ?_;intro _ A;obtain⟨nq,B⟩:=A;subst B;have a:=hid (aV f nq);generalize wr.drewN nq=w3 at*;obtain⟨D,C⟩:=G.out _ a;go_wp2_with fail
  refine (I.out _ a).mono ?_;rintro r w1 ⟨u,rfl,hu,ad⟩;obtain⟨s,ca,rfl,av,af,ac⟩:=jc hu oS oS;have TG:=hid (T0.out s (aB a.size af));have P:=hid (btr a ad);have S:=hid ac;go_upto_region 12 with fail
  have F:=hid (btr P (show Below w1.heap.size w1 w1.drew from aC w1 1));have q:=hid (S.below (show Below w1.heap.size w1 w1.drew from aC w1 1));have ar:=hid (aj _ _ (q.out 0 oS));refine bj (R:=fun W=>fu W s 0 [n,m,t]) [13] [0,1,2,3,4,5,6,7,8,9,10,11] 2 oK q oK oK oK (fun _=>?_)
  repeat (refine Rf.rs ?_ rfl oR (fun W h=>by have L:=h 0 oS;have g:=h 1 oS;have o:=h 2 oS;clear h;rw[az] at L g o;simp only[aS,bc] at L g o;go_simp;try rfl);simp only[jj])
  refine aG ?_;generalize w1.drew=w2 at*;refine Rf.r1 12 rfl (fun K v=>?_);refine wnt oR ?_;go_simp
  rw[show IntKind.i64.wrap (2+(j:Int))=2+(j:Int) from bZ _ oA oA];refine (H.out w2 F).mono ?_;rintro r w4 ⟨rfl,ap,g,o⟩;obtain⟨V2,h3⟩:=o trivial;have O1:=hid h3;have J:=hid g;have T:=hid (show fu w4 s 0 [n,m,t] from fun k hk=>J.cell (q.out k hk) TG);go_wp2_with fail
  refine v _ _ trivial (fun _=>T.out) (fun _ _=>?_)
  try simp only[jj]
  refine Rf.r1 13 rfl (fun K v=>?_);refine wnt oR ?_;go_simp
  refine v _ _ trivial (bK oK) (fun _ _=>?_)
  try simp only[jj]
  refine aO oK ?_ _;go_wp2_with fail
  go_ret
  exact⟨rfl,ap,V2,O1.out,Y.trans ((bf F).trans J)⟩
structure Own (w0 W:World) (wb:Nat) (tag:Nat->Nat) (V:Nat->Value) (p:PW):Prop where
 b:cb W wb tag V p
 t:∀k,k<w0.heap.size->tag k=0
 e:Below w0.heap.size w0 W
theorem Own.next {w0 W a:World} {wb:Nat} {tag:Nat->Nat} {V:Nat->Value} {p:PW} (h:Own w0 W wb tag V p) (c:Below W.heap.size W a):Own w0 a wb tag V p:=⟨h.b.below c,h.t,btr h.e c⟩
theorem Own.to {w0 W b:World} {wb:Nat} {tag tag':Nat->Nat} {V c:Nat->Value} {p p':PW} (h:Own w0 W wb tag V p) (d:cb b wb tag' c p') (hk:Kt tag tag' W b):Own w0 b wb tag' c p':=
 ⟨d,fun k a=>hk.t k (aE a h.e.size) (h.t k a),hk.k.below h.e h.e.size (fun k a e=>e (h.t k a))⟩
structure vq (ls:List ByteArray) (P:Nat->PW) (f c:Nat) (zs:List Int):Prop where
 n0:0<ls.length
 nn:ls.length<=200
 sz:∀t∈ls,t.size<=1000
 one:∃l,jL 32 (ls.getD 0 ByteArray.empty)=⟨#[119,111,114,108,100]⟩::l∧(∀t∈l,fI t=true)∧l.length<=100∧l.map Prs.gG=(f:Int)::(c:Int)::zs∧P 1=wlP f c zs
 num:1<=f∧f<=24∧1<=c∧c<=4∧1<=zs.length∧zs.length<=8∧∀z∈zs,0<=z∧z<=3
 all:∀i,1<=i->i<ls.length->∃x l,jL 32 (ls.getD i ByteArray.empty)=x::l∧x≠⟨#[119,111,114,108,100]⟩∧x≠⟨#[99,111,100,101]⟩∧jl (P i) (P (i+1)) (x::l)
theorem jA (s:ByteArray) (P:Nat->PW) (f c:Nat) (zs:List Int) (w:World) (hs:s.size<=4000) (hr:vq (Prs.fT s) P f c zs) (ar:KnW w):
  Calls Tryz.prog 29 #[.string s] w fun r w'=>∃X tag,r=.returned (.tuple #[.agg (dk X),.agg #[.int .i64 0,.int .i64 (-1)]])∧fK w' tag X (P (Prs.fT s).length)∧(∀k,k<w.heap.size->tag k=0)∧Below w.heap.size w w':=by
 have B0:=hid (bal (bal (ai w.heap.size w) (.cells zW 28)) (.cells #[.int .i64 0,.int .i64 0] 71));have D:=hid (cP (aY w zW 28 w.heap.size 11 rfl oD) (bal (ai _ _) (.cells #[.int .i64 0,.int .i64 0] 71)));have R:=hid (aY (w.alloc (.cells zW 28)) #[.int .i64 0,.int .i64 0] 71 (w.heap.size+1) 2 oS oD);have SZ:=hid (show w.heap.size+2=((w.alloc (.cells zW 28)).alloc (.cells #[.int .i64 0,.int .i64 0] 71)).heap.size by simp);have HL:=hid (fun W:World=>Prs.oX s W oA);obtain⟨ls,an⟩:∃ls,Prs.fT s=ls:=⟨_,rfl⟩
 rw[an] at HL hr ⊢;have n:=hid hr;have HK:=hid ar;have aL:(s.size:Int)<=4000:=oA;go_enter Tryz.func29,Tryz.ntmps29
 go_wp2_with fail
 refine (HL.out _).mono ?_;rintro r a ⟨lb,aM,rfl,ax,E⟩;generalize World.alloc (World.alloc w _) _=W0 at*;have L:=hid (btr B0 E);have al:=hid (cP D E);have am:=hid (cP R E);have O:=hid (show w.heap.size+2<=a.heap.size by have:=SZ.out;have:=E.size;omega);have ST:=hid ax;have T5:=hid (aY a zW 28 a.heap.size 11 rfl oD);go_upto_region 7 with (first|((with_reducible refine gst 28 ?_);refine wpList_store_mid rfl 28 _ _ rfl a.heap.size 0 zW rfl rfl T5 fO (by simp[Value.oneCell']) ?_))
 have u:=hid (World.there_setCells T5 a.heap.size 0 [.slice none 0 0,.slice none 0 0,.slice none 0 0,.slice none 0 0,.slice none 0 0,.slice none 0 0,.slice none 0 0,.slice none 0 0,.slice none 0 0,.slice none 0 0,.int .i64 0]);have KX:=hid (show Kp (fun k=>k=a.heap.size) (a.alloc (.cells zW 28)) ((a.alloc (.cells zW 28)).setCells a.heap.size 0 [.slice none 0 0,.slice none 0 0,.slice none 0 0,.slice none 0 0,.slice none 0 0,.slice none 0 0,.slice none 0 0,.slice none 0 0,.slice none 0 0,.slice none 0 0,.int .i64 0]) from aI (T:=fun k=>k=a.heap.size) (.inl rfl) _ _ _ (aP _ _));have B5:=hid (KX.below (bal (ai a.heap.size a) (.cells zW 28)) oS (fun k hk e=>oA));generalize World.setCells _ _ _ _=W5 at u B5 ⊢;generalize ay:a.heap.size=wb at u ⊢;have M:=hid ay;have NN:=hid n.nn;have aQ:(ls.length:Int)<=200:=by have:=n.nn;omega
 have LS:=hid (fun W (h:Below a.heap.size a W) k (hk:k<ls.length)=>show W.cell? ⟨lb,k,none⟩=some (.string ls[k]) from by have:=ST.out k hk;rw[az] at this;exact gA h this);have CU:=hid (fun W k (hk:k<ls.length)=>te ls[k] 32 W (by have:=n.sz ls[k] (aw hk);omega));have KN:=hid (fun W (h:Below a.heap.size a W)=>HK.below (btr L h))
 go_loopw [6,7] (fun g i wr=>∃k:Nat,k<=ls.length∧i=.int .i64 (k:Int)∧((k=0∧g=.bool false∧Hid (wr.there wb 0 11∧Below a.heap.size a wr))∨(1<=k∧g=.bool true∧∃tag V,Hid (Own a wr wb tag V (P k))))) (fun _ i _=>ls.length - (intOf i).toNat)
 case atStart=>exact⟨0,oA,rfl,.inl ⟨rfl,rfl,hid ⟨u.out,B5.out⟩⟩⟩
 case round=>
  obtain⟨k,hk,rfl,h2⟩:=hrel;rcases h2 with ⟨rfl,rfl,N⟩|⟨ao,rfl,tag,V,z⟩
  ·have n0:=n.n0;have aN:(0:Int)<(ls.length:Int):=oA;obtain⟨l,e1,av,au,hm,eP⟩:=n.one;obtain⟨f0,f1,c0,c1,z0,z1,hz⟩:=n.num;have j:=hid (CU.out wr 0 n0);have A:=LS.out _ N.2 0 n0;rw[show ls[0]=ls.getD 0 ByteArray.empty by rw[aa,ac n0];rfl] at j A;rw[e1] at j;have af:=hid (show 3<=l.length by have:=cX List.length hm;simp at this;omega);have WL:=hid (fun y cap W (h:fv W y 1 l)=>nP y 1 cap f c zs l W h av au hm f0 f1 c0 c1 z0 z1 hz);have EP:=hid eP;generalize ls.getD 0 ByteArray.empty=line at j A;have aH:(l.length:Int)<=100:=oA;go_wp2_with fail
   refine j.mono ?_;rintro r m ⟨y,J,rfl,I,F,Y⟩;obtain⟨x0,aA⟩:=gl I;have ag:=hid aA;have aF:¬J=1:=by have:=af.out;simp at Y;omega
   have aK:(1:Int)<=(l.length:Int)+1:=oA;have u:=hid (cP N.1 F);have B6:=hid (btr N.2 F);go_wp2_with fail
   refine (WL.out y (J - 1) m ag).mono ?_;rintro r w7 ⟨X,tag,rfl,hw,ad,G⟩;have T7:=hid (cP u G);have q:=hid (btr B6 G);have ah:=hid (aj _ _ (Option.isSome_iff_exists.1 (u.out 0 oA).1).choose_spec);have OW:=hid (show Own a (w7.setCells wb 0 [X 0,X 1,X 2,X 3,X 4,X 5,X 6,X 7,X 8,X 9,X 10]) wb (fun k=>if k=wb then 1 else tag k) X (P 1) from⟨by rw[EP.out];exact hw.box (ad wb ah) T7,fun k hk=>by rw[ae (by have:=M.out;omega)];exact ad k (aE hk B6.size),(aI (T:=fun k=>k=wb) (.inl rfl) _ _ _ (aP _ _)).below q q.size (fun k hk e=>by have:=M.out;omega)⟩);have p:=hid hw.EJ;go_wp2_with (first|((with_reducible refine gst 28 ?_);refine wpList_store_mid rfl 28 _ _ rfl wb 0 (dk X) rfl rfl T7 fO p ?_))
   exact⟨⟨1,oA,by go_num,.inr ⟨oA,rfl,_,X,OW⟩⟩,by simp[intOf];omega⟩
  by_cases H:k<ls.length
  ·have aJ:(k:Int)<(ls.length:Int):=oA;obtain⟨x,l,e1,nw,nc,bl⟩:=n.all k ao H;have j:=hid (CU.out wr k H);have A:=LS.out _ z.e k H;rw[show ls[k]=ls.getD k ByteArray.empty by rw[aa,ac H];rfl] at j A;rw[e1] at j;have BL:=hid bl;have aR:(x.toList==[119,111,114,108,100])=false:=by have:=pB nw;rw[ByteArray.toList_eq (bs:=⟨#[119,111,114,108,100]⟩)] at this;exact this
   have aO:(x.toList==[99,111,100,101])=false:=by have:=pB nc;rw[ByteArray.toList_eq (bs:=⟨#[99,111,100,101]⟩)] at this;exact this
   generalize ls.getD k ByteArray.empty=line at j A;go_wp2_with fail
   refine j.mono ?_;rintro r m ⟨y,J,rfl,I,F,Y⟩;have x0:=(gl I).1;have d:=hid (z.next F);have BC:=hid (BL.out m wb tag V y J d.b (KN.out _ d.e) I Y);go_wp2_with fail
   refine BC.mono ?_;rintro r w7 ⟨rfl,aB,V2,G,ap⟩;have p:=hid (d.to G ap);go_wp2_with fail
   exact⟨⟨k+1,oA,by go_num,.inr ⟨oA,rfl,aB,V2,p⟩⟩,by simp[intOf];omega⟩
  obtain rfl:k=ls.length:=oA;have aG:¬((ls.length:Int)<(ls.length:Int)):=oA;go_upto_region 26 with fail
  have L0:=hid (show w.heap.size<a.heap.size by have:=O.out;omega);have L1:=hid (show w.heap.size+1<a.heap.size by have:=O.out;omega);have aD:=hid (show w.heap.size≠wb∧w.heap.size+1≠wb by have:=O.out;have:=M.out;omega);have BE:=hid (aC wr 1);have OS:=hid z.b.o.EJ;have R5:=hid z.b.r;refine wp_region_held_drew (S:=fun W=>W.rangeAt wb 0 (dk V).toList) oK (dV R5 BE) (fun hH=>?_);refine tg 0 (.agg (dk V)) rfl (yieldsIf_load_mid oR _ _ rfl _ _ rfl (dk V).toList _ (fun _ h=>h) Tryz.underlying28 rfl fO) hH ?_;simp only[jj];refine wpAnyH_ready (rs:=[1]) oK oS (AllReadyH.cons rfl (fun K B=>?_) AllReadyH.nil);refine wnt oR ?_;simp only[cE,bc,aS];go_simp
  refine (oi _).mono ?_;rintro e m ⟨rfl,hb⟩;have d:=hid (z.next (btr BE hb));have D:=hid (cP al d.e);have R:=hid (cP am d.e);refine B _ _ d.b.r (fun _=>?_);have Z:Kp (fun k=>k=w.heap.size) m (m.setCells w.heap.size 0 (dk V).toList):=aI (T:=fun k=>k=w.heap.size) (.inl rfl) _ _ _ (aP _ _);have p:=hid (d.b.kp Z (fun k _ e=>by rw[e];exact d.t _ L0) (fun _ _=>rfl));have TZ:=hid d.t;have q:=hid (Z.below (btr L d.e) (btr L d.e).size (fun k hk e=>oA));have U:=hid (dJ R Z oA);have Q7:=hid (World.rangeAt_setCells_same m w.heap.size 0 (dk V).toList D);refine wpAnyH_ready (rs:=[2]) oK oS (AllReadyH.cons rfl (fun K B=>?_) AllReadyH.nil);refine wnt oR ?_;simp only[cE,bc,aS];refine wp_store_mid 28 _ _ rfl w.heap.size 0 (dk V) rfl rfl D fO OS ?_;generalize m.setCells w.heap.size 0 (dk V).toList=C at p q U Q7 ⊢;refine B _ _ p.r (fun _=>?_);have ab:Kp (fun k=>k=w.heap.size+1) C (C.setCells (w.heap.size+1) 0 [.int .i64 0,.int .i64 (-1)]):=aI (T:=fun k=>k=w.heap.size+1) (.inl rfl) _ _ _ (aP _ _);have Q:=hid (p.kp ab (fun k _ e=>by rw[e];exact TZ _ L1) (fun _ _=>rfl));have B8:=hid (ab.below q q.size (fun k hk e=>oA));have Q8:=hid (dY Q7 ab oA);have P8:=hid (World.rangeAt_setCells_same C (w.heap.size+1) 0 [.int .i64 0,.int .i64 (-1)] U.out);refine wpAnyH_ready (rs:=[3]) oK oS (AllReadyH.cons rfl (fun K B=>?_) AllReadyH.nil);refine wnt oR ?_;simp only[cE,bc,aS];refine r5 rfl (w.heap.size+1) rfl rfl U ?_;generalize C.setCells (w.heap.size+1) 0 [.int .i64 0,.int .i64 (-1)]=W8 at Q B8 Q8 P8 ⊢;refine B _ _ Q.r (fun _=>?_);refine dN oK ?_ _;go_wp2_with fail
  exact aq (v:=.tuple #[.agg (dk V),.agg #[.int .i64 0,.int .i64 (-1)]]) (lG rfl rfl (run_loadVar_mid _ w.heap.size 0 28 (dk V).toList _ Q8 Tryz.underlying28 rfl fO) rfl (run_loadVar_mid _ (w.heap.size+1) 0 71 [.int .i64 0,.int .i64 (-1)] _ P8 Tryz.underlying71 rfl iR)) rfl ⟨V,rfl,tag,Q.o,fun k hk=>TZ.out k (by have:=L0.out;omega),B8.out⟩
