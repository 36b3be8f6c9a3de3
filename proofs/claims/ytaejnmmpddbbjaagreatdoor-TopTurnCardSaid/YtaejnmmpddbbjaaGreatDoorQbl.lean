/- Qbl -/
import Derived.Deep.RegionHeld3
import Derived.Test.YtaejnmmpddbbjaaGreatDoorQbk
set_option maxRecDepth 100000
set_option maxHeartbeats 16000000
namespace Go.Proofs.YtaejnmmpddbbjaaGreatDoor
namespace Wd
def FB:PW:=wlP 24 2 [0]
def G1:PW:={FB with IB:=FB.IB.set 1 (clk 1 20)}
def G2:PW:=mkP G1 1 (2+((3:Nat):Int)) 1 2
def G3:PW:=mkP G2 1 (2+((2:Nat):Int)) 1 3
def G4:PW:=mkP G3 1 (2+((1:Nat):Int)) 1 4
def G5:PW:=mkP G4 1 (2+((0:Nat):Int)) 4 5
def G8:PW:=mkP G5 1 (2+((4:Nat):Int)) 2 9
def G9:PW:=mkP G8 1 (2+((5:Nat):Int)) 1 11
def zU:PW:=mkP G9 1 (2+((6:Nat):Int)) 1 12
def tO:PW:={zU with IB:=zU.IB.set 16 (kpS (zU.IB.getD 11 fC) (Bw.bw 6 ((zU.IB.getD 11 fC) 4).toNat 7:Nat) 5 11)}
def tP:PW:={tO with IB:=tO.IB.set 17 (kpS (tO.IB.getD 12 fC) (Bw.bw 6 ((tO.IB.getD 12 fC) 4).toNat 7:Nat) 2 12)}
def tQ:PW:={tP with IB:=tP.IB.set 18 (kpS (tP.IB.getD 10 fC) (Bw.bw 6 ((tP.IB.getD 10 fC) 4).toNat 7:Nat) 0 10)}
def tR:PW:={tQ with IB:=tQ.IB.set 19 (kpS (tQ.IB.getD 7 fC) (Bw.bw 6 ((tQ.IB.getD 7 fC) 4).toNat 3:Nat) 0 7)}
def tS:PW:={tR with IB:=tR.IB.set 20 (kpS (tR.IB.getD 3 fC) (Bw.bw 6 ((tR.IB.getD 3 fC) 4).toNat 7:Nat) 0 3)}
def tT:PW:={tS with IB:=tS.IB.set 21 (kpS (tS.IB.getD 4 fC) (Bw.bw 6 ((tS.IB.getD 4 fC) 4).toNat 7:Nat) 0 4)}
def tU:PW:={tT with IB:=tT.IB.set 22 (kpS (tT.IB.getD 2 fC) (Bw.bw 6 ((tT.IB.getD 2 fC) 4).toNat 7:Nat) 0 2)}
def Bb:PW:={tU with IB:=tU.IB.set 23 (kpS (tU.IB.getD 9 fC) (Bw.bw 6 ((tU.IB.getD 9 fC) 4).toNat 6:Nat) 0 9)}
def xD:PW:={Bb with IE:=Bb.IE.set (2*16+0/16) (32768+((3:Nat):Int))}
def xE:PW:={xD with IE:=xD.IE.set ((xD.IE.getD (2*16+0/16) 0).toNat%1024*16+0%16) (32768+((0:Nat):Int)*16384+((4:Nat):Int))}
def xF:PW:={xE with IE:=xE.IE.set ((xE.IE.getD (2*16+1/16) 0).toNat%1024*16+1%16) (32768+((0:Nat):Int)*16384+((5:Nat):Int))}
def FC:PW:={xF with IE:=xF.IE.set ((xF.IE.getD (2*16+2/16) 0).toNat%1024*16+2%16) (32768+((1:Nat):Int)*16384+((6:Nat):Int))}
def FD:PW:=eqP FC 8 (fun k=>[0,0,2,(-1),0,1,0].getD k 0)
def FE:PW:=eqP FD 9 (fun k=>[0,1,2,10,1,2,0].getD k 0)
def vr:PW:=FE
theorem CM:Iw=vr:=oK
end Wd
namespace Wd
open Go.RowKit Mem Bw Nums Mmu Hex Mad
def FG (L:Nat->Int):List Int:=(vr.IE.take 64++(List.range 32).map L)++vr.IE.drop 96
def p0 (L:Nat->Int):PW:={vr with IE:=FG L}
def iW (zs:List (Int×Int×Int×Int)) (i:Nat):Int:=if i%2=0 then q0 (zs.getD (i/2) (0,0,0,0)) else q1 (zs.getD (i/2) (0,0,0,0))
theorem p7 (zs:List (Int×Int×Int×Int)):cdN vr.IE 64 zs 16=FG (iW zs):=oK
theorem CZ {L:Nat->Int} (h:∀i,i<32->0<=L i∧L i<=65535):∀x∈FG L,0<=x∧x<=65535:=by
 have b:vr.IE.all (fun x=>decide (0<=x)&&decide (x<=65535))=true:=oK;rw[bf] at b;intro x a;unfold FG at a;rw[dA,dA] at a;rcases a with (a|a)|a
 ·have:=b x (List.mem_of_mem_take a);simpa using this
 ·obtain⟨i,hi,rfl⟩:=List.mem_map.1 a;exact h i (List.mem_range.1 hi)
 ·have:=b x (List.mem_of_mem_drop a);simpa using this
theorem od {zs:List (Int×Int×Int×Int)} (b:zs.length=16) (a:∀q∈zs,nz q):∀i,i<32->0<=iW zs i∧iW zs i<=65535:=fun i hi=>by
 have hk:i/2<zs.length:=oA;have:=CY (a zs[i/2] (av hk));unfold iW;rw[aa,ac hk];simp only[aG];split
 ·exact this.1
 ·exact this.2
theorem Da (w:World) (hk:KnW w):Calls Tryz.prog 29 #[.string Ba] w fun r w'=>∃X tag,r=.returned (.tuple #[.agg (cb X),.agg #[.int .i64 0,.int .i64 (-1)]])∧gh w' tag X vr∧(∀k,k<w.heap.size->tag k=0)∧Below w.heap.size w w':=by
 have:=kJ Ba _ 24 2 [0] w (ay oK) xG hk;rw[show gv (Prs.gJ Ba) (wlP 24 2 [0]) (Prs.gJ Ba).length=vr from CM] at this;exact this
theorem gh.up {w w':World} {tag:Nat->Nat} {X:Nat->Value} {p:PW} (h:gh w tag X p) (b:Below w.heap.size w w'):gh w' (jh tag w.heap.size) X p:=by
 have hk:Kp (fun _=>False) w w':=.IG b;have a:∀k,k<w.heap.size->jh tag w.heap.size k=tag k:=fun k h=>ke h;exact⟨h.IE.kp hk a (fun _ _=>id),h.kinds.kp hk a (fun _ _=>id),h.IB.kp hk a (fun _ _=>id),h.IA.kp hk a (fun _ _=>id),h.lines.kp hk a (fun _ _=>id),h.bits.kp hk a (fun _ _=>id),h.IC.kp hk a (fun _ _=>id),h.ready.kp hk a (fun _ _=>id),h.ID.kp hk a (fun _ _=>id),h.IF.kp hk a (fun _ _=>id),h.time⟩
end Wd
namespace Wd
open Go.RowKit Mem Bw Nums Mmu
theorem Gu {B:Nat} {a b:World} (h:Below B a b) (p:Addr) (u:Value):Below B (a.setCell p u) (b.setCell p u):=
 ⟨h.os,h.tape,h.output,by simp only[World.setCell,Array.size_modify];exact h.size,fun k hk=>by
  simp only[World.setCell,Array.getElem?_modify];rw[h.block k hk]⟩
theorem Eh {B:Nat} (b:Nat):∀(d:List Value) (o:Nat) {a c:World},Below B a c->Below B (a.setCells b o d) (c.setCells b o d)
 |[],_,_,_,h=>h
 |_::r,o,_,_,h=>Eh b r (o+1) (Gu h _ _)
theorem Ei {B:Nat}:∀(b:List (Nat×Nat×List Value)) {a c:World},Below B a c->Below B (sts a b) (sts c b)
 |[],_,_,h=>h
 |x::r,_,_,h=>Ei r (Eh x.1 x.2.2 x.2.1 h)
theorem um:∀(a:List (Nat×Nat×List Value)) (W:World),(sts W a).heap.size=W.heap.size
 |[],_=>rfl
 |x::r,W=>(um r (W.setCells x.1 x.2.1 x.2.2)).trans (by rw[fp])
theorem uC.below {W W':World} {lo:Nat} {V:Nat->Value} {p:PW} (h:uC W lo V p) (b:Below W.heap.size W W'):uC W' lo V p:=
 ⟨fun c e=>(h.f c e).below (by rw[um];exact Ei c b),by
  rcases h.o with h|⟨tag,a,d⟩
  ·exact .inl h
  ·have hk:Kp (fun _=>False) W W':=.IG b;exact .inr ⟨tag,⟨a.IE.kp hk (fun _ _=>rfl) (fun _ _=>id),a.kinds.kp hk (fun _ _=>rfl) (fun _ _=>id),a.IB.kp hk (fun _ _=>rfl) (fun _ _=>id),a.IA.kp hk (fun _ _=>rfl) (fun _ _=>id),a.lines.kp hk (fun _ _=>rfl) (fun _ _=>id),a.bits.kp hk (fun _ _=>rfl) (fun _ _=>id),a.IC.kp hk (fun _ _=>rfl) (fun _ _=>id),a.ready.kp hk (fun _ _=>rfl) (fun _ _=>id),a.ID.kp hk (fun _ _=>rfl) (fun _ _=>id),a.IF.kp hk (fun _ _=>rfl) (fun _ _=>id),a.time⟩,d⟩⟩
theorem Gx (a:Array Value) (W:World):(callFunc 25 a).run Tryz.prog W=.ok (.enter 25 a) W:=by
 go_simp
def pkV (p:PW) (a:Int):Int:=if dE p (pkE p a)=0 then (slP p a.toNat).IC.getD a.toNat 0 else 0
theorem uf (p:PW) (c:Nat):(slP p c).IC.length=p.IC.length:=by
 have a:∀(q:PW) (m:Int),(snx q m c).IC.length=q.IC.length:=by
  intro q m;unfold snx;split
  ·rfl
  ·show ((q.IC.map (noT _)).set c _).length=_
   rw[au,bJ]
 unfold slP;split
 ·exact a _ _
 ·split
  ·rfl
  ·rw[a];show (p.IC.map (noT _)).length=_
   rw[bJ]
theorem Ab (V:Nat->Value) (p:PW) (a:Int) (w:World) (O:fy w V p) (F:p.Fits) (hn:∀l∈p.ready,l.length<=50):
  Calls Tryz.prog 9 #[.agg (cb V),.int .i64 a] w fun x w'=>∃X,x=.returned (.tuple #[.agg (cb X),.int .i64 (pkV p a),eV (dE p (pkE p a))])∧fy w' X (dP p (slP p a.toNat) (pkE p a))∧Below w.heap.size w w':=by
 have an:=nC w V 28;have ao:=bj an (bal (ag _ (w.alloc (.cells (cb V) 28))) (.cells #[.int .i64 a] 3));have ap:=bj ao (bal (ag _ ((w.alloc (.cells (cb V) 28)).alloc (.cells #[.int .i64 a] 3))) (.cells zW 28));have RG:=hid ap;have P:=hid (bal (bal (bal (ag w.heap.size w) (.cells (cb V) 28)) (.cells #[.int .i64 a] 3)) (.cells zW 28));have y1:=(gx (ky (w.alloc (.cells (cb V) 28)) #[.int .i64 a] 3 (w.heap.size+1) oS) oS (.cells zW 28)) 0;have Z:=hid (show Bv [((w.heap.size+1),.int .i64 a)] (((w.alloc (.cells (cb V) 28)).alloc (.cells #[.int .i64 a] 3)).alloc (.cells zW 28)) from fun x hx=>by
  simp only[bI,dc,or_false] at hx;subst hx;exact y1)
 have L:=hid (show (((w.alloc (.cells (cb V) 28)).alloc (.cells #[.int .i64 a] 3)).alloc (.cells zW 28)).heap.size=w.heap.size+3 by simp);have TR:=hid (aR ((w.alloc (.cells (cb V) 28)).alloc (.cells #[.int .i64 a] 3)) zW 28 (w.heap.size+2) 11 oS oD);clear an ao ap;have HL:=hid (sH O.ID);have f:=hid (Ew 25 #[ptr (w.heap.size+1)] (Bv [((w.heap.size+1),.int .i64 a)]) V p (slP p a.toNat) (pkE p a) (((w.alloc (.cells (cb V) 28)).alloc (.cells #[.int .i64 a] 3)).alloc (.cells zW 28)) (O.below P) F Gx (fun X h=>Z.below h) (fun h=>(xO _ a p F hn h).J4 (by rw[Dg];exact HL)));unfold ptr at f;have ad:=hid (fun (h:mf p=true)=>(ui h).lf.c1);by_cases c:dE p (pkE p a)=0
 rotate_left
 ·have B:=hid (show pkV p a=0 from ae c);have s:=hid (show dP p (slP p a.toNat) (pkE p a)=noP from ae c);rw[Hv c] at f ⊢;rw[B.out,s.out];rw[s.out] at f;have aF:=hid c;generalize dE p (pkE p a)=de at f aF ⊢;clear O F hn HL y1 c B s ad;go_enter Tryz.func9,Tryz.ntmps9
  go_wp2_with (first|((with_reducible refine gld 28 ?_);refine hU oR _ rfl _ rfl V RG ?_))
  generalize World.alloc _ _=W0 at*;refine f.mono ?_;rintro q0 w1 ⟨X,rfl,hF,e⟩;have H:=hid (show w.heap.size+3<=w1.heap.size by have:=e.size;rw[L.out] at this;exact this);have C:=hid (bU TR e);have G:=hid (Z.below e);have r:=hF.v0;have j:=hid (aR w1 zW 28 w1.heap.size 11 rfl oD);have one:=hid (gm r);have d:=hid (show Below w1.heap.size w1 ((w1.alloc (.cells zW 28)).setCells w1.heap.size 0 (cb X).toList) from bX (bal (ag _ w1) (.cells zW 28)) (aq _) _ 0);have J:=hid (World.rangeAt_setCells_same (w1.alloc (.cells zW 28)) w1.heap.size 0 (cb X).toList j);have M:=hid (r.below d);have U:=hid ((hF.below d).mono (show w.heap.size+3<=_ by rw[L.out];exact aq _));have Q:=hid (btr (btr P e) d);clear r hF e f;go_upto_region 2 with (first|((with_reducible refine gst 28 ?_);refine wpList_store_mid rfl 28 _ _ rfl w1.heap.size 0 (cb X) rfl rfl j fq one ?_))
  generalize World.setCells _ _ _ _=b at*;have D:=hid (bU C d);have zo:=hid (gm (gT w1));have RZ:=hid (World.rangeAt_setCells_same b (w.heap.size+2) 0 (cb iw).toList D);have T:=hid (bX Q (show w.heap.size<=w.heap.size+2 by omega) (cb iw).toList 0);clear j one d C J M U G H;go_wp2_with (first|((with_reducible refine gst 28 ?_);refine wpList_store_mid rfl 28 _ _ rfl (w.heap.size+2) 0 (cb iw) rfl rfl D fq zo ?_))
  exact ar (v:=.tuple #[.agg (cb iw),.int .i64 0,.iface 36 (.int .i64 de)]) (dD rfl rfl (run_loadVar_mid _ (w.heap.size+2) 0 28 (cb iw).toList _ RZ Tryz.underlying28 rfl fq) rfl rfl) rfl ⟨iw,rfl,gT _,T.out⟩
 have aA:mf p=true:=by
  unfold dE at c
  cases h:mf p with
  |true=>rfl
  |false=>rw[h] at c;cases c
 have N:pkE p a=0:=by rw[GI aA] at c;exact c
 have aB:dH 0 ((p.IC.length:Int) - 1) a=true:=by
  unfold pkE at N
  cases h:dH 0 ((p.IC.length:Int) - 1) a with
  |true=>rfl
  |false=>rw[h] at N;cases N
 obtain⟨n,rfl,ay⟩:=rD aB;have B:=hid (show pkV p n=(slP p n).IC.getD n 0 by unfold pkV;rw[ah c,af]);have s:=hid (show dP p (slP p (n:Int).toNat) (pkE p n)=slP p n by unfold dP;rw[ah c,af]);rw[s.out] at f ⊢;rw[c,Hu] at f ⊢;rw[B.out];have t:n<(slP p n).IC.length:=by rw[uf];exact ay
 have aL:((slP p n).IC.length:Int)<=1000:=by rw[uf];have:=F.IC;omega
 have aK:=hid t;have aM:(n:Int)<((slP p n).IC.length:Int):=oA;clear O F hn HL y1 c aA N aB ay ad B s;generalize slP p n=q at*;go_enter Tryz.func9,Tryz.ntmps9
 go_wp2_with (first|((with_reducible refine gld 28 ?_);refine hU oR _ rfl _ rfl V RG ?_))
 generalize World.alloc _ _=W0 at*;refine f.mono ?_;rintro q0 w1 ⟨X,rfl,hF,e⟩;have H:=hid (show w.heap.size+3<=w1.heap.size by have:=e.size;rw[L.out] at this;exact this);have C:=hid (bU TR e);have G:=hid (Z.below e);have r:=hF.v0;have j:=hid (aR w1 zW 28 w1.heap.size 11 rfl oD);have one:=hid (gm r);have d:=hid (show Below w1.heap.size w1 ((w1.alloc (.cells zW 28)).setCells w1.heap.size 0 (cb X).toList) from bX (bal (ag _ w1) (.cells zW 28)) (aq _) _ 0);have J:=hid (World.rangeAt_setCells_same (w1.alloc (.cells zW 28)) w1.heap.size 0 (cb X).toList j);have M:=hid (r.below d);have U:=hid ((hF.below d).mono (show w.heap.size+3<=_ by rw[L.out];exact aq _));have Q:=hid (btr (btr P e) d);clear r hF e f;go_upto_region 2 with (first|((with_reducible refine gst 28 ?_);refine wpList_store_mid rfl 28 _ _ rfl w1.heap.size 0 (cb X) rfl rfl j fq one ?_))
 generalize World.setCells _ _ _ _=b at*;have D:=hid (bU C d);have C3:=hid ((G.below d) ((w.heap.size+1),.int .i64 n) oS);have aj:=hid (show w.heap.size+3<=w1.heap.size from H);generalize aI:w1.heap.size=u at*;have aE:=aj;clear aj H;clear j one d C aI G;go_upto_region 4 with fail
 obtain⟨qx,bx,g,E,ex,az,aC⟩:=M.IC;have aH:=az oA;subst aH;have av:=aC n t;obtain⟨y,hy⟩:∃y,q.IC.getD n 0=y:=⟨_,rfl⟩
 have cy:b.cell? ⟨bx,g+n,none⟩=some (.int .i64 y):=by
  rw[<-hy,aa,ac t];exact av
 have al:=hid hy;clear av;have au:b.cell? ⟨u,6,none⟩=some (.slice (some ⟨bx,g,none⟩) q.IC.length E):=by rw[ai J (k:=6) rfl,ex]
 have A:Hid (Below b.heap.size b b.drew):=hid (aD b 1);have I:=hid (show b.drew.cell? ⟨u,6,none⟩=some (.slice (some ⟨bx,g,none⟩) q.IC.length E)∧b.drew.cell? ⟨w.heap.size+1,0,none⟩=some (.int .i64 n)∧b.drew.cell? ⟨bx,g+n,none⟩=some (.int .i64 y) from⟨au,C3.out,cy⟩);have RR:=hid (bj J A);have T3:=hid (bU D A);have one:=hid (gm M);have RZ:=hid (World.rangeAt_setCells_same b.drew (w.heap.size+2) 0 (cb X).toList T3);have T:=hid (bX (btr Q A) (show w.heap.size<=w.heap.size+2 by omega) (cb X).toList 0);have FZ:=hid ((U.below A).put (w.heap.size+2) 0 (cb X).toList oA).v0;have am:=hid (show q.IC[n]'t=y by rw[<-al.out,aa,ac t];rfl);have ab:=hid (show (b.drew.setCells (w.heap.size+2) 0 (cb X).toList).cell? ⟨u,6,none⟩=some (.slice (some ⟨bx,g,none⟩) q.IC.length E)∧(b.drew.setCells (w.heap.size+2) 0 (cb X).toList).cell? ⟨w.heap.size+1,0,none⟩=some (.int .i64 n)∧(b.drew.setCells (w.heap.size+2) 0 (cb X).toList).cell? ⟨bx,g+n,none⟩=some (.int .i64 y) from⟨(fY (by have:=aE.out;omega) _ 0).trans I.1,(fY oA _ 0).trans I.2.1,by
  obtain⟨q5,b5,o5,c5,e5,aG,aJ⟩:=FZ.IC;rw[ex] at e5
  cases e5
  have h5:=aG oA
  cases h5
  have:=aJ n t;rw[am.out] at this;exact this⟩)
 clear au cy aC az hy A D C3 al;refine dZ (S:=fun Y=>Y.cell? ⟨u,6,none⟩=some (.slice (some ⟨bx,g,none⟩) q.IC.length E)∧Y.cell? ⟨w.heap.size+1,0,none⟩=some (.int .i64 n)∧Y.cell? ⟨bx,g+n,none⟩=some (.int .i64 y)) (R:=fun Y=>Y.rangeAt u 0 (cb X).toList) [6] oK I RR (fun ax aw=>?_);have o:=hid ax;have m:=hid aw;clear ax aw I RR;refine ek (i:=0) (v:=.agg (cb X)) rfl oK oK oK oK oK oK (fun _ _ _ h=>h) (yieldsIf_load_mid oR _ _ rfl _ _ rfl ((cb X).toList) _ (fun _ h=>h.2) Tryz.underlying28 rfl fq) o (fun _=>m.out) ?_;simp only[jj];refine tF 1 (.pointer (some ⟨u,6,none⟩)) rfl o (fun _=>m.out) ?_;simp only[jj];refine fD (i:=2) (v:=.slice (some ⟨bx,g,none⟩) q.IC.length E) rfl oK oK oK oK (fun _ _ _ h=>h) (Or.inl ⟨oR,fun W h=>by have h3:=h.1;clear h;go_simp⟩) o (fun _=>m.out) ?_;simp only[jj];refine fD (i:=3) (v:=.int .i64 n) rfl oK oK oK oK (fun _ _ _ h=>h) (Or.inl ⟨oR,fun W h=>by have h3:=h.2.1;clear h;go_simp⟩) o (fun _=>m.out) ?_;simp only[jj];refine tF 4 (.pointer (some ⟨bx,g+n,none⟩)) rfl o (fun _=>m.out) ?_;simp only[jj];refine fD (i:=5) (v:=.int .i64 y) rfl oK oK oK oK (fun _ _ _ h=>h) (Or.inl ⟨oR,fun W h=>by have h3:=h.2.2;clear h;go_simp⟩) o (fun _=>m.out) ?_;simp only[jj];refine r1 6 rfl (fun K hK=>?_);refine wp_store_mid 28 _ _ rfl (w.heap.size+2) 0 (cb X) rfl rfl T3 fq one ?_;generalize World.setCells _ _ _ _=W4 at*;refine hK _ _ ab (eK oK) (fun _ _=>?_);clear hK K
 try simp only[Act.put]
 refine fD (i:=7) (v:=.int .i64 y) rfl oK oK oK oK (fun _ _ _ h=>h) (Or.inl ⟨oR,fun W h=>by clear h;go_simp⟩) ab (eK oK) ?_;simp only[jj];refine fD (i:=8) (v:=.nilIface) rfl oK oK oK oK (fun _ _ _ h=>h) (Or.inl ⟨oR,fun W h=>by clear h;go_simp⟩) ab (eK oK) ?_;simp only[jj];refine dL oK ?_ _;clear o m;go_wp2_with fail
 exact ar (v:=.tuple #[.agg (cb X),.int .i64 y,.nilIface]) (dD rfl rfl (run_loadVar_mid _ (w.heap.size+2) 0 28 (cb X).toList _ RZ Tryz.underlying28 rfl fq) rfl rfl) rfl ⟨X,dJ (fun z=>Ending.returned (.tuple #[.agg (cb X),.int .i64 z,.nilIface])) am.symm,FZ.out,T.out⟩
end Wd
namespace Wd
open Go.RowKit Mem Bw Nums Mmu Hex Mad
theorem Ht {p:PW} {e:Int} (b:mf p=true) (a:e=0):dE p e=0:=by unfold dE;rw[b,ah rfl,a]
theorem Ip {p q:PW} {e:Int} (b:mf p=true) (a:e=0):dP p q e=q:=by unfold dP;rw[Ht b a,ah rfl]
theorem vD {w:World} {X:Nat->Value} {p:PW} (a:fy w X p):Below w.heap.size w ((w.alloc (.cells zW 28)).setCells w.heap.size 0 [X 0,X 1,X 2,X 3,X 4,X 5,X 6,X 7,X 8,X 9,X 10])∧((w.alloc (.cells zW 28)).setCells w.heap.size 0 [X 0,X 1,X 2,X 3,X 4,X 5,X 6,X 7,X 8,X 9,X 10]).rangeAt w.heap.size 0 (cb X).toList∧((w.alloc (.cells zW 28)).setCells w.heap.size 0 [X 0,X 1,X 2,X 3,X 4,X 5,X 6,X 7,X 8,X 9,X 10]).there w.heap.size 0 11∧fy ((w.alloc (.cells zW 28)).setCells w.heap.size 0 [X 0,X 1,X 2,X 3,X 4,X 5,X 6,X 7,X 8,X 9,X 10]) X p:=by
 have t:=aR w zW 28 w.heap.size 11 rfl oD;have b0:=bal (ag w.heap.size w) (.cells zW 28);have k:Kp (fun k=>k=w.heap.size) (w.alloc (.cells zW 28)) ((w.alloc (.cells zW 28)).setCells w.heap.size 0 [X 0,X 1,X 2,X 3,X 4,X 5,X 6,X 7,X 8,X 9,X 10]):=aK (T:=fun k=>k=w.heap.size) (.inl rfl) _ _ _ (aV _ _);have b1:=k.below b0 b0.size (fun k hk e=>oA);exact⟨b1,World.rangeAt_setCells_same _ w.heap.size 0 (cb X).toList t,World.there_setCells t _ _ _,a.below b1⟩
theorem fy.I6 {w:World} {X:Nat->Value} {p:PW} (h:fy w X p):(cb X).all (·.oneCell')=true:=by
 simp only[List.all_toArray,List.all_cons,List.all_nil,Bool.and_true,h.IE.one,h.kinds.one,h.IB.one,h.IA.one,h.lines.one,h.bits.one,h.IC.one,h.ready.one,h.ID.one,h.IF.one,dF];rw[h.time];rfl
end Wd
namespace Wd
open Go.RowKit Mem Bw Nums Mmu
theorem lY {α:Type} {l:List α} {f:α->Bool} {d:α} (h:l.all f=true) (a:f d=true) (n:Nat):f (l.getD n d)=true:=by
 rw[aa]
 cases e:l[n]? with
 |none=>exact a
 |some x=>exact bf.1 h x (cV e)
def dpN (p:PW):Nat->Nat->Nat
 |0,_=>0
 |f+1,i=>if p.s i 6= -1 then 0 else dpN p f (p.s i 6).toNat+1
def ky1 (p:PW) (c i:Nat):Bool:=
 if p.s i 0==0 then (List.range 6).all (fun k=>p.s i k==0)&&p.s i 6== -1
 else p.k (i/16)==5&&kc (p.s i)==0&&decide (p.s i 1+p.s i 2<=(p.kinds.length:Int))&&(p.s i 0==1||isB p (p.s i 1) (p.s i 0))&&(p.s i 6== -1||(decide (0<=p.s i 6)&&p.s (p.s i 6).toNat 0 !=0&&cmB (p.s (p.s i 6).toNat) (p.s i)&&decide (dpN p 8 (p.s i 6).toNat<dpN p 8 i)))&&(p.s i 0 !=1||i==c)&&(p.s i 0==1||p.s i 6 != -1|| !clI (p.s i 1) (p.s c))
def us1 (p:PW) (c n:Nat):Bool:=p.k n==0||(!un n (p.s c)&&(List.range p.IB.length).any fun i=>opn n (p.s i))
def ts1 (p:PW) (n:Nat):Bool:=p.t n 9==0&&p.t n 14== -1&&p.t n 17== -1&&(List.range 20).all fun k=>if p.k n==6 then fOk p k (p.t n k) else p.t n k==bl k
def stB (p:PW) (c:Nat):Bool:=
 ((List.range p.IB.length).all (ky1 p c)&&(List.range p.kinds.length).all (us1 p c))&&((List.range p.kinds.length).all (ts1 p)&&(p.kinds.all fun k=>decide (0<=k∧k<=8∧k≠1))&&p.IF.all fun k=>decide (0<=k∧k<=3))&&((p.lines.all (·.isEmpty)&&p.ready.all (·.isEmpty))&&(p.IC.all (· == -1)&&p.bits.all (· ==0)&&p.ID.all (·.isEmpty)))&&(List.range p.IE.length).all fun i=> !beB p (p.k (i/16)) (p.IE.getD i 0)
theorem wO {p:PW} {i:Nat} (h:p.IB.length<=i):p.s i=eS:=by
 show p.IB.getD i eS=_
 rw[aa,aH h];rfl
theorem Cu {p:PW} {n:Nat} (h:p.kinds.length<=n):p.k n=0:=by
 show p.kinds.getD n 0=_
 rw[aa,aH h];rfl
theorem Fg {p:PW} (c:Nat) (Y:∀x∈p.IE,0<=x∧x<=65535) (lf:LF p) (tm:0<=p.time) (h:stB p c=true):Lw p:=by
 unfold stB at h;simp only[am] at h;obtain⟨⟨⟨⟨r,G⟩,⟨P,Q⟩,S⟩,⟨E,U⟩,⟨V,W⟩,N⟩,O⟩:=h;have K:∀i,p.s i 0≠0->ky1 p c i=true∧i<p.IB.length:=fun i hi=>by
  rcases cU i p.IB.length with e|e
  ·exact⟨bf.1 r i (List.mem_range.2 e),e⟩
  ·rw[wO e] at hi;exact absurd rfl hi
 have q:∀i,p.s i 0≠0->p.k (i/16)=5∧vu p (p.s i)∧(p.s i 6= -1∨∃u:Nat,p.s i 6=u∧p.s u 0≠0∧cmB (p.s u) (p.s i)=true∧dpN p 8 u<dpN p 8 i)∧(p.s i 0=1->i=c)∧(p.s i 0≠1->p.s i 6= -1->clI (p.s i 1) (p.s c)=false):=fun i hi=>by
  have hk:=(K i hi).1;unfold ky1 at hk;rw[ae (by simpa using hi)] at hk;simp only[am,cJ,bH,bne_iff_ne,bp,dX] at hk;obtain⟨⟨⟨⟨⟨⟨a1,y⟩,A⟩,D⟩,I⟩,J⟩,o⟩:=hk;refine⟨a1,⟨y,A,D⟩,I.elim .inl fun b=>.inr ⟨(p.s i 6).toNat,oA,b.1.1.2,b.1.2,b.2⟩,fun e=>J.resolve_left fun f=>f e,fun e f=>?_⟩;rcases o with (o|o)|o
  ·exact absurd o e
  ·exact absurd f o
  ·exact o
 have w:∀n i,clI n (p.s i)=true->i=c:=fun n i hi=>by
  unfold clI at hi;simp only[am,bH] at hi;exact (q i (by rw[hi.1];decide)).2.2.2.1 hi.1
 have F:∀n i,i≠c->clI n (p.s i)=false:=fun n i hi=>by
  cases e:clI n (p.s i) with
  |false=>rfl
  |true=>exact absurd (w n i e) hi
 have T:∀n,p.t n 9=0∧p.t n 14= -1∧p.t n 17= -1∧∀k,k<20->if p.k n=6 then fOk p k (p.t n k)=true else p.t n k=bl k:=fun n=>by
  rcases cU n p.kinds.length with e|e
  ·have:=bf.1 P n (List.mem_range.2 e);unfold ts1 at this;simp only[am,bH] at this;obtain⟨⟨⟨a1,y⟩,A⟩,D⟩:=this;refine⟨a1,y,A,fun k hk=>?_⟩;have:=bf.1 D k (List.mem_range.2 hk);split
   ·rename_i e6
    rwa [ah e6] at this
   ·rename_i e6;rw[ae e6] at this;simpa using this
  ·have et:p.t n=bl:=by
    show p.IA.getD n bl=_
    rw[aa,aH (by have:=lf.IA;omega)];rfl
   rw[et,Cu e];exact⟨rfl,rfl,rfl,fun k _=>by rw[ae oD]⟩
 have L:∀a,p.li a=[]:=fun a=>by have:=lY (d:=[]) E rfl a;simpa using this
 have R:∀a,p.re a=[]:=fun a=>by have:=lY (d:=[]) U rfl a;simpa using this
 have C:∀a,p.co a= -1:=fun a=>by have:=lY (d:= -1) V rfl a;simpa using this
 have B:∀a,p.bi a=0:=fun a=>by have:=lY (d:=0) W rfl a;simpa using this
 refine⟨⟨fun k hk=>ay (bf.1 Q k hk),fun k hk=>ay (bf.1 S k hk),⟨dpN p 8,?_⟩,fun n g=>?_,⟨Y,fun i hi=>by have:=bf.1 O i (List.mem_range.2 hi);simpa using this⟩,⟨lf,⟨fun n g k hk=>by have:=(T n).2.2.2 k hk;rwa [ae g] at this,fun n g k hk=>by have:=(T n).2.2.2 k hk;rwa [ah g] at this⟩,⟨fun n=>.inl (T n).2.2.1,fun u H=>(by rw[(T u).1] at H;cases H),fun n m u g=>(by rw[(T n).2.2.1] at g;omega)⟩,?_⟩⟩,fun l hl=>?_,tm⟩
 ·exact {
   em:=fun i hi=>by
    rcases cU i p.IB.length with e|e
    ·have hk:=bf.1 r i (List.mem_range.2 e);unfold ky1 at hk;rw[ah (by simpa using hi)] at hk;simp only[am,bH] at hk;exact⟨fun k h=>by have:=bf.1 hk.1 k (List.mem_range.2 h);simpa using this,hk.2⟩
    ·rw[wO e];exact⟨fun k h=>by unfold eS;rw[ae oA],rfl⟩
   nd:=fun i hi=>.inl (q i hi).1
   key:=fun i hi=>(q i hi).2.1
   up:=fun i=>by
    by_cases e:p.s i 0=0
    ·refine .inl ?_;rcases cU i p.IB.length with e2|e2
     ·have hk:=bf.1 r i (List.mem_range.2 e2);unfold ky1 at hk;rw[ah (by simpa using e)] at hk;simp only[am,bH] at hk;exact hk.2
     ·rw[wO e2];rfl
    ·exact (q i e).2.2.1
   one:=fun n i j hi X=>(w n i hi).trans (w n j X).symm
   us:=fun n g i=>by
    by_cases e:i=c
    ·subst e;have hl:=Nat.lt_of_not_le fun h=>g (Cu h);have:=bf.1 G n (List.mem_range.2 hl);unfold us1 at this;simp only[cJ,am,bH,dX] at this;exact (this.resolve_left g).1
    ·unfold un;rw[F n i e];rfl
   gp:=fun i hi r E M=>by
    by_cases e:M=c
    ·rw[e];exact (q i hi).2.2.2.2 r E
    ·exact F _ _ e}
 ·have hl:=Nat.lt_of_not_le fun h=>g (Cu h);have:=bf.1 G n (List.mem_range.2 hl);unfold us1 at this;simp only[cJ,am,bH,dX,List.any_eq_true] at this;obtain⟨i,_,hi⟩:=(this.resolve_left g).2;exact⟨i,hi⟩
 ·exact {
   hk:=fun n h=>h.elim
   a1:=fun n _ _ _=>(T n).2.1
   la:=fun n _ _ h=>absurd (by rw[(T n).1];rfl) h
   ln:=fun a z v=>by rw[L a] at v;cases v
   lu:=fun a=>by rw[L a];exact List.nodup_nil
   lw:=fun a n m g=>by rw[L a] at g;cases g
   bt:=fun a=>.inl (B a)
   rd:=fun i z v=>by rw[R i] at v;cases v
   ru:=fun i=>by rw[R i];exact List.nodup_nil
   cr:=fun a=>.inl (C a)
   rq:=fun n _ _ h=>by rw[(T n).1] at h;cases h}
 ·have:l=[]:=by have:=bf.1 N l hl;simpa using this
  subst this;exact⟨oD,(fun _ h=>by cases h),List.Pairwise.nil⟩
theorem Hc (L:Nat->Int) (h:∀i,i<32->0<=L i∧L i<=65535):Lv (p0 L):=
 ⟨Fg 1 (CZ h) (tD oK) (by show (0:Int)<=0;decide) oK,by show (0:Int)<=1000000;decide⟩
end Wd
namespace Wd
open Go.RowKit Mem Bw Nums Mmu Hex
def qH:ByteArray:=⟨#[119,111,114,108,100,32,50,50,32,49,32,48,32,49,32,48,10,99,108,97,121,32,49,32,49,32,49,57,10,109,97,107,101,32,110,111,100,101,32,49,32,49,32,50,10,109,97,107,101,32,115,112,97,99,101,32,49,32,49,32,51,10,109,97,107,101,32,116,97,98,108,101,32,49,32,49,32,52,10,109,97,107,101,32,112,97,103,101,32,49,32,51,32,53,10,109,97,107,101,32,116,97,115,107,32,49,32,51,32,56,10,109,97,107,101,32,100,111,111,114,32,49,32,50,32,49,49,10,109,97,107,101,32,98,101,108,108,32,49,32,49,32,49,51,10,99,111,112,121,32,49,49,32,49,54,32,55,32,57,10,99,111,112,121,32,49,50,32,49,55,32,51,32,48,10,99,111,112,121,32,49,51,32,49,56,32,55,32,52,10,99,111,112,121,32,56,32,49,57,32,55,32,48,10,99,111,112,121,32,53,32,50,48,32,49,32,48,10,101,110,116,101,114,32,50,32,48,32,51,32,48,10,101,110,116,101,114,32,50,32,48,32,52,32,48,10,101,110,116,101,114,32,50,32,49,32,53,32,48,10,101,110,116,101,114,32,50,32,50,32,54,32,49,10,101,113,117,105,112,32,55,32,48,32,50,32,45,32,48,32,49,32,48,10,101,113,117,105,112,32,56,32,49,32,50,32,49,48,32,48,32,49,32,48,10,101,113,117,105,112,32,57,32,49,32,50,32,49,49,32,48,32,51,32,49,10]⟩
def AZ:PW:=wlP 22 1 [0,1,0]
def Fh:PW:={AZ with IB:=AZ.IB.set 1 (clk 1 19)}
def Fi:PW:=mkP Fh 1 (2+((3:Nat):Int)) 1 2
def Fj:PW:=mkP Fi 1 (2+((2:Nat):Int)) 1 3
def Fk:PW:=mkP Fj 1 (2+((1:Nat):Int)) 1 4
def Fl:PW:=mkP Fk 1 (2+((0:Nat):Int)) 3 5
def Fm:PW:=mkP Fl 1 (2+((4:Nat):Int)) 3 8
def Fp:PW:=mkP Fm 1 (2+((5:Nat):Int)) 2 11
def tI:PW:=mkP Fp 1 (2+((6:Nat):Int)) 1 13
def pw:PW:={tI with IB:=tI.IB.set 16 (kpS (tI.IB.getD 11 fC) (Bw.bw 6 ((tI.IB.getD 11 fC) 4).toNat 7:Nat) 9 11)}
def px:PW:={pw with IB:=pw.IB.set 17 (kpS (pw.IB.getD 12 fC) (Bw.bw 6 ((pw.IB.getD 12 fC) 4).toNat 3:Nat) 0 12)}
def py:PW:={px with IB:=px.IB.set 18 (kpS (px.IB.getD 13 fC) (Bw.bw 6 ((px.IB.getD 13 fC) 4).toNat 7:Nat) 4 13)}
def pz:PW:={py with IB:=py.IB.set 19 (kpS (py.IB.getD 8 fC) (Bw.bw 6 ((py.IB.getD 8 fC) 4).toNat 7:Nat) 0 8)}
def xg:PW:={pz with IB:=pz.IB.set 20 (kpS (pz.IB.getD 5 fC) (Bw.bw 6 ((pz.IB.getD 5 fC) 4).toNat 1:Nat) 0 5)}
def sn:PW:={xg with IE:=xg.IE.set (2*16+0/16) (32768+((3:Nat):Int))}
def so:PW:={sn with IE:=sn.IE.set ((sn.IE.getD (2*16+0/16) 0).toNat%1024*16+0%16) (32768+((0:Nat):Int)*16384+((4:Nat):Int))}
def sp:PW:={so with IE:=so.IE.set ((so.IE.getD (2*16+1/16) 0).toNat%1024*16+1%16) (32768+((0:Nat):Int)*16384+((5:Nat):Int))}
def CC:PW:={sp with IE:=sp.IE.set ((sp.IE.getD (2*16+2/16) 0).toNat%1024*16+2%16) (32768+((1:Nat):Int)*16384+((6:Nat):Int))}
def CD:PW:=eqP CC 7 (fun k=>[0,0,2,(-1),0,1,0].getD k 0)
def CE:PW:=eqP CD 8 (fun k=>[0,1,2,10,0,1,0].getD k 0)
def CG:PW:=eqP CE 9 (fun k=>[0,1,2,11,0,3,1].getD k 0)
def lW:PW:=CG
theorem CH:gv (Prs.gJ qH) (wlP 22 1 [0,1,0]) (Prs.gJ qH).length=lW:=oK
theorem uY:yK (Prs.gJ qH) (gv (Prs.gJ qH) (wlP 22 1 [0,1,0])) 22 1 [0,1,0]:=
 t6 (l:=[⟨#[50,50]⟩,⟨#[49]⟩,⟨#[48]⟩,⟨#[49]⟩,⟨#[48]⟩]) (ay oK) (ay oK) oK oK oD oD oK oD oK oK
end Wd
namespace Wd
open Go.RowKit Mem Bw Nums Mmu Hex Mad
def FH (L:Nat->Int):List Int:=(lW.IE.take 64++(List.range 32).map L)++lW.IE.drop 96
def m0 (L:Nat->Int):PW:={lW with IE:=FH L}
theorem qI (zs:List (Int×Int×Int×Int)):cdN lW.IE 64 zs 16=FH (iW zs):=oK
theorem C4 {L:Nat->Int} (h:∀i,i<32->0<=L i∧L i<=65535):∀x∈FH L,0<=x∧x<=65535:=by
 have b:lW.IE.all (fun x=>decide (0<=x)&&decide (x<=65535))=true:=oK;rw[bf] at b;intro x a;unfold FH at a;rw[dA,dA] at a;rcases a with (a|a)|a
 ·have:=b x (List.mem_of_mem_take a);simpa using this
 ·obtain⟨i,hi,rfl⟩:=List.mem_map.1 a;exact h i (List.mem_range.1 hi)
 ·have:=b x (List.mem_of_mem_drop a);simpa using this
theorem GX (L:Nat->Int) (h:∀i,i<32->0<=L i∧L i<=65535):Lv (m0 L):=
 ⟨Fg 1 (C4 h) (tD oK) (by show (0:Int)<=0;decide) oK,by show (0:Int)<=1000000;decide⟩
