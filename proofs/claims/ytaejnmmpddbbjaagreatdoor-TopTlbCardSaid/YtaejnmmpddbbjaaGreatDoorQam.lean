/- Qam -/
import Derived.Maps.AppendAt
import Derived.Deep.RegionHeld3
import Derived.BigQuiet
import Derived.Deep.CutBlock
import Derived.Test.YtaejnmmpddbbjaaGreatDoorQal
set_option maxRecDepth 100000
set_option maxHeartbeats 16000000
namespace Go.Proofs.YtaejnmmpddbbjaaGreatDoor
namespace Mmu
open Go.RowKit Mem Bw Nums
end Mmu
namespace Wd
open Go.RowKit Mem Bw Nums Mmu
theorem iP {p q:PW} (a:q.Eb=p.Eb) (b:q.kinds=p.kinds) (e:Ent):eG q e=eG p e:=by
 unfold eG isB eX;rw[a,b]
def fgt (p:PW):PW:={p with D9:=p.D9.map (en fun e=> !eG p e)}
end Wd
namespace Mmu
open Go.RowKit Mem Bw Nums
theorem fG (l:List Ent) (q:Ent):dE (l++[q])=dE l++[.int .i64 q.1,.int .i64 q.2.1,.int .i64 q.2.2.1,.bool q.2.2.2]:=by
 unfold dE;rw[List.flatMap_append];rfl
theorem gj (W:World) (a b c d:Value) (e:TypeId):∀(j:Nat) (x:Value),[a,b,c,d][j]? =some x->(W.alloc (.cells #[a,b,c,d] e)).cell? ((⟨W.heap.size,0,none⟩:Addr).add j)=some x:=by
 intro j x h;rw[show (⟨W.heap.size,0,none⟩:Addr).add j=⟨W.heap.size,j,none⟩ from by unfold Addr.add;split<;>simp_all,dH _ _ _ _ rfl];rw[<-h];simp
end Mmu
namespace Wd
open Go.RowKit Mem Bw Nums Mmu
def kpE (p:PW) (k f:Int) (e:Ent):Bool:=((ei p.Eb e.1 (16*e.2.1)).2.2==0&&(ei p.Eb e.1 (16*e.2.1)).1==e.2.2.1&&(ei p.Eb e.1 (16*e.2.1)).2.1==e.2.2.2)&& !(k==4&&e.1==f)
def fwP (p:PW) (k f:Int):PW:={p with D9:=p.D9.map (List.filter (kpE p k f))}
theorem tH {P:Ent->Bool} {l:List Ent} {k:Nat} (h:k<l.length):(l.take (k+1)).filter P=(l.take k).filter P++(if P l[k]=true then [l[k]] else []):=by
 rw[bu h,eg];by_cases a:P l[k]=true
 ·rw[af a,List.filter_cons_of_pos a];rfl
 ·rw[ae a,List.filter_cons_of_neg a];rfl
theorem ez (wb:Nat) (tag:Nat->Nat) (V:Nat->Value) (p:PW) (k f:Int) (W:World) (bt:cb W wb tag V p) (hp:p.Fits) (hl:∀l∈p.D9,l.length<=100) (az:∀l∈p.D9,∀e∈l,0<=e.2.1∧e.2.1<=255) (hw:∀z∈p.Eb,0<=z∧z<65536) (ax:p.Eb.length<=600):
  Calls Tryz.prog 78 #[.pointer (some ⟨wb,0,none⟩),.int .i64 k,.int .i64 f] W fun r W'=>r=.returned (.tuple #[])∧∃tag',cb W' wb tag' V (fwP p k f)∧Kt tag tag' W W':=by
 obtain⟨i0,hi,aA,aC,aD⟩:=eH jX;have aY:(p.D9.length:Int)<=1000:=by have:=hp.D9;omega
 obtain⟨A,e8⟩:=bt.o.D9.form;obtain⟨q0,g0,o0,aR,e0,aM,aP⟩:=de bt.o.Eb.1;have E8:=hid e8;have ar:=hid (fun X tg q (h:cb X wb tg V q) (e:q.Eb=p.Eb)=>show nQ X (V 0) p.Eb from⟨by
  have h1:=de h.o.Eb.1;rw[e] at h1;exact h1,hw,ax⟩)
 have HL:=hid hl;have aG:=hid az;have HB:=hid bt;have E0:=hid e0;clear bt hp hl az hw ax e8 e0 aM aP;go_enter Tryz.func78,Tryz.ntmps78
 go_wp2_with fail
 go_loopw [6] (fun i wr=>∃(c:Nat),c<=p.D9.length∧i=.int .i64 c∧Hid (∃tg,cb wr wb tg V {p with D9:=fx (List.filter (kpE p k f)) c p.D9}∧Kt tag tg W wr)) (fun i _=>p.D9.length - (intOf i).toNat)
 case atStart=>exact⟨0,oA,rfl,hid ⟨tag,by rw[fD];exact HB,Kt.refl _ _⟩⟩
 case round=>
  obtain⟨c,hc,rfl,HH⟩:=hrel;obtain⟨tg,bt,kt⟩:=HH.out;have C:=hid bt;have HK:=hid kt;clear bt kt HH;have c8:wr.cell? ⟨wb,8,none⟩=some (.slice (some ⟨A,0,none⟩) p.D9.length p.D9.length):=by rw[ah C.r (k:=8) rfl,E8.out]
  by_cases H:c<p.D9.length
  ·have aZ:(c:Int)<(p.D9.length:Int):=oA;have Y:(fx (List.filter (kpE p k f)) c p.D9).length=p.D9.length:=cS _ _ _;have LT:=hid (show jN wr tg p.D9.length (.slice (some ⟨A,0,none⟩) p.D9.length p.D9.length) (fx (List.filter (kpE p k f)) c p.D9) from by
    have h:=C.o.D9;rw[E8.out] at h;show jN wr tg p.D9.length _ _
    rw[<-Y];rw[<-Y] at h;exact h)
   obtain⟨ul,cu,al⟩:=LT.at H;have an:c<(fx (List.filter (kpE p k f)) c p.D9).length:=by rw[Y];exact H
   have aq:=hid (show (fx (List.filter (kpE p k f)) c p.D9).getD c []=p.D9[c] by
    rw[aa,ac an,aT,eN _ _ _ H an])
   rw[aq.out] at al;obtain⟨l,U⟩:∃l,p.D9[c]=l:=⟨_,rfl⟩
   rw[U] at al;have aJ:l.length<=100:=by rw[<-U];exact HL _ (aw H)
   have aH:=hid (show ∀e∈l,0<=e.2.1∧e.2.1<=255 by rw[<-U];exact aG _ (aw H));have aU:(l.length:Int)<=100:=oA;obtain⟨q,gu,a6,aI,rfl,hq,ay,_⟩:=(al.Fx aJ).1;have aE:=hid ay;have HQ:=hid hq;have CU:=hid cu;have aF:=hid U;have gk:=hid (LT.fr c);have GB:=hid LT.EZ;have W0:=hid (show wr.cell? ⟨wb,8,none⟩=some (.slice (some ⟨A,0,none⟩) p.D9.length p.D9.length) from c8);have aQ:=hid (fun X (h:Below wr.heap.size wr X) a b=>kC (V 0) p.Eb a b X (ar.out X tg _ (C.below h) rfl));have R0:=hid (fun X (h:Below wr.heap.size wr X)=>show X.cell? ⟨wb,0,none⟩=some (V 0) from ah (C.below h).r (k:=0) rfl);clear al ay hq cu U aq an;go_upto_region 5 with fail
   clear c8;generalize wr=w0 at*
   go_loopw [7,8] (fun v i wr=>∃(j:Nat) (m:List Ent),j<=l.length∧i=.int .i64 j∧Hid (m=(l.take j).filter (kpE p k f))∧Hid (wr.ownsRow w0.heap.size 56 4 v m.length (dE m))∧Hid (Below w0.heap.size w0 wr)) (fun _ i _=>l.length - (intOf i).toNat)
   case atStart=>exact⟨0,[],oA,rfl,hid rfl,hid (cO _ _ _ _),hid (ai _ _)⟩
   case round=>
    obtain⟨j,m,hj,rfl,HM,HO,G⟩:=hrel;have hm:m.length<=100:=by
     rw[HM.out];exact aB (dz _ _) (by rw[bI];omega)
    have c8:wr.cell? ⟨wb,8,none⟩=some (.slice (some ⟨A,0,none⟩) p.D9.length p.D9.length):=(G.cell (aj _ _ W0)).trans W0;have cu:wr.cell? ⟨A,c,none⟩=some (.slice q l.length aI):=(G.cell (aj _ _ CU)).trans CU;by_cases am:j<l.length
    ·have aS:(j:Int)<(l.length:Int):=oA;have aN:=HQ.out oA;subst aN;obtain⟨a0,a1,a2,a3⟩:=aE.below G j am;have ad:=hid (tH (P:=kpE p k f) am);have ab:=hid (aH.out l[j] (aw am));generalize l[j]=e at a0 a1 a2 a3 ad ab;obtain⟨x,y,z,u⟩:=e;simp only at a0 a1 a2 a3;have b0:=a0;have b1:=a1;have b2:=a2;have b3:=a3;have D:=hid (show kpE p k f (x,y,z,u)=true->m++[(x,y,z,u)]=(l.take (j+1)).filter (kpE p k f) from fun h=>by rw[ad.out,af h,HM.out]);have t:=hid (show kpE p k f (x,y,z,u)=false->m=(l.take (j+1)).filter (kpE p k f) from fun h=>by rw[ad.out,ae (by rw[h];decide),HM.out,du]);have a4:0<=y:=ab.1;have a5:y<=255:=ab.2;obtain⟨d,O⟩:∃d,d=wr.alloc (.cells #[.int .i64 x,.int .i64 y,.int .i64 z,.bool u] 56):=⟨_,rfl⟩
     have BE:=hid (show Below wr.heap.size wr d by rw[O];exact bal (ai _ wr) _);have XW:=hid (show ∀o,d.cell? ⟨wr.heap.size,o,none⟩=(#[.int .i64 x,.int .i64 y,.int .i64 z,.bool u]:Array Value)[o]? by rw[O];exact cD wr _ _);have sW:d.heap.size=wr.heap.size+1:=by rw[O];simp
     clear a0 a1 a2 a3 ad ab;go_upto_region 8 with fail
     rw[<-O];clear O b0 b1 b2 b3 c8 cu;have L:=hid (G.trans (BE.mono G.size));have d0:=XW.out 0;have d1:=XW.out 1;have r0:=R0.out _ L;have KW:=hid (fun n=>kC (V 0) p.Eb x (16*y) (d.drewN n) (ar.out _ tg _ ((C.below L).below (aV (ai d.heap.size d) n)) rfl));have B:=hid (show kpE p k f (x,y,z,u)=(((ei p.Eb x (16*y)).2.2==0&&(ei p.Eb x (16*y)).1==z&&(ei p.Eb x (16*y)).2.1==u)&& !(k==4&&x==f)) from rfl);generalize ei p.Eb x (16*y)=R at KW B;obtain⟨ra,rb,rn⟩:=R;simp only at KW B
     go_quiet (first|(go_at_call 81;refine dM ((KW.out _).mono fun _ _ h=>(⟨h.1,h.2.symm⟩:_∧_))))
     have J:=hid (aV (ai d.heap.size d) nq);have M:=fp XW (show wr.heap.size<d.heap.size by omega) J;have s:=hid (L.trans (J.mono L.size));have E:=hid (ex (ex HO BE) J);generalize World.drewN _ _=W2 at*;have k0:=M 0;have k1:=M 1;have k2:=M 2;have k3:=M 3;clear d0 d1 r0 KW M XW BE J L;by_cases F:rn=0
     rotate_left
     ·have I:(rn==0)=false:=by simpa using F
      have w:=hid (t.out (by rw[B.out,I];rfl));clear D t;go_wp2_with fail
      exact⟨⟨j+1,m,oA,by go_num,w,E,s⟩,by simp[intOf];omega⟩
     have I:(rn==0)=true:=by simpa using F
     by_cases Q:ra=z
     rotate_left
     ·have K:(ra==z)=false:=by simpa using Q
      have w:=hid (t.out (by rw[B.out,I,K];rfl));clear D t;go_wp2_with fail
      exact⟨⟨j+1,m,oA,by go_num,w,E,s⟩,by simp[intOf];omega⟩
     have K:(ra==z)=true:=by simpa using Q
     by_cases g:rb=u
     rotate_left
     ·have S:(rb==u)=false:=by simpa using g
      have w:=hid (t.out (by rw[B.out,I,K,S];rfl));clear D t;go_wp2_with fail
      exact⟨⟨j+1,m,oA,by go_num,w,E,s⟩,by simp[intOf];omega⟩
     have S:(rb==u)=true:=by simpa using g
     by_cases N:k=4
     ·have ag:(k==4)=true:=by simpa using N
      by_cases hx:x=f
      ·have ap:(x==f)=true:=by simpa using hx
       have w:=hid (t.out (by rw[B.out,I,K,S,ag,ap];rfl));clear D t F Q g N hx;go_wp2_with fail
       exact⟨⟨j+1,m,oA,by go_num,w,E,s⟩,by simp[intOf];omega⟩
      ·have ap:(x==f)=false:=by simpa using hx
       have HY:=hid (D.out (by rw[B.out,I,K,S,ag,ap];rfl));clear D t F Q g N hx;go_wp2_with (at_builtin;refine aW _ rfl _ _ 31 rfl w0.heap.size 56 i0 (.agg #[.int .i64 0,.int .i64 0,.int .i64 0,.bool false]) 4 32 Tryz.underlying31 hi aA aC aD rfl oD _ _ _ rfl (E.alloc _) ⟨_,0,none⟩ 1 1 [.int .i64 x,.int .i64 y,.int .i64 z,.bool u] rfl rfl (gj _ _ _ _ _ _) (eJ _ _ _ _) (by unfold maxLen;omega) oA (by have:=s.size;simp;omega) ?_;intro v' w5 Z T _;have B5:=hid ((bal s _).grown T (by have:=s.size;simp;omega) (fun k hk=>(E.lt k hk).1));have O5:=hid Z;clear Z T)
       refine⟨⟨j+1,m++[(x,y,z,u)],oA,by go_num,HY,hid ?_,B5⟩,by simp[intOf];omega⟩;rw[fG,av];exact O5
     ·have ag:(k==4)=false:=by simpa using N
      have HY:=hid (D.out (by rw[B.out,I,K,S,ag];rfl));clear D t F Q g N;go_wp2_with (at_builtin;refine aW _ rfl _ _ 31 rfl w0.heap.size 56 i0 (.agg #[.int .i64 0,.int .i64 0,.int .i64 0,.bool false]) 4 32 Tryz.underlying31 hi aA aC aD rfl oD _ _ _ rfl (E.alloc _) ⟨_,0,none⟩ 1 1 [.int .i64 x,.int .i64 y,.int .i64 z,.bool u] rfl rfl (gj _ _ _ _ _ _) (eJ _ _ _ _) (by unfold maxLen;omega) oA (by have:=s.size;simp;omega) ?_;intro v' w5 Z T _;have B5:=hid ((bal s _).grown T (by have:=s.size;simp;omega) (fun k hk=>(E.lt k hk).1));have O5:=hid Z;clear Z T)
      refine⟨⟨j+1,m++[(x,y,z,u)],oA,by go_num,HY,hid ?_,B5⟩,by simp[intOf];omega⟩;rw[fG,av];exact O5
    ·obtain rfl:j=l.length:=oA;have aL:¬((l.length:Int)<(l.length:Int)):=oA;have HF:=hid (show m=l.filter (kpE p k f) by rw[HM.out,cY]);obtain⟨qv,kv,aO⟩:=fZ HO;subst aO;have IN:=hid (show InE wr (gy tg w0.heap.size (14+3*c)) (14+3*c) (.slice qv m.length kv) m from .inl ⟨HO.mono (bF _),fun b e=>by
      have h1:=(HO.lt b e).1;unfold gy;rw[ae oA]⟩)
     obtain⟨F,ao⟩:=LT.put H Y (.Ed G) (fun b g=>cV g) IN;have fr:wr.frozen? ⟨A,c,none⟩=false:=(G.frozen (p:=⟨A,c,none⟩) GB.2).trans gk;have J:=hid (show cb (wr.setCell ⟨A,c,none⟩ (.slice qv m.length kv)) wb (gy tg w0.heap.size (14+3*c)) V {p with D9:=fx (List.filter (kpE p k f)) (c+1) p.D9} from C.D9 ao (fun b g=>cV g) (by
      rw[eO _ _ _ H,au,Y,E8.out,aF.out, <-HF.out];exact F))
     have KN:=hid (show Kt tag (gy tg w0.heap.size (14+3*c)) W (wr.setCell ⟨A,c,none⟩ (.slice qv m.length kv)) from HK.trans (.of ao (fun b e=>by rcases e with e|⟨i,e⟩<;>omega) (fun b g=>cV g)));clear F ao IN;go_wp2_with fail
     exact⟨⟨c+1,oA,by go_num,hid ⟨_,J.out,KN.out⟩⟩,by simp[intOf];omega⟩
  ·obtain rfl:c=p.D9.length:=oA;have aL:¬((p.D9.length:Int)<(p.D9.length:Int)):=oA;have w:=hid (show cb wr wb tg V (fwP p k f) by unfold fwP;rw[<-fY];exact C);clear C;go_wp2_with fail
   exact aX (aK rfl _ _ _) rfl ⟨rfl,tg,w.out,HK.out⟩
structure TL (p:PW):Prop where
 len:∀l∈p.D9,l.length<=100
 EV:∀l∈p.D9,∀e∈l,0<=e.2.1∧e.2.1<=255
 word:∀z∈p.Eb,0<=z∧z<65536
theorem TL.of {p q:PW} (h:TL p) (e1:q.D9=p.D9) (e2:q.Eb=p.Eb):TL q:=⟨by rw[e1];exact h.len,by rw[e1];exact h.EV,by rw[e2];exact h.word⟩
theorem TL.ut {p:PW} (h:TL p) (f:Int):TL (utP p f):=⟨h.len,h.EV,fun z b=>by
 obtain⟨i,hi⟩:=List.mem_iff_getElem?.1 (show z∈p.Eb.mapIdx (ut1 p.kinds f) from b);rw[List.getElem?_mapIdx] at hi
 cases e:p.Eb[i]? with
 |none=>rw[e] at hi;cases hi
 |some y=>
  rw[e] at hi;have a:ut1 p.kinds f i y=z:=aH hi;unfold ut1 at a;split at a
  ·omega
  ·rw[<-a];exact h.word y (dG e)⟩
theorem TL.fw {p:PW} (h:TL p) (k f:Int):TL (fwP p k f):=⟨fun l hl=>by
 obtain⟨l0,a,rfl⟩:=List.mem_map.1 (show l∈p.D9.map _ from hl);exact aB (dz _ _) (h.len l0 a),fun l hl e b=>by
 obtain⟨l0,a,rfl⟩:=List.mem_map.1 (show l∈p.D9.map _ from hl);exact h.EV l0 a e (List.mem_filter.1 b).1,h.word⟩
theorem l5 (p:PW) (t:Nat):(etP p t).D9=p.D9∧(etP p t).Eb=p.Eb:=by
 unfold etP;split<;>exact⟨rfl,rfl⟩
theorem oe (p:PW) (f:Nat):(dsP p f).D9=p.D9∧(dsP p f).Eb=p.Eb:=by
 have e:=fm (p.lines.getD f []) p;constructor
 ·show ((p.lines.getD f []).foldl ds1 p).D9=p.D9
  rw[e]
 ·show ((p.lines.getD f []).foldl ds1 p).Eb=p.Eb
  rw[e]
theorem AT {p:PW} (h:Inv p) (k f:Int):Inv (fwP p k f):=⟨⟨h.fits.Eb,h.fits.kinds,h.fits.DZ,h.fits.DY,h.fits.lines,h.fits.line,h.fits.bits,h.fits.D6,h.fits.ready,h.fits.next,by show (p.D9.map _).length<=1000;rw[bL];exact h.fits.D9,h.fits.Ee⟩,h.Ez,h.Eb,h.DZ,h.DY,h.lines,h.bits,h.key,h.line,h.EG,h.Fl,h.Ey⟩
def gnF (dr:PW->Nat->PW) (p:PW) (k:Int) (f:Nat):PW:=fwP (lsF dr p k f) k f
def drR:Nat->PW->Nat->PW
 |0,p,_=>p
 |m+1,p,s=>if (p.DZ.getD s eS) 0=1∨il (drA p s) ((p.DZ.getD s eS) 0) ((p.DZ.getD s eS) 1)=true then drA p s else gnF (drR m) (drA p s) ((p.DZ.getD s eS) 0) ((p.DZ.getD s eS) 1).toNat
theorem yx {m:Nat} {dr:PW->Nat->PW} {f:Nat} (c:∀p s,nds p<m->Inv p->s<p.DZ.length->(p.DZ.getD s eS) 0≠0->Inv (dr p s)∧nds (dr p s)<=nds p∧(dr p s).kinds.length=p.kinds.length) (d:∀p s,nds p<m->Inv p->s<p.DZ.length->(p.DZ.getD s eS) 0≠0->TL p->TL (dr p s)):∀(a:Nat) (p:PW),nds p<m->Inv p->f*16+a<=p.DZ.length->TL p->TL (daF dr f a p)
 |0,p,_,_,_,t=>by rw[gI];exact t
 |a+1,p,hn,h,hl,t=>by
  rw[gH];by_cases b:(p.DZ.getD (f*16+a) eS) 0=0
  ·rw[af b];exact yx c d a p hn h oA t
  ·rw[ae b];obtain⟨e,i,g⟩:=c p (f*16+a) hn h oA b;have j:(dr p (f*16+a)).DZ.length=p.DZ.length:=by rw[e.DZ,g,h.DZ]
   exact yx c d a (dr p (f*16+a)) oA e oA (d p (f*16+a) hn h oA b t)
theorem Da {m:Nat} {dr:PW->Nat->PW} (b:∀p s,nds p<m->Inv p->s<p.DZ.length->(p.DZ.getD s eS) 0≠0->Inv (dr p s)∧nds (dr p s)<=nds p∧(dr p s).kinds.length=p.kinds.length) (d:∀p s,nds p<m->Inv p->s<p.DZ.length->(p.DZ.getD s eS) 0≠0->TL p->TL (dr p s)) {p:PW} (h:Inv p) (t:TL p) (i:nds p<m+1) {k:Int} {f:Nat} (hk:p.kinds[f]? =some k) (c:il p k f=false):TL (lsF dr p k f):=by
 have tn:TL (nkP p f):=t.of rfl rfl;unfold lsF;by_cases a:k=2∨k=3
 ·rw[af a];exact tn.ut f
 rw[ae a];by_cases e4:k=4
 ·rw[af e4];exact tn.of rfl rfl
 rw[ae e4];by_cases e5:k=5
 ·rw[af e5];have hi:=jU (gw h hk c oA) 11 oD (f:Int);have e:nds (nkP p f)+1=nds p:=(jS p.kinds f).2 (by rw[hk,e5]);have g:f<p.kinds.length:=(List.getElem?_eq_some_iff.1 hk).1;exact yx (m:=m) (f:=f) b d 16 (fgP 11 (nkP p f) f) (by show nds (nkP p f)<m;omega) hi (by show f*16+16<=p.DZ.length;have:=h.DZ;omega) (tn.of rfl rfl)
 rw[ae e5];by_cases e6:k=6
 ·rw[af e6];exact tn.of (l5 _ f).1 (l5 _ f).2
 rw[ae e6];exact tn.of (oe (nkP p f) f).1 (oe (nkP p f) f).2
theorem iN:∀(m:Nat),(∀p s,nds p<m->Inv p->s<p.DZ.length->(p.DZ.getD s eS) 0≠0->Inv (drR m p s)∧nds (drR m p s)<=nds p∧(drR m p s).kinds.length=p.kinds.length)∧(∀p s,nds p<m->Inv p->s<p.DZ.length->(p.DZ.getD s eS) 0≠0->TL p->TL (drR m p s))
 |0=>⟨fun p _ c=>absurd c (eh _),fun p _ c=>absurd c (eh _)⟩
 |m+1=>by
  obtain⟨i1,i2⟩:=iN m;refine⟨fun p s c h i f=>?_,fun p s c h i f t=>?_⟩
  ·unfold drR;by_cases a:(p.DZ.getD s eS) 0=1∨il (drA p s) ((p.DZ.getD s eS) 0) ((p.DZ.getD s eS) 1)=true
   ·rw[af a];exact⟨ja h s,ar _,rfl⟩
   ·rw[ae a];obtain⟨b,d,hk, -, -⟩:=ui h i f (fun e=>a (.inl e));rw[d,ag];have g:il (drA p s) ((p.DZ.getD s eS) 0) b=false:=by
     cases e:il (drA p s) ((p.DZ.getD s eS) 0) b with
     |false=>rfl
     |true=>exact absurd (.inr (by rw[d];exact e)) a
    obtain⟨a1,j,k⟩:=xK (m:=m) i1 (ja h s) c hk g;exact⟨AT a1 _ _,j,k⟩
  ·unfold drR;by_cases a:(p.DZ.getD s eS) 0=1∨il (drA p s) ((p.DZ.getD s eS) 0) ((p.DZ.getD s eS) 1)=true
   ·rw[af a];exact t.of rfl rfl
   ·rw[ae a];obtain⟨b,d,hk, -, -⟩:=ui h i f (fun e=>a (.inl e));rw[d,ag];have g:il (drA p s) ((p.DZ.getD s eS) 0) b=false:=by
     cases e:il (drA p s) ((p.DZ.getD s eS) 0) b with
     |false=>rfl
     |true=>exact absurd (.inr (by rw[d];exact e)) a
    exact (Da (m:=m) i1 i2 (ja h s) (t.of rfl rfl) c hk g).fw _ _
theorem tE (p:PW) (c t j:Nat) (x f:Int) (h:j≠c):(fgP c p f).task t j x=fgP c (p.task t j x) f:=by
 have e1:fg1 c f (upd (p.DY.getD t bl) j x)=upd (fg1 c f (p.DY.getD t bl)) j x:=by
  unfold fg1;have e2:upd (p.DY.getD t bl) j x c=p.DY.getD t bl c:=ae (fun e=>h e.symm);rw[e2];by_cases e:p.DY.getD t bl c=f
  ·rw[af e,af e,nO _ j c _ _ h]
  ·rw[ae e,ae e]
 show ({p with DY:=(p.DY.map (fg1 c f)).set t (upd ((p.DY.map (fg1 c f)).getD t bl) j x)}:PW)={p with DY:=(p.DY.set t (upd (p.DY.getD t bl) j x)).map (fg1 c f)}
 rw[List.map_set,e1];by_cases a:t<p.DY.length
 ·rw[qZ p t (fg1 c f) a]
 ·rw[List.set_eq_of_length_le (by rw[bL];omega),List.set_eq_of_length_le (by rw[bL];omega)]
theorem AQ (f:Int):∀(l:List Int) (p:PW),l.foldl ds1 (fgP 13 p f)=fgP 13 (l.foldl ds1 p) f
 |[],_=>rfl
 |z::l,p=>by
  have e:ds1 (fgP 13 p f) z=fgP 13 (ds1 p z) f:=by
   unfold ds1;rw[tE p 13 _ 9 _ _ oD,tE _ 13 _ 14 _ _ oD]
  rw[dL,dL,e,AQ f l (ds1 p z)]
theorem tC (p:PW) (f:Nat) (n:Int):dsP (fgP 13 p n) f=fgP 13 (dsP p f) n:=by
 unfold dsP;rw[show (fgP 13 p n).lines=p.lines from rfl,show (fgP 13 p n).bits=p.bits from rfl,AQ n (p.lines.getD f []) p];rfl
theorem yH (c:Nat) {p:PW} {n:Int} (h:∀g∈p.DY,g c≠n):fgP c p n=p:=by
 unfold fgP;have e:p.DY.map (fg1 c n)=p.DY:=by
  conv=>rhs;rw[<-List.map_id p.DY]
  exact List.map_congr_left fun g a=>ae (h g a)
 rw[e]
def sX (m:Nat):Prop:=∀(p:PW) (s:Nat) (W:World) (wb:Nat) (tag:Nat->Nat) (V:Nat->Value),nds p<m->Inv p->TL p->s<p.DZ.length->cb W wb tag V p->Calls Tryz.prog 15 #[.pointer (some ⟨wb,0,none⟩),.int .i64 s] W fun r W'=>r=.returned (.int .i64 (if (p.DZ.getD s eS) 0=0 then 6 else 0))∧∃tag',cb W' wb tag' V (if (p.DZ.getD s eS) 0=0 then p else drR m p s)∧Kt tag tag' W W'
theorem AU {m:Nat} (p:PW) (f:Nat) (W:World) (wb:Nat) (tag:Nat->Nat) (V:Nat->Value) (hi:Inv p) (C:TL p) (hk:p.kinds[f]? =some 4) (s:il p 4 f=false) (bt:cb W wb tag V p):
  Calls Tryz.prog 37 #[.pointer (some ⟨wb,0,none⟩),.int .i64 f] W fun r W'=>r=.returned (.tuple #[])∧∃tag',cb W' wb tag' V (gnF (drR m) p 4 f)∧Kt tag tag' W W':=by
 obtain⟨x,z⟩:=List.getElem?_eq_some_iff.1 hk;have R:=hi.Ez;have ad:(p.kinds.length:Int)<=1000:=oA;have aa:(f:Int)<(p.kinds.length:Int):=oA;have ag:(p.DY.length:Int)<=1000:=by have:=hi.DY;omega
 obtain⟨w,P,e1⟩:=bt.o.kinds.form (show 0<p.kinds.length by omega);obtain⟨q,cap3,v⟩:=bt.o.DY.form (show 0<p.DY.length by have:=hi.DY;omega);have E1:=hid e1;have u:=hid v;have c1:W.cell? ⟨wb,1,none⟩=some (.slice (some ⟨w,0,none⟩) p.kinds.length P):=by rw[ah bt.r (k:=1) rfl,e1]
 have F:=bt.El e1 x;rw[z] at F;have Z:=bt.Et e1 f;obtain⟨b1,k1⟩:=bt.Eh e1 f 0;have G:=hid (show cb (W.setCell ⟨w,f,none⟩ (.int .i64 0)) wb tag V (nkP p f) from b1);have M:=hid k1;have hh:=kx hi hk s;have U:(nkP p f).kinds.length=p.kinds.length:=au ..;have tn:TL (nkP p f):=C.of rfl rfl;have S:(nkP p f).Eb.length<=600:=by have:=hh.Eb;omega
 have g:=jU (gw hi hk s oD) 12 oD (f:Int);have L:=hid (show gnF (drR m) p 4 f=fwP (fgP 12 (nkP p f) f) 4 f by unfold gnF lsF;rw[ae oD,af rfl]);have J:=hid (fun X E (h:cb X wb E V (fgP 12 (nkP p f) f))=>ez wb E V (fgP 12 (nkP p f) f) 4 f X h (g).fits ((tn.of rfl rfl:TL (fgP 12 (nkP p f) f))).len ((tn.of rfl rfl:TL (fgP 12 (nkP p f) f))).EV ((tn.of rfl rfl:TL (fgP 12 (nkP p f) f))).word (by have:=(g).Eb;have:=(g).Ez;omega));clear hi C hk s bt x z R e1 v b1 k1 hh U tn S g;go_enter Tryz.func37,Tryz.ntmps37
 go_upto_region 2 with fail
 generalize World.setCell _ _ _=W1 at*;clear c1 F Z;go_upto_region 9 with fail
 go_loopw [6] (fun i wr=>∃(j:Nat),j<=p.DY.length∧i=.int .i64 j∧Hid (cb wr wb tag V {nkP p f with DY:=fx (fg1 12 f) j p.DY})∧Hid (Kt tag tag W wr)) (fun i _=>p.DY.length - (intOf i).toNat)
 case atStart=>exact⟨0,oA,rfl,hid (by rw[fD];exact G),M⟩
 case round=>
  obtain⟨j,hj,rfl,a,l⟩:=hrel;have c3:wr.cell? ⟨wb,3,none⟩=some (.slice (some ⟨q,0,none⟩) p.DY.length cap3):=by rw[ah a.r (k:=3) rfl,u.out]
  by_cases d:j<p.DY.length
  ·have ac:(j:Int)<(p.DY.length:Int):=oA;have b:j<(fx (fg1 12 f) j p.DY).length:=by rw[cS];exact d
   have e:V 3=.slice (some ⟨q,0,none⟩) (fx (fg1 12 f) j p.DY).length cap3:=by rw[cS];exact u
   have t:=a.Er e b (show 12<20 by omega);have Q:=a.Ef e (j*20+12);simp only[eN (fg1 12 f) j p.DY d b] at t;by_cases c:p.DY[j] 12=f
   ·obtain⟨B,A⟩:=a.Ei e b (show 12<20 by omega) (-1);have n:=hid (show cb (wr.setCell ⟨q,j*20+12,none⟩ (.int .i64 (-1))) wb tag V {nkP p f with DY:=fx (fg1 12 f) (j+1) p.DY} by
     rw[eO (fg1 12 f) j p.DY d,show fg1 12 f p.DY[j]=upd p.DY[j] 12 (-1) from af c, <-eN (fg1 12 f) j p.DY d b];exact B)
    have K:=hid (l.trans A);rw[c] at t;clear B A e c b a;go_wp2_with fail
    exact⟨⟨j+1,oA,by go_num,n,K⟩,by simp[intOf];omega⟩
   ·have n:=hid (show cb wr wb tag V {nkP p f with DY:=fx (fg1 12 f) (j+1) p.DY} by
     rw[eO (fg1 12 f) j p.DY d,show fg1 12 f p.DY[j]=p.DY[j] from ae c, <-eN (fg1 12 f) j p.DY d b,cw];exact a)
    have T:(p.DY[j] 12==(f:Int))=false:=by simpa using c
    generalize p.DY[j] 12=y at t T;clear e c b a Q;go_wp2_with fail
    exact⟨⟨j+1,oA,by go_num,n,l⟩,by simp[intOf];omega⟩
  ·obtain rfl:j=p.DY.length:=oA;have ab:¬((p.DY.length:Int)<(p.DY.length:Int)):=oA;have H:=hid (show cb wr wb tag V (fgP 12 (nkP p f) f) by unfold fgP;rw[show (nkP p f).DY=p.DY from rfl, <-fY];exact a);have N:=l;clear a;go_wp2_with fail
   refine (J.out _ _ H).mono ?_;rintro r w9 ⟨rfl,Y,b9,D⟩;have I:=hid b9;have O:=hid (N.trans D);clear b9 D;go_wp2_with fail
   exact aX (aK rfl _ _ _) rfl ⟨rfl,Y,by rw[L.out];exact I,O.out⟩
theorem tM {m:Nat} {k:Int} (H:k=2∨k=3) (p:PW) (f:Nat) (W:World) (wb:Nat) (tag:Nat->Nat) (V:Nat->Value) (hi:Inv p) (ht:TL p) (hk:p.kinds[f]? =some k) (D:il p k f=false) (bt:cb W wb tag V p):
  Calls Tryz.prog 37 #[.pointer (some ⟨wb,0,none⟩),.int .i64 f] W fun r W'=>r=.returned (.tuple #[])∧∃tag',cb W' wb tag' V (gnF (drR m) p k f)∧Kt tag tag' W W':=by
 obtain⟨Y,Z⟩:=List.getElem?_eq_some_iff.1 hk;have ar:=hi.Ez;have aL:(p.kinds.length:Int)<=1000:=oA;have aF:(f:Int)<(p.kinds.length:Int):=oA;have aM:(p.DY.length:Int)<=1000:=by have:=hi.DY;omega
 obtain⟨x,cap1,e1⟩:=bt.o.kinds.form (show 0<p.kinds.length by omega);obtain⟨g3,aq,R⟩:=bt.o.DY.form (show 0<p.DY.length by have:=hi.DY;omega);have M:=hid e1;have E3:=hid R;have c1:W.cell? ⟨wb,1,none⟩=some (.slice (some ⟨x,0,none⟩) p.kinds.length cap1):=by rw[ah bt.r (k:=1) rfl,e1]
 have x1:=bt.El e1 Y;rw[Z] at x1;have aC:=bt.Et e1 f;obtain⟨b1,k1⟩:=bt.Eh e1 f 0;have B1:=hid (show cb (W.setCell ⟨x,f,none⟩ (.int .i64 0)) wb tag V (nkP p f) from b1);have K1:=hid k1;have hh:=kx hi hk D;have ad:(nkP p f).kinds.length=p.kinds.length:=au ..;have tn:TL (nkP p f):=ht.of rfl rfl;have av:(nkP p f).Eb.length<=600:=by have:=hh.Eb;omega
 have A:=ye (gw hi hk D oA) (f:Int);have al:=hid (gw hi hk D oA).Fl;have HR:=hid (show gnF (drR m) p k f=fwP (utP (nkP p f) f) k f by unfold gnF lsF;rw[af H]);have aj:=hid (fun X ai (h:cb X wb ai V (utP (nkP p f) f))=>ez wb ai V (utP (nkP p f) f) k f X h (A).fits ((tn.ut f:TL (utP (nkP p f) f))).len ((tn.ut f:TL (utP (nkP p f) f))).EV ((tn.ut f:TL (utP (nkP p f) f))).word (by have:=(A).Eb;have:=(A).Ez;omega));have aJ:(p.Eb.length:Int)<=1000:=by have:=hi.Eb;omega
 have ap:=hid hi.Eb;have ao:=hid (bt.o.Eb.form (show 0<p.Eb.length by have:=hi.Eb;omega));have E:=hid ad;have aG:(f:Int)<=23:=oA;clear hi ht hk D bt Y Z ar e1 R b1 k1 hh ad tn av A;go_enter Tryz.func37,Tryz.ntmps37
 go_upto_region 2 with fail
 generalize World.setCell _ _ _=W1 at*;clear c1 x1 aC;go_cut [28] (fun r wx=>Hid (r=.bool true)∧Hid (W1=wx))
 case first=>rcases H with rfl|rfl<;>(go_wp2_with fail;go_meet;exact⟨hid rfl,hid rfl⟩)
 case rest=>
 obtain⟨T,U⟩:=hcut;obtain rfl:=T.out;obtain rfl:=U.out;have e4:(k==4)=false:=beq_eq_false_iff_ne.2 oA;have e5:(k==5)=false:=beq_eq_false_iff_ne.2 oA;have e6:(k==6)=false:=beq_eq_false_iff_ne.2 oA;have e7:(k==7)=false:=beq_eq_false_iff_ne.2 oA;have e8:(k==8)=false:=beq_eq_false_iff_ne.2 oA;clear T U H;obtain⟨G,cap0,Q⟩:=ao.out;have L:=hid Q;clear Q;go_upto_region 4 with fail
 go_loopw [5] (fun i wr=>∃(j:Nat),j<=p.Eb.length∧i=.int .i64 j∧Hid (cb wr wb tag V {nkP p f with Eb:=idK (ut1 (nkP p f).kinds f) j p.Eb})∧Hid (Kt tag tag W wr)) (fun i _=>p.Eb.length - (intOf i).toNat)
 case atStart=>exact⟨0,oA,rfl,hid (by rw[wa];exact B1),K1⟩
 case round=>
  obtain⟨j,hj,rfl,c,s⟩:=hrel;have c0:wr.cell? ⟨wb,0,none⟩=some (.slice (some ⟨G,0,none⟩) p.Eb.length cap0):=by rw[ah c.r (k:=0) rfl,L.out]
  by_cases u:j<p.Eb.length
  ·have ax:(j:Int)<(p.Eb.length:Int):=oA;have v:j<(idK (ut1 (nkP p f).kinds f) j p.Eb).length:=by rw[nf];exact u
   have n:V 0=.slice (some ⟨G,0,none⟩) (idK (ut1 (nkP p f).kinds f) j p.Eb).length cap0:=by rw[nf];exact L
   have xr:=c.Fs n v;have fr:=c.FQ n j;simp only[xF u v] at xr;have B:j/16<(nkP p f).kinds.length:=by rw[E.out];have:=ap.out;omega
   have ay:((j:Int)/16)=((j/16:Nat):Int):=oA;have az:((j/16:Nat):Int)<(p.kinds.length:Int):=by have:=E.out;omega
   have S:V 1=.slice (some ⟨x,0,none⟩) (nkP p f).kinds.length cap1:=by rw[E.out];exact M
   have c1:wr.cell? ⟨wb,1,none⟩=some (.slice (some ⟨x,0,none⟩) p.kinds.length cap1):=by rw[ah c.r (k:=1) rfl,M.out]
   have xk:=c.El S B;obtain⟨kd,C⟩:∃kd,(nkP p f).kinds[j/16]=kd:=⟨_,rfl⟩
   obtain⟨y,w⟩:∃y,p.Eb[j]=y:=⟨_,rfl⟩
   have N:=hid (show (nkP p f).kinds.getD (j/16) 0=kd by rw[aa,ac B];exact C);have am:=hid (show (nkP p f).kinds[j/16]? =some kd by rw[ac B,C]);have F:=hid w;rw[w] at xr;have aD:wr.cell? ⟨x,j/16,none⟩=some (.int .i64 kd):=by rw[<-C];exact xk
   generalize j/16=kq at ay az aD ⊢;clear xk C w S B;have g:=hid (fun (h:ut1 (nkP p f).kinds f j p.Eb[j]=p.Eb[j])=>show cb wr wb tag V {nkP p f with Eb:=idK (ut1 (nkP p f).kinds f) (j+1) p.Eb} by rw[v9 u h];exact c);have l:=hid (fun (b:(kd=3∨kd=4)->y=32768+(f:Int)∨y=49152+(f:Int)->False)=>show ut1 (nkP p f).kinds f j p.Eb[j]=p.Eb[j] by unfold ut1;rw[ae (by rw[N.out,F.out];exact fun h=>b h.1 h.2)]);by_cases d:kd=3∨kd=4
   ·have q:∀P:Prop,((kd==3)=true->P)->((kd==3)=false->(kd==4)=true->P)->P:=fun P a b=>d.elim (fun h=>a (by simp[h])) (fun h=>b (by simp[h]) (by simp[h]));rcases al.out j y kd (by show p.Eb[j]? =some y;rw[ac u,F.out]) am d with w|⟨z,aE,ag⟩
    ·have aA:(y !=0)=false:=by rw[w];rfl
     have e:=hid (g.out (l.out fun _ h=>oA));clear n v c w g l d;refine q _ (fun t=>?_) (fun t J=>?_)<;>(clear q;go_wp2_with fail;exact⟨⟨j+1,oA,by go_num,e,s⟩,by simp[intOf];omega⟩)
    ·have aA:(y !=0)=true:=bne_iff_ne.2 oA;have aN:y%1024=(z:Int):=oA;have aO:0<=y:=oA;have aP:y<65536:=oA;by_cases I:z=f
     ·have aw:((z:Int)==(f:Int))=true:=by simp[I]
      obtain⟨hn,ab⟩:=c.Ek n j 0;have e:=hid (show cb (wr.setCell ⟨G,j,none⟩ (.int .i64 0)) wb tag V {nkP p f with Eb:=idK (ut1 (nkP p f).kinds f) (j+1) p.Eb} by
       rw[qO u,show ut1 (nkP p f).kinds f j p.Eb[j]=0 by unfold ut1;rw[af (by rw[N.out,F.out];exact⟨d,oA⟩)]];exact hn)
      have an:=hid (s.trans ab);clear hn ab n v c I ag g l d;refine q _ (fun t=>?_) (fun t J=>?_)<;>(clear q;go_wp2_with fail;exact⟨⟨j+1,oA,by go_num,e,an⟩,by simp[intOf];omega⟩)
     ·have aw:((z:Int)==(f:Int))=false:=by simp;omega
      have e:=hid (g.out (l.out fun _ h=>oA));clear n v c I ag g l d;refine q _ (fun t=>?_) (fun t J=>?_)<;>(clear q;go_wp2_with fail;exact⟨⟨j+1,oA,by go_num,e,s⟩,by simp[intOf];omega⟩)
   ·have t:(kd==3)=false:=by simp;omega
    have J:(kd==4)=false:=by simp;omega
    have e:=hid (g.out (l.out fun h=>absurd h d));clear n v c d g l;go_wp2_with fail
    exact⟨⟨j+1,oA,by go_num,e,s⟩,by simp[intOf];omega⟩
  ·obtain rfl:j=p.Eb.length:=oA;have aH:¬((p.Eb.length:Int)<(p.Eb.length:Int)):=oA;have K:=hid (show cb wr wb tag V (utP (nkP p f) f) by unfold utP;rw[show (nkP p f).Eb=p.Eb from rfl, <-yN];exact c);have K2:=s;clear c s;generalize wr=O at*;have c3:O.cell? ⟨wb,3,none⟩=some (.slice (some ⟨g3,0,none⟩) p.DY.length aq):=by rw[ah K.r (k:=3) rfl,E3.out]
   go_upto_region 9 with fail
   go_loopw [6] (fun i wr=>∃(j:Nat),j<=p.DY.length∧i=.int .i64 j∧O=wr) (fun i _=>p.DY.length - (intOf i).toNat)
   case atStart=>exact⟨0,oA,rfl,rfl⟩
   case round=>
    obtain⟨j,hj,rfl,rfl⟩:=hrel;by_cases u:j<p.DY.length
    ·have ax:(j:Int)<(p.DY.length:Int):=oA;go_wp2_with fail
     exact⟨⟨j+1,oA,by go_num,by first|rfl|trivial⟩,by simp[intOf];omega⟩
    ·obtain rfl:j=p.DY.length:=oA;have aI:¬((p.DY.length:Int)<(p.DY.length:Int)):=oA;go_wp2_with fail
     refine (aj.out _ _ K).mono ?_;rintro r w9 ⟨rfl,aB,b9,k9⟩;have B9:=hid b9;have K9:=hid (K2.trans k9);clear b9 k9;go_wp2_with fail
     exact aX (aK rfl _ _ _) rfl ⟨rfl,aB,by rw[HR.out];exact B9,K9.out⟩
theorem AV {m:Nat} (O:sX m) (p:PW) (f:Nat) (W:World) (wb:Nat) (tag:Nat->Nat) (V:Nat->Value) (hi:Inv p) (Y:TL p) (hk:p.kinds[f]? =some 5) (I:il p 5 f=false) (b:nds p<m+1) (bt:cb W wb tag V p):
  Calls Tryz.prog 37 #[.pointer (some ⟨wb,0,none⟩),.int .i64 f] W fun r W'=>r=.returned (.tuple #[])∧∃tag',cb W' wb tag' V (gnF (drR m) p 5 f)∧Kt tag tag' W W':=by
 obtain⟨P,R⟩:=List.getElem?_eq_some_iff.1 hk;have am:=hi.Ez;have aE:(p.kinds.length:Int)<=1000:=oA;have aA:(f:Int)<(p.kinds.length:Int):=oA;have aF:(p.DY.length:Int)<=1000:=by have:=hi.DY;omega
 obtain⟨M,al,e1⟩:=bt.o.kinds.form (show 0<p.kinds.length by omega);obtain⟨F,cap3,L⟩:=bt.o.DY.form (show 0<p.DY.length by have:=hi.DY;omega);have E1:=hid e1;have K:=hid L;have c1:W.cell? ⟨wb,1,none⟩=some (.slice (some ⟨M,0,none⟩) p.kinds.length al):=by rw[ah bt.r (k:=1) rfl,e1]
 have x1:=bt.El e1 P;rw[R] at x1;have ax:=bt.Et e1 f;obtain⟨b1,k1⟩:=bt.Eh e1 f 0;have B1:=hid (show cb (W.setCell ⟨M,f,none⟩ (.int .i64 0)) wb tag V (nkP p f) from b1);have K1:=hid k1;have hh:=kx hi hk I;have aq:(nkP p f).kinds.length=p.kinds.length:=au ..;have tn:TL (nkP p f):=Y.of rfl rfl;have an:(nkP p f).Eb.length<=600:=by have:=hh.Eb;omega
 have Q:=jU (gw hi hk I oD) 11 oD (f:Int);have ap:nds (nkP p f)+1=nds p:=(jS p.kinds f).2 hk;have HR:=hid (show gnF (drR m) p 5 f=fwP (daF (drR m) f 16 (fgP 11 (nkP p f) f)) 5 f by unfold gnF lsF;rw[ae oD,ae oD,af rfl]);have ad:=hid (show f*16+16<=p.DZ.length by have:=hi.DZ;omega);have aB:(f:Int)<=23:=oA;have HD:=hid O;have C:=hid (show Inv (fgP 11 (nkP p f) f)∧TL (fgP 11 (nkP p f) f)∧nds (fgP 11 (nkP p f) f)<m from⟨Q,tn.of rfl rfl,by show nds (nkP p f)<m;omega⟩);have ac:=hid (fun X aa q (h:cb X wb aa V q) (G:Inv q) (H:TL q)=>ez wb aa V q 5 f X h G.fits H.len H.EV H.word (by have:=G.Eb;have:=G.Ez;omega));clear hi Y hk I bt P R am e1 L b1 k1 hh aq tn an Q ap O b;go_enter Tryz.func37,Tryz.ntmps37
 go_upto_region 2 with fail
 generalize World.setCell _ _ _=W1 at*;clear c1 x1 ax;go_upto_region 9 with fail
 go_loopw [6] (fun i wr=>∃(j:Nat),j<=p.DY.length∧i=.int .i64 j∧Hid (cb wr wb tag V {nkP p f with DY:=fx (fg1 11 f) j p.DY})∧Hid (Kt tag tag W wr)) (fun i _=>p.DY.length - (intOf i).toNat)
 case atStart=>exact⟨0,oA,rfl,hid (by rw[fD];exact B1),K1⟩
 case round=>
  obtain⟨j,hj,rfl,d,D⟩:=hrel;have c3:wr.cell? ⟨wb,3,none⟩=some (.slice (some ⟨F,0,none⟩) p.DY.length cap3):=by rw[ah d.r (k:=3) rfl,K.out]
  by_cases n:j<p.DY.length
  ·have aD:(j:Int)<(p.DY.length:Int):=oA;have e:j<(fx (fg1 11 f) j p.DY).length:=by rw[cS];exact n
   have w:V 3=.slice (some ⟨F,0,none⟩) (fx (fg1 11 f) j p.DY).length cap3:=by rw[cS];exact K
   have J:=d.Er w e (show 11<20 by omega);have fc:=d.Ef w (j*20+11);simp only[eN (fg1 11 f) j p.DY n e] at J;by_cases l:p.DY[j] 11=f
   ·obtain⟨b,S⟩:=d.Ei w e (show 11<20 by omega) (-1);have u:=hid (show cb (wr.setCell ⟨F,j*20+11,none⟩ (.int .i64 (-1))) wb tag V {nkP p f with DY:=fx (fg1 11 f) (j+1) p.DY} by
     rw[eO (fg1 11 f) j p.DY n,show fg1 11 f p.DY[j]=upd p.DY[j] 11 (-1) from af l, <-eN (fg1 11 f) j p.DY n e];exact b)
    have ag:=hid (D.trans S);rw[l] at J;clear b S w l e d;go_wp2_with fail
    exact⟨⟨j+1,oA,by go_num,u,ag⟩,by simp[intOf];omega⟩
   ·have u:=hid (show cb wr wb tag V {nkP p f with DY:=fx (fg1 11 f) (j+1) p.DY} by
     rw[eO (fg1 11 f) j p.DY n,show fg1 11 f p.DY[j]=p.DY[j] from ae l, <-eN (fg1 11 f) j p.DY n e,cw];exact d)
    have ao:(p.DY[j] 11==(f:Int))=false:=by simpa using l
    generalize p.DY[j] 11=y at J ao;clear w l e d fc;go_wp2_with fail
    exact⟨⟨j+1,oA,by go_num,u,D⟩,by simp[intOf];omega⟩
  ·obtain rfl:j=p.DY.length:=oA;have aC:¬((p.DY.length:Int)<(p.DY.length:Int)):=oA;have B2:=hid (show cb wr wb tag V (fgP 11 (nkP p f) f) by unfold fgP;rw[show (nkP p f).DY=p.DY from rfl, <-fY];exact d);have K2:=D;clear d;generalize T:fgP 11 (nkP p f) f=q0 at*;have aj:=hid (show q0.DZ.length=p.DZ.length by rw[<-T];rfl);clear T;go_upto_region 19 with fail
   go_loopw [7] (fun i wr=>∃(a:Nat) (v:Int),i=.int .i64 v∧Hid (v=(a:Int) - 1∧a<=16∧∃q tg,cb wr wb tg V q∧Kt tag tg W wr∧Inv q∧TL q∧nds q<m∧q.DZ.length=p.DZ.length∧daF (drR m) f a q=daF (drR m) f 16 q0)) (fun i _=>(intOf i+1).toNat)
   case atStart=>exact⟨16,15,rfl,hid ⟨rfl,ar _,q0,tag,B2.out,K2.out,C.1,C.2.1,C.2.2,aj.out,rfl⟩⟩
   case round=>
    obtain⟨a,v,rfl,B⟩:=hrel;obtain⟨Z,N,q,tg,bt,kt,hi,t,b,z,x⟩:=B.out
    cases a with
    |zero=>
     obtain rfl:v= -1:=oA;have HB:=hid bt;have E:=hid kt;have ai:=hid (show daF (drR m) f 16 q0=q by rw[<-x,gI]);have ab:=hid (ac.out _ tg q bt hi t);clear bt kt hi b z x Z N B t;go_wp2_with fail
     refine ab.mono ?_;rintro r w9 ⟨rfl,aw,b9,k9⟩;have B9:=hid b9;have K9:=hid (E.trans k9);clear b9 k9;go_wp2_with fail
     exact aX (aK rfl _ _ _) rfl ⟨rfl,aw,by rw[HR.out,ai.out];exact B9,K9.out⟩
    |succ a=>
     obtain rfl:v=(a:Int):=oA;obtain⟨sl,U⟩:∃sl:Nat,f*16+a=sl:=⟨_,rfl⟩
     have aG:(f:Int)*16+(a:Int)=(sl:Int):=oA;have s:sl<q.DZ.length:=by have:=ad.out;omega
     have ay:0<=(a:Int):=oA;have az:(a:Int)<=15:=oA;have E:=hid kt;have A:=hid (HD.out q sl wr wb tg V b hi t s bt);have g:=hid (show (Inv (if (q.DZ.getD sl eS) 0=0 then q else drR m q sl)∧TL (if (q.DZ.getD sl eS) 0=0 then q else drR m q sl)∧nds (if (q.DZ.getD sl eS) 0=0 then q else drR m q sl)<m∧(if (q.DZ.getD sl eS) 0=0 then q else drR m q sl).DZ.length=p.DZ.length∧daF (drR m) f a (if (q.DZ.getD sl eS) 0=0 then q else drR m q sl)=daF (drR m) f 16 q0) from by
      refine⟨?_,?_,?_,?_,by rw[<-x,gH,U]⟩
      all_goals by_cases c:(q.DZ.getD sl eS) 0=0
      ·rw[af c];exact hi
      ·rw[ae c];exact ((iN m).1 q sl b hi s c).1
      ·rw[af c];exact t
      ·rw[ae c];exact (iN m).2 q sl b hi s c t
      ·rw[af c];exact b
      ·rw[ae c];have:=((iN m).1 q sl b hi s c).2.1;omega
      ·rw[af c];exact z
      ·rw[ae c];obtain⟨i1, -,i3⟩:=(iN m).1 q sl b hi s c;rw[i1.DZ,i3, <-hi.DZ];exact z)
     generalize (if (q.DZ.getD sl eS) 0=0 then q else drR m q sl)=qq at A g;generalize (if (q.DZ.getD sl eS) 0=0 then (6:Int) else 0)=ee at A;clear bt kt hi b z x Z N B s U t;go_wp2_with fail
     refine A.mono ?_;rintro r w1 ⟨rfl,av,b2,k2⟩;have u:=hid (show (a<=16∧∃q tg,cb w1 wb tg V q∧Kt tag tg W w1∧Inv q∧TL q∧nds q<m∧q.DZ.length=p.DZ.length∧daF (drR m) f a q=daF (drR m) f 16 q0) from⟨oA,qq,av,b2,E.trans k2,g.1,g.2.1,g.2.2.1,g.2.2.2.1,g.2.2.2.2⟩);clear b2 k2;go_wp2_with fail
     exact⟨⟨a,(a:Int) - 1,by first|rfl|go_num,hid ⟨rfl,u.out⟩⟩,by simp[intOf]<;>omega⟩
theorem zI (p:PW) (t:Nat) (a:t<p.DY.length):(stP p t).DY.getD t bl 17=if p.DY.getD t bl 17=t then -1 else p.DY.getD t bl 17:=by
 unfold stP;rw[gm _ t 14 17 _ (by rw[am];show t<(p.DY.map (nOw t)).length;rw[bL];exact a),ae oD,gm _ t 9 17 _ (by show t<(p.DY.map (nOw t)).length;rw[bL];exact a),ae oD];show (p.DY.map (nOw t)).getD t bl 17=_
 rw[qZ p t (nOw t) a];unfold nOw;by_cases e:p.DY.getD t bl 17=t
 ·rw[af e,af e];exact af rfl
 ·rw[ae e,ae e]
theorem yF (q:PW) (t:Nat):({q.task t 9 0 with DY:=(q.task t 9 0).DY.set t bl}:PW)={q with DY:=q.DY.set t bl}:=by
 unfold PW.task;simp only[d9]
theorem AW {m:Nat} (p:PW) (f:Nat) (W:World) (wb:Nat) (tag:Nat->Nat) (V:Nat->Value) (hi:Inv p) (ht:TL p) (hk:p.kinds[f]? =some 6) (ho:il p 6 f=false) (bt:cb W wb tag V p):
  Calls Tryz.prog 37 #[.pointer (some ⟨wb,0,none⟩),.int .i64 f] W fun r W'=>r=.returned (.tuple #[])∧∃tag',cb W' wb tag' V (gnF (drR m) p 6 f)∧Kt tag tag' W W':=by
 obtain⟨hf,ay⟩:=List.getElem?_eq_some_iff.1 hk;have aF:=hi.Ez;have aR:(p.kinds.length:Int)<=1000:=oA;have aM:(f:Int)<(p.kinds.length:Int):=oA;have aS:(p.DY.length:Int)<=1000:=by have:=hi.DY;omega
 obtain⟨g1,aE,e1⟩:=bt.o.kinds.form (show 0<p.kinds.length by omega);obtain⟨a,cap3,e3⟩:=bt.o.DY.form (show 0<p.DY.length by have:=hi.DY;omega);have E1:=hid e1;have g:=hid e3;have c1:W.cell? ⟨wb,1,none⟩=some (.slice (some ⟨g1,0,none⟩) p.kinds.length aE):=by rw[ah bt.r (k:=1) rfl,e1]
 have I:=bt.El e1 hf;rw[ay] at I;have aL:=bt.Et e1 f;obtain⟨b1,k1⟩:=bt.Eh e1 f 0;have B1:=hid (show cb (W.setCell ⟨g1,f,none⟩ (.int .i64 0)) wb tag V (nkP p f) from b1);have K1:=hid k1;have hh:=kx hi hk ho;have aH:(nkP p f).kinds.length=p.kinds.length:=au ..;have tn:TL (nkP p f):=ht.of rfl rfl;have aG:(nkP p f).Eb.length<=600:=by have:=hh.Eb;omega
 have O:=xA (gw hi hk ho oD) f;have HR:=hid (show gnF (drR m) p 6 f=fwP (etP (nkP p f) f) 6 f by unfold gnF lsF;rw[ae oD,ae oD,ae oD,af rfl]);have aB:=hid (fun X az (h:cb X wb az V (etP (nkP p f) f))=>ez wb az V (etP (nkP p f) f) 6 f X h (O).fits ((tn.of (l5 (nkP p f) f).1 (l5 (nkP p f) f).2:TL (etP (nkP p f) f))).len ((tn.of (l5 (nkP p f) f).1 (l5 (nkP p f) f).2:TL (etP (nkP p f) f))).EV ((tn.of (l5 (nkP p f) f).1 (l5 (nkP p f) f).2:TL (etP (nkP p f) f))).word (by have:=(O).Eb;have:=(O).Ez;omega));have z:f<p.DY.length:=by rw[hi.DY];exact hf
 have N:=hid z;have ap:=hid (fun X (h:cb X wb tag V (nkP p f))=>jf wb tag V (nkP p f) f X h hh.fits z);have D:=hid (show (stP (nkP p f) f).DY.length=p.DY.length from Cb (nkP p f) f);have aj:=zI (nkP p f) f z;obtain⟨ow,ad⟩:∃ow,p.DY.getD f bl 17=ow:=⟨_,rfl⟩
 have ai:(nkP p f).DY.getD f bl 17=ow:=ad;rw[ai] at aj;have J:=hid (show etP (nkP p f) f={(if ow= -1 then stP (nkP p f) f else (stP (nkP p f) f).task ow.toNat 9 0) with DY:=(if ow= -1 then stP (nkP p f) f else (stP (nkP p f) f).task ow.toNat 9 0).DY.set f bl} by unfold etP;rw[ai]);have L:=hid (show ow= -1∨∃u:Nat,ow=u∧u<p.DY.length from by
  have c:=hi.EG (p.DY.getD f bl) (by rw[aa,ac z];exact aw z);rw[ad] at c;exact c)
 have M:=hid aj;clear hi ht hk ho bt hf ay aF e1 e3 b1 k1 hh aH tn aG O z aj ad ai;go_enter Tryz.func37,Tryz.ntmps37
 go_upto_region 2 with fail
 generalize World.setCell _ _ _=W1 at*;clear c1 I aL;have E:W1.cell? ⟨wb,3,none⟩=some (.slice (some ⟨a,0,none⟩) p.DY.length cap3):=by rw[ah B1.r (k:=3) rfl,g.out]
 go_upto_region 9 with fail
 go_loopw [6] (fun i wr=>∃(j:Nat),j<=p.DY.length∧i=.int .i64 j∧W1=wr) (fun i _=>p.DY.length - (intOf i).toNat)
 case atStart=>exact⟨0,oA,rfl,rfl⟩
 case round=>
  obtain⟨j,hj,rfl,rfl⟩:=hrel;by_cases aP:j<p.DY.length
  ·have aQ:(j:Int)<(p.DY.length:Int):=oA;go_wp2_with fail
   exact⟨⟨j+1,oA,by go_num,by first|rfl|trivial⟩,by simp[intOf];omega⟩
  ·obtain rfl:j=p.DY.length:=oA;have aO:¬((p.DY.length:Int)<(p.DY.length:Int)):=oA;go_wp2_with fail
   refine (ap.out _ B1).mono ?_;rintro r w7 ⟨rfl,A,b7,k7⟩;have e:=hid b7;have R:=hid (K1.trans k7);clear b7 k7 ap E;have n:V 3=.slice (some ⟨a,0,none⟩) (stP (nkP p f) f).DY.length cap3:=by rw[D.out];exact g
   have E:w7.cell? ⟨wb,3,none⟩=some (.slice (some ⟨a,0,none⟩) p.DY.length cap3):=by rw[ah e.r (k:=3) rfl,g.out]
   have aN:(f:Int)<(p.DY.length:Int):=by have:=N.out;omega
   have an:=e.Ec n (i:=f) (by rw[D.out];exact N) (show 17<20 by omega);rw[M.out] at an;obtain⟨l,ax⟩:∃q,(if ow= -1∨ow=f then stP (nkP p f) f else (stP (nkP p f) f).task ow.toNat 9 0)=q:=⟨_,rfl⟩
   have C:=hid ax;obtain⟨ov,ab⟩:∃v,(if ow=(f:Int) then (-1:Int) else ow)=v:=⟨_,rfl⟩
   rw[ab] at an;have ao:=hid ab;clear ax ab
   go_upto_if 184 with fail
   clear an;go_cut [8] (fun x wx=>(∃y,x=.int .i64 y)∧Hid (cb wx wb A V l)∧Hid (Kt tag A W wx))
   case first=>
    by_cases s:ow= -1∨ow=f
    ·have H:ov= -1:=by
      rw[<-ao.out];rcases s with h|h
      ·rw[h];split<;>rfl
      ·rw[af h]
     rw[H];have d:=hid (show cb w7 wb A V l by rw[<-C.out,af s];exact e);clear s H n M J L;go_wp2_with fail
     go_meet
     exact⟨⟨_,rfl⟩,d,R⟩
    ·obtain⟨u,hu,al⟩:∃u:Nat,ow=u∧u<p.DY.length:=by
      rcases L.out with h|h
      ·exact absurd (.inl h) s
      ·exact h
     have H:ov=u:=by rw[<-ao.out,ae (fun h=>s (.inr h)),hu]
     rw[H];have aU:(u:Int)<(p.DY.length:Int):=oA;have aT:0<=(u:Int):=oA;have xa:=e.Ec n (i:=u) (by rw[D.out];exact al) (show 9<20 by omega);have fa:=e.Ef n (u*20+9);obtain⟨c,t⟩:=e.task n (i:=u) (by rw[D.out];exact al) (show 9<20 by omega) 0;have d:=hid (show cb (w7.setCell ⟨a,u*20+9,none⟩ (.int .i64 0)) wb A V l by rw[<-C.out,ae s,hu,ag];exact c);have U:=hid (R.trans t);clear c t n s H M J L hu al;go_wp2_with fail
     go_meet
     exact⟨⟨_,rfl⟩,d,U⟩
   case rest=>
    obtain⟨⟨y8,aI⟩,d,U⟩:=hcut;subst aI;generalize wc=b at*;have aD:=hid (show etP (nkP p f) f={l with DY:=l.DY.set f bl} by
     rw[J.out, <-C.out];by_cases c:ow= -1
     ·rw[af c,af (.inl c)]
     ·rw[ae c];by_cases t:ow=f
      ·rw[af (.inr t),t,ag];exact yF _ f
      ·rw[ae (fun h=>h.elim c t)])
    have Y:=hid (show l.DY.length=p.DY.length by rw[<-C.out];split<;>(try rw[am])<;>exact D);generalize l=qq at*;clear E n e R M J L C;have E:b.cell? ⟨wb,3,none⟩=some (.slice (some ⟨a,0,none⟩) p.DY.length cap3):=by rw[ah d.r (k:=3) rfl,g.out]
    go_upto_region 27 with fail
    clear E;have Z:V 3=.slice (some ⟨a,0,none⟩) qq.DY.length cap3:=by rw[Y.out];exact g
    have P:Hid (Below b.heap.size b b.drew):=hid (aC b 1);have T:=hid (fun X (h:Below b.heap.size b X)=>show X.cell? ⟨wb,3,none⟩=some (.slice (some ⟨a,0,none⟩) p.DY.length cap3) from by rw[ah (d.below h).r (k:=3) rfl,g.out]);have aq:=hid (fun X (h:Below b.heap.size b X)=>(d.below h).Fb Z (i:=f) (by rw[Y.out];exact N) bl);have ar:=hid (fun X (h:Below b.heap.size b X)=>(d.below h).EI Z (f*20) 20 (by have:=N.out;rw[Y.out];omega));clear Z;refine wp_region_held_drew (S:=fun X=>X.cell? ⟨wb,3,none⟩=some (.slice (some ⟨a,0,none⟩) p.DY.length cap3)) oK (T.out _ P) (fun F=>?_);have w:=hid F;clear F;refine tk 0 (.pointer (some ⟨wb,0,none⟩)) rfl w ?_;simp only[jj];refine tk 1 (.pointer (some ⟨wb,0,none⟩)) rfl w ?_;simp only[jj];refine tk 2 (.pointer (some ⟨wb,3,none⟩)) rfl w ?_;simp only[jj];refine dW 3 (.slice (some ⟨a,0,none⟩) p.DY.length cap3) rfl (Or.inl ⟨oR,fun W h=>by have h3:=h;clear h;go_simp⟩) w ?_;simp only[jj];refine tk 4 (.int .i64 f) rfl w ?_;simp only[jj];refine wpAnyH_ready (rs:=[5]) oK oS (AllReadyH.cons rfl (fun K G=>?_) AllReadyH.nil);go_simp
    refine (nT _).mono ?_;rintro q I ⟨rfl,hb⟩;have B:=hid (btr P hb);clear hb;go_wp2_with fail
    refine G _ _ (T.out _ B) (fun F=>?_);have av:=hid F;clear G K F
    try simp only[Act.put,jD,jE,jF]
    refine tk 6 (.pointer (some ⟨a,f*20,none⟩)) rfl av ?_;simp only[jj];obtain⟨b1,k1⟩:=aq.out _ B;have Q:=hid b1;have KX:=hid (U.trans ((bf B:Kt A A b I).trans k1));have SX:=hid (show (I.setCells a (f*20) (cf 20 bl)).cell? ⟨wb,3,none⟩=some (.slice (some ⟨a,0,none⟩) p.DY.length cap3) from by rw[ah Q.r (k:=3) rfl,g.out]);clear b1 k1;refine wpAnyH_ready (rs:=[7]) oK oS (AllReadyH.cons rfl (fun K G=>?_) AllReadyH.nil);refine wp_store_mid 45 _ _ rfl a (f*20) (cf 20 bl).toArray rfl rfl (by rw[List.size_toArray,aA];exact ar _ B) (by rw[i7];rfl) (all_oneCell_toArray (bR 20 _)) ?_;refine G _ _ SX (fun _=>?_);clear G K w av
    try simp only[Act.put]
    refine dN oK ?_ _;clear T aq ar SX P B;generalize World.setCells _ _ _ _=WX at*;rw[<-aD.out] at Q;go_wp2_with fail
    refine (aB.out _ _ Q).mono ?_;rintro r w8 ⟨rfl,aJ,b8,k8⟩;have B8:=hid b8;have K8:=hid (KX.trans k8);clear b8 k8;go_wp2_with fail
    exact aX (aK rfl _ _ _) rfl ⟨rfl,aJ,by rw[HR.out];exact B8,K8.out⟩
theorem AX {m:Nat} (p:PW) (f:Nat) (W:World) (wb:Nat) (tag:Nat->Nat) (V:Nat->Value) (hi:Inv p) (ht:TL p) (hk:p.kinds[f]? =some 7) (ho:il p 7 f=false) (bt:cb W wb tag V p):
  Calls Tryz.prog 37 #[.pointer (some ⟨wb,0,none⟩),.int .i64 f] W fun r W'=>r=.returned (.tuple #[])∧∃tag',cb W' wb tag' V (gnF (drR m) p 7 f)∧Kt tag tag' W W':=by
 obtain⟨hf,aA⟩:=List.getElem?_eq_some_iff.1 hk;have aW:=hi.Ez;have bb:(p.kinds.length:Int)<=1000:=oA;have a6:(f:Int)<(p.kinds.length:Int):=oA;have bc:(p.DY.length:Int)<=1000:=by have:=hi.DY;omega
 obtain⟨g1,aS,e1⟩:=bt.o.kinds.form (show 0<p.kinds.length by omega);obtain⟨g3,cap3,e3⟩:=bt.o.DY.form (show 0<p.DY.length by have:=hi.DY;omega);have E1:=hid e1;have L:=hid e3;have c1:W.cell? ⟨wb,1,none⟩=some (.slice (some ⟨g1,0,none⟩) p.kinds.length aS):=by rw[ah bt.r (k:=1) rfl,e1]
 have x1:=bt.El e1 hf;rw[aA] at x1;have a5:=bt.Et e1 f;obtain⟨b1,k1⟩:=bt.Eh e1 f 0;have B1:=hid (show cb (W.setCell ⟨g1,f,none⟩ (.int .i64 0)) wb tag V (nkP p f) from b1);have K1:=hid k1;have hh:=kx hi hk ho;have a2:(nkP p f).kinds.length=p.kinds.length:=au ..;have tn:TL (nkP p f):=ht.of rfl rfl;have aY:(nkP p f).Eb.length<=600:=by have:=hh.Eb;omega
 have B:f<p.lines.length:=by rw[hi.lines];exact hf
 have az:f<p.bits.length:=by rw[hi.bits];exact hf
 have bf:(p.lines.length:Int)<=1000:=by have:=hi.lines;omega
 have bg:(p.bits.length:Int)<=1000:=by have:=hi.bits;omega
 have a7:(f:Int)<(p.lines.length:Int):=oA;have a8:(f:Int)<(p.bits.length:Int):=oA;obtain⟨b,eL⟩:=bt.o.lines.form;obtain⟨P,cap5,e5⟩:=bt.o.bits.form (show 0<p.bits.length by omega);have EL:=hid eL;have E5:=hid e5;have aM:=hid B;have aL:=hid az;obtain⟨l,hl⟩:∃l,p.lines.getD f []=l:=⟨_,rfl⟩
 have HZ:=hid (show ∀z∈l,∃u:Nat,z=u∧u<p.DY.length from fun z G=>hi.line _ (by rw[<-hl] at G;rw[aa,ac B] at G;exact aw B) z (by rw[<-hl,aa,ac B] at G;exact G));have aV:l.length<=1000:=by
  have h1:=hi.fits.line _ (aw B);have Q:=hl;rw[aa,ac B,aT] at Q;rw[Q] at h1;exact h1
 have bh:(l.length:Int)<=1000:=oA;have ap:=hid (fun X q (h:cb X wb tag V q) (e:q.lines=p.lines)=>show ∃u,X.cell? ⟨b,f,none⟩=some u∧InT X tag (12+3*f) 3 1 u (l.length,ec l) from by
  have Q:=h.o.lines;rw[e,eL] at Q;obtain⟨u,cu,H⟩:=Q.at B;unfold ci at H;rw[hl] at H;exact⟨u,cu,H⟩)
 have aD:b≠g3:=by
  intro e;have R:=bt.o.lines;rw[eL] at R;have h4:=bt.o.DY;rw[e3] at h4;have w:=h4.2 g3 rfl;rw[<-e,R.EZ.1] at w
  cases w
 have aq:=hid aD;have HL:=hid hl;have Y:=tD (pJ hh f);have HR:=hid (show gnF (drR m) p 7 f=fwP (dsP (fgP 13 (nkP p f) f) f) 7 f by unfold gnF lsF;rw[ae oD,ae oD,ae oD,ae oD,tC]);rw[<-tC] at Y;have tq:TL (dsP (fgP 13 (nkP p f) f) f):=tn.of (oe (fgP 13 (nkP p f) f) f).1 (oe (fgP 13 (nkP p f) f) f).2;have aI:=hid (fun X aG (h:cb X wb aG V (dsP (fgP 13 (nkP p f) f) f))=>ez wb aG V (dsP (fgP 13 (nkP p f) f) f) 7 f X h (Y).fits (tq).len (tq).EV (tq).word (by have:=(Y).Eb;have:=(Y).Ez;omega));clear hi ht hk ho bt hf aA aW e1 e3 b1 k1 hh a2 tn aY Y B az eL e5 hl aV aD tq;go_enter Tryz.func37,Tryz.ntmps37
 go_upto_region 2 with fail
 generalize World.setCell _ _ _=W1 at*;clear c1 x1 a5;go_upto_region 9 with fail
 go_loopw [6] (fun i wr=>∃(j:Nat),j<=p.DY.length∧i=.int .i64 j∧Hid (cb wr wb tag V {nkP p f with DY:=fx (fg1 13 f) j p.DY})∧Hid (Kt tag tag W wr)) (fun i _=>p.DY.length - (intOf i).toNat)
 case atStart=>exact⟨0,oA,rfl,hid (by rw[fD];exact B1),K1⟩
 case round=>
  obtain⟨j,hj,rfl,c,D⟩:=hrel;have c3:wr.cell? ⟨wb,3,none⟩=some (.slice (some ⟨g3,0,none⟩) p.DY.length cap3):=by rw[ah c.r (k:=3) rfl,L.out]
  by_cases n:j<p.DY.length
  ·have a0:(j:Int)<(p.DY.length:Int):=oA;have F:j<(fx (fg1 13 f) j p.DY).length:=by rw[cS];exact n
   have g:V 3=.slice (some ⟨g3,0,none⟩) (fx (fg1 13 f) j p.DY).length cap3:=by rw[cS];exact L
   have xc:=c.Er g F (show 13<20 by omega);have fc:=c.Ef g (j*20+13);simp only[eN (fg1 13 f) j p.DY n F] at xc;by_cases w:p.DY[j] 13=f
   ·obtain⟨hn,aB⟩:=c.Ei g F (show 13<20 by omega) (-1);have HN:=hid (show cb (wr.setCell ⟨g3,j*20+13,none⟩ (.int .i64 (-1))) wb tag V {nkP p f with DY:=fx (fg1 13 f) (j+1) p.DY} by
     rw[eO (fg1 13 f) j p.DY n,show fg1 13 f p.DY[j]=upd p.DY[j] 13 (-1) from af w, <-eN (fg1 13 f) j p.DY n F];exact hn)
    have aN:=hid (D.trans aB);rw[w] at xc;clear hn aB g w F c;go_wp2_with fail
    exact⟨⟨j+1,oA,by go_num,HN,aN⟩,by simp[intOf];omega⟩
   ·have HN:=hid (show cb wr wb tag V {nkP p f with DY:=fx (fg1 13 f) (j+1) p.DY} by
     rw[eO (fg1 13 f) j p.DY n,show fg1 13 f p.DY[j]=p.DY[j] from ae w, <-eN (fg1 13 f) j p.DY n F,cw];exact c)
    have aZ:(p.DY[j] 13==(f:Int))=false:=by simpa using w
    generalize p.DY[j] 13=y at xc aZ;clear g w F c fc;go_wp2_with fail
    exact⟨⟨j+1,oA,by go_num,HN,D⟩,by simp[intOf];omega⟩
  ·obtain rfl:j=p.DY.length:=oA;have a9:¬((p.DY.length:Int)<(p.DY.length:Int)):=oA;have B2:=hid (show cb wr wb tag V (fgP 13 (nkP p f) f) by unfold fgP;rw[show (nkP p f).DY=p.DY from rfl, <-fY];exact c);have K2:=D;clear c;have A:=hid (show (fgP 13 (nkP p f) f).lines=p.lines∧(fgP 13 (nkP p f) f).bits=p.bits∧(fgP 13 (nkP p f) f).DY.length=p.DY.length from⟨rfl,rfl,bL _⟩);generalize fgP 13 (nkP p f) f=q1 at*;generalize wr=W5 at*;obtain⟨u,cu,H⟩:=ap.out W5 q1 B2 A.1;obtain⟨q,d,v,rfl,hq⟩:=H.shape;have HQ:=hid hq;have aP:=hid cu;clear hq H cu;go_upto_region 30 with fail
   go_loopw [9] (fun i wr=>∃(j:Nat),j<=l.length∧i=.int .i64 j∧Hid (cb wr wb tag V ((l.take j).foldl ds1 q1))∧Hid (Kt tag tag W wr)∧Hid (wr.cell? ⟨b,f,none⟩=some (.slice q l.length v))) (fun i _=>l.length - (intOf i).toNat)
   case atStart=>exact⟨0,oA,rfl,B2,K2,aP⟩
   case round=>
    obtain⟨j,hj,rfl,c,D,M⟩:=hrel;have ax:=hid (fm (l.take j) q1);have LT:=hid (show ((l.take j).foldl ds1 q1).DY.length=p.DY.length by rw[tv];exact A.2.2);have c4:wr.cell? ⟨wb,4,none⟩=some (.slice (some ⟨b,0,none⟩) p.lines.length p.lines.length):=by rw[ah c.r (k:=4) rfl,EL.out]
    have cl:=M.out;by_cases n:j<l.length
    ·have a0:(j:Int)<(l.length:Int):=oA;have a3:=HQ.out oA;subst a3;obtain⟨z,G,aj⟩:=HZ.out l[j] (aw n);have aQ:=hid G;have bj:(z:Int)<(p.DY.length:Int):=oA;have O:=hid (fun X qx (h:cb X wb tag V qx) (e:qx.lines=p.lines) (hc:X.cell? ⟨b,f,none⟩=some (.slice (some ⟨d,0,none⟩) l.length v))=>show X.cell? ⟨wb,3,none⟩=some (.slice (some ⟨g3,0,none⟩) p.DY.length cap3)∧X.cell? ⟨wb,4,none⟩=some (.slice (some ⟨b,0,none⟩) p.lines.length p.lines.length)∧X.cell? ⟨b,f,none⟩=some (.slice (some ⟨d,0,none⟩) l.length v)∧X.cell? ⟨d,j,none⟩=some (.int .i64 z) from⟨by rw[ah h.r (k:=3) rfl,L.out],by rw[ah h.r (k:=4) rfl,EL.out],hc,by
      obtain⟨u2,aU,aF⟩:=ap.out X qx h e;rw[aH (aU.symm.trans hc)] at aF;have x:=aF.int n;rw[G] at x;exact x⟩)
     have LN:=hid (show ((l.take j).foldl ds1 q1).lines=p.lines by rw[ax.out];exact A.1);have g:V 3=.slice (some ⟨g3,0,none⟩) ((l.take j).foldl ds1 q1).DY.length cap3:=by rw[LT.out];exact L
     have I:Hid (cb wr.drew wb tag V ((l.take j).foldl ds1 q1)):=hid (c.below (aC wr 1));have KD:Hid (Kt tag tag W wr.drew):=hid (D.trans (.below (aC wr 1)));have xa:=I.Ec g (i:=z) (by rw[LT.out];exact aj) (show 9<20 by omega);have fa:=I.Ef g (z*20+9);obtain⟨b1,Z⟩:=I.task g (i:=z) (by rw[LT.out];exact aj) (show 9<20 by omega) 0;have s:=hid (show cb (wr.setCell ⟨g3,z*20+9,none⟩ (.int .i64 0)).drew wb tag V (((l.take j).foldl ds1 q1).task z 9 0) from b1);have N:=hid (show Kt tag tag W (wr.setCell ⟨g3,z*20+9,none⟩ (.int .i64 0)).drew from KD.trans Z);have C6:=hid (show (wr.setCell ⟨g3,z*20+9,none⟩ (.int .i64 0)).drew.cell? ⟨b,f,none⟩=some (.slice (some ⟨d,0,none⟩) l.length v) from by
      show (wr.setCell ⟨g3,z*20+9,none⟩ (.int .i64 0)).cell? ⟨b,f,none⟩=_
      rw[aJ _ _ _ _ (by intro e;cases e;exact aq rfl)];exact M)
     have S0:=hid (O.out _ _ I LN M);have S6:=hid (O.out _ _ s LN C6);clear b1 Z g;go_upto_region 32 with fail
     clear c4 cl;refine wp_region_held_drew (S:=fun X=>X.cell? ⟨wb,3,none⟩=some (.slice (some ⟨g3,0,none⟩) p.DY.length cap3)∧X.cell? ⟨wb,4,none⟩=some (.slice (some ⟨b,0,none⟩) p.lines.length p.lines.length)∧X.cell? ⟨b,f,none⟩=some (.slice (some ⟨d,0,none⟩) l.length v)∧X.cell? ⟨d,j,none⟩=some (.int .i64 z)) oK S0 (fun T=>?_);have a:=hid T;clear T;refine tk 0 (.pointer (some ⟨wb,0,none⟩)) rfl a ?_;simp only[jj];refine tk 1 (.pointer (some ⟨wb,0,none⟩)) rfl a ?_;simp only[jj];refine tk 2 (.pointer (some ⟨wb,3,none⟩)) rfl a ?_;simp only[jj];refine dW 3 (.slice (some ⟨g3,0,none⟩) p.DY.length cap3) rfl (Or.inl ⟨oR,fun W h=>by have E:=h.1;clear h;go_simp⟩) a ?_;simp only[jj];refine tk 4 (.pointer (some ⟨wb,0,none⟩)) rfl a ?_;simp only[jj];refine tk 5 (.pointer (some ⟨wb,0,none⟩)) rfl a ?_;simp only[jj];refine tk 6 (.pointer (some ⟨wb,4,none⟩)) rfl a ?_;simp only[jj];refine dW 7 (.slice (some ⟨b,0,none⟩) p.lines.length p.lines.length) rfl (Or.inl ⟨oR,fun W h=>by have E:=h.2.1;clear h;go_simp⟩) a ?_;simp only[jj];refine tk 8 (.int .i64 f) rfl a ?_;simp only[jj];refine tk 9 (.pointer (some ⟨b,f,none⟩)) rfl a ?_;simp only[jj];refine dW 10 (.slice (some ⟨d,0,none⟩) l.length v) rfl (Or.inl ⟨oR,fun W h=>by have E:=h.2.2.1;clear h;go_simp⟩) a ?_;simp only[jj];refine tk 11 (.int .i64 j) rfl a ?_;simp only[jj];refine tk 12 (.pointer (some ⟨d,j,none⟩)) rfl a ?_;simp only[jj];refine dW 13 (.int .i64 z) rfl (Or.inl ⟨oR,fun W h=>by have E:=h.2.2.2;clear h;go_simp⟩) a ?_;simp only[jj];refine tk 14 (.pointer (some ⟨g3,z*20,none⟩)) rfl a ?_;simp only[jj];refine tk 15 (.pointer (some ⟨g3,z*20+9,none⟩)) rfl a ?_;simp only[jj];refine wpAnyH_ready (rs:=[16]) oK oS (AllReadyH.cons rfl (fun K U=>?_) AllReadyH.nil);go_simp
     refine U _ _ S6 (fun _=>?_);clear U K a
     try simp only[Act.put]
     refine dN oK ?_ _;clear xa fa S0 I KD c D M;generalize World.drew (World.setCell _ _ _)=t at*;have ai:V 3=.slice (some ⟨g3,0,none⟩) (((l.take j).foldl ds1 q1).task z 9 0).DY.length cap3:=by rw[am,LT.out];exact L
     have J:Hid (cb t.drew wb tag V (((l.take j).foldl ds1 q1).task z 9 0)):=hid (s.below (aC t 1));have KE:Hid (Kt tag tag W t.drew):=hid (N.trans (.below (aC t 1)));have xb:=J.Ec ai (i:=z) (by rw[am,LT.out];exact aj) (show 14<20 by omega);have fb:=J.Ef ai (z*20+14);obtain⟨b2,ab⟩:=J.task ai (i:=z) (by rw[am,LT.out];exact aj) (show 14<20 by omega) (-1);have B7:=hid (show cb (t.setCell ⟨g3,z*20+14,none⟩ (.int .i64 (-1))).drew wb tag V ((l.take (j+1)).foldl ds1 q1) by
      rw[tw l j n,aQ.out];unfold ds1;rw[ag];exact b2)
     have K7:=hid (show Kt tag tag W (t.setCell ⟨g3,z*20+14,none⟩ (.int .i64 (-1))).drew from KE.trans ab);have C7:=hid (show (t.setCell ⟨g3,z*20+14,none⟩ (.int .i64 (-1))).drew.cell? ⟨b,f,none⟩=some (.slice (some ⟨d,0,none⟩) l.length v) from by
      show (t.setCell ⟨g3,z*20+14,none⟩ (.int .i64 (-1))).cell? ⟨b,f,none⟩=_
      rw[aJ _ _ _ _ (by intro e;cases e;exact aq rfl)];exact C6)
     have aR:=hid (show ((l.take (j+1)).foldl ds1 q1).lines=p.lines by rw[fm];exact A.1);have ay:=hid (O.out _ _ J LN C6);have S7:=hid (O.out _ _ B7 aR C7);clear b2 ab ai;go_upto_region 33 with fail
     refine wp_region_held_drew (S:=fun X=>X.cell? ⟨wb,3,none⟩=some (.slice (some ⟨g3,0,none⟩) p.DY.length cap3)∧X.cell? ⟨wb,4,none⟩=some (.slice (some ⟨b,0,none⟩) p.lines.length p.lines.length)∧X.cell? ⟨b,f,none⟩=some (.slice (some ⟨d,0,none⟩) l.length v)∧X.cell? ⟨d,j,none⟩=some (.int .i64 z)) oK ay (fun T=>?_);have a:=hid T;clear T;refine tk 0 (.pointer (some ⟨wb,0,none⟩)) rfl a ?_;simp only[jj];refine tk 1 (.pointer (some ⟨wb,0,none⟩)) rfl a ?_;simp only[jj];refine tk 2 (.pointer (some ⟨wb,3,none⟩)) rfl a ?_;simp only[jj];refine dW 3 (.slice (some ⟨g3,0,none⟩) p.DY.length cap3) rfl (Or.inl ⟨oR,fun W h=>by have E:=h.1;clear h;go_simp⟩) a ?_;simp only[jj];refine tk 4 (.pointer (some ⟨wb,0,none⟩)) rfl a ?_;simp only[jj];refine tk 5 (.pointer (some ⟨wb,0,none⟩)) rfl a ?_;simp only[jj];refine tk 6 (.pointer (some ⟨wb,4,none⟩)) rfl a ?_;simp only[jj];refine dW 7 (.slice (some ⟨b,0,none⟩) p.lines.length p.lines.length) rfl (Or.inl ⟨oR,fun W h=>by have E:=h.2.1;clear h;go_simp⟩) a ?_;simp only[jj];refine tk 8 (.int .i64 f) rfl a ?_;simp only[jj];refine tk 9 (.pointer (some ⟨b,f,none⟩)) rfl a ?_;simp only[jj];refine dW 10 (.slice (some ⟨d,0,none⟩) l.length v) rfl (Or.inl ⟨oR,fun W h=>by have E:=h.2.2.1;clear h;go_simp⟩) a ?_;simp only[jj];refine tk 11 (.int .i64 j) rfl a ?_;simp only[jj];refine tk 12 (.pointer (some ⟨d,j,none⟩)) rfl a ?_;simp only[jj];refine dW 13 (.int .i64 z) rfl (Or.inl ⟨oR,fun W h=>by have E:=h.2.2.2;clear h;go_simp⟩) a ?_;simp only[jj];refine tk 14 (.pointer (some ⟨g3,z*20,none⟩)) rfl a ?_;simp only[jj];refine tk 15 (.pointer (some ⟨g3,z*20+14,none⟩)) rfl a ?_;simp only[jj];refine wpAnyH_ready (rs:=[16]) oK oS (AllReadyH.cons rfl (fun K U=>?_) AllReadyH.nil);go_simp
     refine U _ _ S7 (fun _=>?_);clear U K a
     try simp only[Act.put]
     refine dN oK ?_ _;clear xb fb S6 ay S7 J KE s N C6 O;generalize World.drew (World.setCell _ _ _)=W7 at*;go_wp2_with fail
     exact⟨⟨j+1,oA,by go_num,B7,K7,C7⟩,by simp[intOf];omega⟩
    ·obtain rfl:j=l.length:=oA;have ba:¬((l.length:Int)<(l.length:Int)):=oA;have ar:=hid (show cb wr wb tag V (l.foldl ds1 q1) by have h:=c.out;rw[cY] at h;exact h);have av:=hid (fm l q1);generalize aE:l.foldl ds1 q1=C at*;have aO:=hid aE;have an:=hid (show C.lines=p.lines by rw[av.out];exact A.1);have al:=hid (show C.bits=p.bits by rw[av.out];exact A.2.1);clear c ax LT aE;have ao:V 4=.slice (some ⟨b,0,none⟩) C.lines.length C.lines.length:=by rw[an.out];exact EL
     have fl:wr.frozen? ⟨b,f,none⟩=false:=by
      have R:=ar.o.lines;rw[ao] at R;exact R.fr f
     obtain⟨b1,Z⟩:=ar.Fi ao (j:=f) (by rw[an.out];exact aM);have s:=hid b1;have N:=hid (D.trans Z);have ad:V 5=.slice (some ⟨P,0,none⟩) ({C with lines:=C.lines.set f []}:PW).bits.length cap5:=by show V 5=.slice (some ⟨P,0,none⟩) C.bits.length cap5;rw[al.out];exact E5
     have c5:(wr.setCell ⟨b,f,none⟩ (.slice none 0 0)).cell? ⟨wb,5,none⟩=some (.slice (some ⟨P,0,none⟩) p.bits.length cap5):=by rw[ah s.r (k:=5) rfl,E5.out]
     obtain⟨yb,xb⟩:∃y,(wr.setCell ⟨b,f,none⟩ (.slice none 0 0)).cell? ⟨P,f,none⟩=some y:=⟨_,s.Fh ad (i:=f) (by show f<C.bits.length;rw[al.out];exact aL)⟩
     have fb:=s.Fk ad f;obtain⟨b2,ab⟩:=s.Ew ad f 0;have B7:=hid (show cb ((wr.setCell ⟨b,f,none⟩ (.slice none 0 0)).setCell ⟨P,f,none⟩ (.int .i64 0)) wb tag V (dsP q1 f) by
      unfold dsP;rw[A.1,HL.out,aO.out, <-an.out,A.2.1, <-al.out];exact b2)
     have K7:=hid (N.trans ab);clear b1 Z b2 ab ad ao M;go_upto_region 35 with fail
     generalize World.setCell _ _ _=t at*;clear c4 cl fl;go_upto_region 36 with fail
     generalize World.setCell _ _ _=W7 at*;clear c5 xb fb s N;go_wp2_with fail
     refine (aI.out _ _ B7).mono ?_;rintro r w9 ⟨rfl,a4,b9,k9⟩;have B9:=hid b9;have K9:=hid (K7.trans k9);clear b9 k9;go_wp2_with fail
     exact aX (aK rfl _ _ _) rfl ⟨rfl,a4,by rw[HR.out];exact B9,K9.out⟩
theorem AY {m:Nat} (p:PW) (f:Nat) (W:World) (wb:Nat) (tag:Nat->Nat) (V:Nat->Value) (hi:Inv p) (ht:TL p) (hk:p.kinds[f]? =some 8) (ho:il p 8 f=false) (bt:cb W wb tag V p):
  Calls Tryz.prog 37 #[.pointer (some ⟨wb,0,none⟩),.int .i64 f] W fun r W'=>r=.returned (.tuple #[])∧∃tag',cb W' wb tag' V (gnF (drR m) p 8 f)∧Kt tag tag' W W':=by
 obtain⟨hf,aA⟩:=List.getElem?_eq_some_iff.1 hk;have aV:=hi.Ez;have a9:(p.kinds.length:Int)<=1000:=oA;have a4:(f:Int)<(p.kinds.length:Int):=oA;have ba:(p.DY.length:Int)<=1000:=by have:=hi.DY;omega
 obtain⟨g1,aR,e1⟩:=bt.o.kinds.form (show 0<p.kinds.length by omega);obtain⟨g3,cap3,e3⟩:=bt.o.DY.form (show 0<p.DY.length by have:=hi.DY;omega);have E1:=hid e1;have Y:=hid e3;have c1:W.cell? ⟨wb,1,none⟩=some (.slice (some ⟨g1,0,none⟩) p.kinds.length aR):=by rw[ah bt.r (k:=1) rfl,e1]
 have x1:=bt.El e1 hf;rw[aA] at x1;have a3:=bt.Et e1 f;obtain⟨b1,k1⟩:=bt.Eh e1 f 0;have B1:=hid (show cb (W.setCell ⟨g1,f,none⟩ (.int .i64 0)) wb tag V (nkP p f) from b1);have K1:=hid k1;have hh:=kx hi hk ho;have aZ:(nkP p f).kinds.length=p.kinds.length:=au ..;have tn:TL (nkP p f):=ht.of rfl rfl;have aW:(nkP p f).Eb.length<=600:=by have:=hh.Eb;omega
 have v:f<p.lines.length:=by rw[hi.lines];exact hf
 have ax:f<p.bits.length:=by rw[hi.bits];exact hf
 have bb:(p.lines.length:Int)<=1000:=by have:=hi.lines;omega
 have bc:(p.bits.length:Int)<=1000:=by have:=hi.bits;omega
 have a5:(f:Int)<(p.lines.length:Int):=oA;have a6:(f:Int)<(p.bits.length:Int):=oA;obtain⟨b,eL⟩:=bt.o.lines.form;obtain⟨J,cap5,e5⟩:=bt.o.bits.form (show 0<p.bits.length by omega);have EL:=hid eL;have E5:=hid e5;have aM:=hid v;have aL:=hid ax;obtain⟨l,hl⟩:∃l,p.lines.getD f []=l:=⟨_,rfl⟩
 have HZ:=hid (show ∀z∈l,∃u:Nat,z=u∧u<p.DY.length from fun z C=>hi.line _ (by rw[<-hl] at C;rw[aa,ac v] at C;exact aw v) z (by rw[<-hl,aa,ac v] at C;exact C));have aU:l.length<=1000:=by
  have h1:=hi.fits.line _ (aw v);have L:=hl;rw[aa,ac v,aT] at L;rw[L] at h1;exact h1
 have bf:(l.length:Int)<=1000:=oA;have an:=hid (fun X q (h:cb X wb tag V q) (e:q.lines=p.lines)=>show ∃u,X.cell? ⟨b,f,none⟩=some u∧InT X tag (12+3*f) 3 1 u (l.length,ec l) from by
  have L:=h.o.lines;rw[e,eL] at L;obtain⟨u,cu,B⟩:=L.at v;unfold ci at B;rw[hl] at B;exact⟨u,cu,B⟩)
 have aD:b≠g3:=by
  intro e;have M:=bt.o.lines;rw[eL] at M;have h4:=bt.o.DY;rw[e3] at h4;have h6:=h4.2 g3 rfl;rw[<-e,M.EZ.1] at h6
  cases h6
 have ao:=hid aD;have HL:=hid hl;have az:=gw hi hk ho oD;have ay:=pJ (az.h (-1)) f;have P:Inv (dsP (nkP p f) f):=ay.full fun _ _ e=>e;have HR:=hid (show gnF (drR m) p 8 f=fwP (dsP (nkP p f) f) 8 f by
  unfold gnF lsF;rw[ae oD,ae oD,ae oD,ae oD,yH 13 (fun g hg e=>?_)];rcases P.Ey g hg with h1|⟨u,B,aB⟩
  ·omega
  ·have:u=f:=oA;subst this;rw[ie] at aB;exact (uw aB oD).2 rfl)
 have tq:TL (dsP (nkP p f) f):=tn.of (oe (nkP p f) f).1 (oe (nkP p f) f).2;have aI:=hid (fun X aG (h:cb X wb aG V (dsP (nkP p f) f))=>ez wb aG V (dsP (nkP p f) f) 8 f X h (P).fits (tq).len (tq).EV (tq).word (by have:=(P).Eb;have:=(P).Ez;omega));clear hi ht hk ho bt hf aA aV e1 e3 b1 k1 hh aZ tn aW P v ax eL e5 hl aU aD tq az ay;go_enter Tryz.func37,Tryz.ntmps37
 go_upto_region 2 with fail
 generalize World.setCell _ _ _=W1 at*;clear c1 x1 a3;have c3:W1.cell? ⟨wb,3,none⟩=some (.slice (some ⟨g3,0,none⟩) p.DY.length cap3):=by rw[ah B1.r (k:=3) rfl,Y.out]
 go_upto_region 9 with fail
 go_loopw [6] (fun i wr=>∃(j:Nat),j<=p.DY.length∧i=.int .i64 j∧W1=wr) (fun i _=>p.DY.length - (intOf i).toNat)
 case atStart=>exact⟨0,oA,rfl,rfl⟩
 case round=>
  obtain⟨j,hj,rfl,rfl⟩:=hrel;by_cases ad:j<p.DY.length
  ·have aY:(j:Int)<(p.DY.length:Int):=oA;go_wp2_with fail
   exact⟨⟨j+1,oA,by go_num,by first|rfl|trivial⟩,by simp[intOf];omega⟩
  ·obtain rfl:j=p.DY.length:=oA;have a7:¬((p.DY.length:Int)<(p.DY.length:Int)):=oA;have t:=hid (show (nkP p f).lines=p.lines∧(nkP p f).bits=p.bits∧(nkP p f).DY.length=p.DY.length from⟨rfl,rfl,rfl⟩);generalize nkP p f=q1 at*;have B2:=B1;have K2:=K1;generalize W1=W5 at*;obtain⟨u,cu,B⟩:=an.out W5 q1 B2 t.1;obtain⟨q,c,s,rfl,hq⟩:=B.shape;have HQ:=hid hq;have aO:=hid cu;clear hq B cu;go_upto_region 30 with fail
   go_loopw [9] (fun i wr=>∃(j:Nat),j<=l.length∧i=.int .i64 j∧Hid (cb wr wb tag V ((l.take j).foldl ds1 q1))∧Hid (Kt tag tag W wr)∧Hid (wr.cell? ⟨b,f,none⟩=some (.slice q l.length s))) (fun i _=>l.length - (intOf i).toNat)
   case atStart=>exact⟨0,oA,rfl,B2,K2,aO⟩
   case round=>
    obtain⟨j,hj,rfl,G,HK,F⟩:=hrel;have ar:=hid (fm (l.take j) q1);have LT:=hid (show ((l.take j).foldl ds1 q1).DY.length=p.DY.length by rw[tv];exact t.2.2);have c4:wr.cell? ⟨wb,4,none⟩=some (.slice (some ⟨b,0,none⟩) p.lines.length p.lines.length):=by rw[ah G.r (k:=4) rfl,EL.out]
    have cl:=F.out;by_cases ad:j<l.length
    ·have aY:(j:Int)<(l.length:Int):=oA;have a0:=HQ.out oA;subst a0;obtain⟨z,C,af⟩:=HZ.out l[j] (aw ad);have aP:=hid C;have bg:(z:Int)<(p.DY.length:Int):=oA;have I:=hid (fun X qx (h:cb X wb tag V qx) (e:qx.lines=p.lines) (hc:X.cell? ⟨b,f,none⟩=some (.slice (some ⟨c,0,none⟩) l.length s))=>show X.cell? ⟨wb,3,none⟩=some (.slice (some ⟨g3,0,none⟩) p.DY.length cap3)∧X.cell? ⟨wb,4,none⟩=some (.slice (some ⟨b,0,none⟩) p.lines.length p.lines.length)∧X.cell? ⟨b,f,none⟩=some (.slice (some ⟨c,0,none⟩) l.length s)∧X.cell? ⟨c,j,none⟩=some (.int .i64 z) from⟨by rw[ah h.r (k:=3) rfl,Y.out],by rw[ah h.r (k:=4) rfl,EL.out],hc,by
      obtain⟨u2,aS,aF⟩:=an.out X qx h e;rw[aH (aS.symm.trans hc)] at aF;have x:=aF.int ad;rw[C] at x;exact x⟩)
     have LN:=hid (show ((l.take j).foldl ds1 q1).lines=p.lines by rw[ar.out];exact t.1);have he:V 3=.slice (some ⟨g3,0,none⟩) ((l.take j).foldl ds1 q1).DY.length cap3:=by rw[LT.out];exact Y
     have D:Hid (cb wr.drew wb tag V ((l.take j).foldl ds1 q1)):=hid (G.below (aC wr 1));have KD:Hid (Kt tag tag W wr.drew):=hid (HK.trans (.below (aC wr 1)));have xa:=D.Ec he (i:=z) (by rw[LT.out];exact af) (show 9<20 by omega);have fa:=D.Ef he (z*20+9);obtain⟨b1,Q⟩:=D.task he (i:=z) (by rw[LT.out];exact af) (show 9<20 by omega) 0;have d:=hid (show cb (wr.setCell ⟨g3,z*20+9,none⟩ (.int .i64 0)).drew wb tag V (((l.take j).foldl ds1 q1).task z 9 0) from b1);have H:=hid (show Kt tag tag W (wr.setCell ⟨g3,z*20+9,none⟩ (.int .i64 0)).drew from KD.trans Q);have U:=hid (show (wr.setCell ⟨g3,z*20+9,none⟩ (.int .i64 0)).drew.cell? ⟨b,f,none⟩=some (.slice (some ⟨c,0,none⟩) l.length s) from by
      show (wr.setCell ⟨g3,z*20+9,none⟩ (.int .i64 0)).cell? ⟨b,f,none⟩=_
      rw[aJ _ _ _ _ (by intro e;cases e;exact ao rfl)];exact F)
     have S0:=hid (I.out _ _ D LN F);have S6:=hid (I.out _ _ d LN U);clear b1 Q he;go_upto_region 32 with fail
     clear c4 cl;refine wp_region_held_drew (S:=fun X=>X.cell? ⟨wb,3,none⟩=some (.slice (some ⟨g3,0,none⟩) p.DY.length cap3)∧X.cell? ⟨wb,4,none⟩=some (.slice (some ⟨b,0,none⟩) p.lines.length p.lines.length)∧X.cell? ⟨b,f,none⟩=some (.slice (some ⟨c,0,none⟩) l.length s)∧X.cell? ⟨c,j,none⟩=some (.int .i64 z)) oK S0 (fun N=>?_);have a:=hid N;clear N;refine tk 0 (.pointer (some ⟨wb,0,none⟩)) rfl a ?_;simp only[jj];refine tk 1 (.pointer (some ⟨wb,0,none⟩)) rfl a ?_;simp only[jj];refine tk 2 (.pointer (some ⟨wb,3,none⟩)) rfl a ?_;simp only[jj];refine dW 3 (.slice (some ⟨g3,0,none⟩) p.DY.length cap3) rfl (Or.inl ⟨oR,fun W h=>by have A:=h.1;clear h;go_simp⟩) a ?_;simp only[jj];refine tk 4 (.pointer (some ⟨wb,0,none⟩)) rfl a ?_;simp only[jj];refine tk 5 (.pointer (some ⟨wb,0,none⟩)) rfl a ?_;simp only[jj];refine tk 6 (.pointer (some ⟨wb,4,none⟩)) rfl a ?_;simp only[jj];refine dW 7 (.slice (some ⟨b,0,none⟩) p.lines.length p.lines.length) rfl (Or.inl ⟨oR,fun W h=>by have A:=h.2.1;clear h;go_simp⟩) a ?_;simp only[jj];refine tk 8 (.int .i64 f) rfl a ?_;simp only[jj];refine tk 9 (.pointer (some ⟨b,f,none⟩)) rfl a ?_;simp only[jj];refine dW 10 (.slice (some ⟨c,0,none⟩) l.length s) rfl (Or.inl ⟨oR,fun W h=>by have A:=h.2.2.1;clear h;go_simp⟩) a ?_;simp only[jj];refine tk 11 (.int .i64 j) rfl a ?_;simp only[jj];refine tk 12 (.pointer (some ⟨c,j,none⟩)) rfl a ?_;simp only[jj];refine dW 13 (.int .i64 z) rfl (Or.inl ⟨oR,fun W h=>by have A:=h.2.2.2;clear h;go_simp⟩) a ?_;simp only[jj];refine tk 14 (.pointer (some ⟨g3,z*20,none⟩)) rfl a ?_;simp only[jj];refine tk 15 (.pointer (some ⟨g3,z*20+9,none⟩)) rfl a ?_;simp only[jj];refine wpAnyH_ready (rs:=[16]) oK oS (AllReadyH.cons rfl (fun K O=>?_) AllReadyH.nil);go_simp
     refine O _ _ S6 (fun _=>?_);clear O K a
     try simp only[Act.put]
     refine dN oK ?_ _;clear xa fa S0 D KD G HK F;generalize World.drew (World.setCell _ _ _)=n at*;have ab:V 3=.slice (some ⟨g3,0,none⟩) (((l.take j).foldl ds1 q1).task z 9 0).DY.length cap3:=by rw[am,LT.out];exact Y
     have E:Hid (cb n.drew wb tag V (((l.take j).foldl ds1 q1).task z 9 0)):=hid (d.below (aC n 1));have KE:Hid (Kt tag tag W n.drew):=hid (H.trans (.below (aC n 1)));have xb:=E.Ec ab (i:=z) (by rw[am,LT.out];exact af) (show 14<20 by omega);have fb:=E.Ef ab (z*20+14);obtain⟨b2,R⟩:=E.task ab (i:=z) (by rw[am,LT.out];exact af) (show 14<20 by omega) (-1);have T:=hid (show cb (n.setCell ⟨g3,z*20+14,none⟩ (.int .i64 (-1))).drew wb tag V ((l.take (j+1)).foldl ds1 q1) by
      rw[tw l j ad,aP.out];unfold ds1;rw[ag];exact b2)
     have K7:=hid (show Kt tag tag W (n.setCell ⟨g3,z*20+14,none⟩ (.int .i64 (-1))).drew from KE.trans R);have C7:=hid (show (n.setCell ⟨g3,z*20+14,none⟩ (.int .i64 (-1))).drew.cell? ⟨b,f,none⟩=some (.slice (some ⟨c,0,none⟩) l.length s) from by
      show (n.setCell ⟨g3,z*20+14,none⟩ (.int .i64 (-1))).cell? ⟨b,f,none⟩=_
      rw[aJ _ _ _ _ (by intro e;cases e;exact ao rfl)];exact U)
     have aQ:=hid (show ((l.take (j+1)).foldl ds1 q1).lines=p.lines by rw[fm];exact t.1);have av:=hid (I.out _ _ E LN U);have S7:=hid (I.out _ _ T aQ C7);clear b2 R ab;go_upto_region 33 with fail
     refine wp_region_held_drew (S:=fun X=>X.cell? ⟨wb,3,none⟩=some (.slice (some ⟨g3,0,none⟩) p.DY.length cap3)∧X.cell? ⟨wb,4,none⟩=some (.slice (some ⟨b,0,none⟩) p.lines.length p.lines.length)∧X.cell? ⟨b,f,none⟩=some (.slice (some ⟨c,0,none⟩) l.length s)∧X.cell? ⟨c,j,none⟩=some (.int .i64 z)) oK av (fun N=>?_);have a:=hid N;clear N;refine tk 0 (.pointer (some ⟨wb,0,none⟩)) rfl a ?_;simp only[jj];refine tk 1 (.pointer (some ⟨wb,0,none⟩)) rfl a ?_;simp only[jj];refine tk 2 (.pointer (some ⟨wb,3,none⟩)) rfl a ?_;simp only[jj];refine dW 3 (.slice (some ⟨g3,0,none⟩) p.DY.length cap3) rfl (Or.inl ⟨oR,fun W h=>by have A:=h.1;clear h;go_simp⟩) a ?_;simp only[jj];refine tk 4 (.pointer (some ⟨wb,0,none⟩)) rfl a ?_;simp only[jj];refine tk 5 (.pointer (some ⟨wb,0,none⟩)) rfl a ?_;simp only[jj];refine tk 6 (.pointer (some ⟨wb,4,none⟩)) rfl a ?_;simp only[jj];refine dW 7 (.slice (some ⟨b,0,none⟩) p.lines.length p.lines.length) rfl (Or.inl ⟨oR,fun W h=>by have A:=h.2.1;clear h;go_simp⟩) a ?_;simp only[jj];refine tk 8 (.int .i64 f) rfl a ?_;simp only[jj];refine tk 9 (.pointer (some ⟨b,f,none⟩)) rfl a ?_;simp only[jj];refine dW 10 (.slice (some ⟨c,0,none⟩) l.length s) rfl (Or.inl ⟨oR,fun W h=>by have A:=h.2.2.1;clear h;go_simp⟩) a ?_;simp only[jj];refine tk 11 (.int .i64 j) rfl a ?_;simp only[jj];refine tk 12 (.pointer (some ⟨c,j,none⟩)) rfl a ?_;simp only[jj];refine dW 13 (.int .i64 z) rfl (Or.inl ⟨oR,fun W h=>by have A:=h.2.2.2;clear h;go_simp⟩) a ?_;simp only[jj];refine tk 14 (.pointer (some ⟨g3,z*20,none⟩)) rfl a ?_;simp only[jj];refine tk 15 (.pointer (some ⟨g3,z*20+14,none⟩)) rfl a ?_;simp only[jj];refine wpAnyH_ready (rs:=[16]) oK oS (AllReadyH.cons rfl (fun K O=>?_) AllReadyH.nil);go_simp
     refine O _ _ S7 (fun _=>?_);clear O K a
     try simp only[Act.put]
     refine dN oK ?_ _;clear xb fb S6 av S7 E KE d H U I;generalize World.drew (World.setCell _ _ _)=W7 at*;go_wp2_with fail
     exact⟨⟨j+1,oA,by go_num,T,K7,C7⟩,by simp[intOf];omega⟩
    ·obtain rfl:j=l.length:=oA;have a8:¬((l.length:Int)<(l.length:Int)):=oA;have ap:=hid (show cb wr wb tag V (l.foldl ds1 q1) by have h:=G.out;rw[cY] at h;exact h);have aq:=hid (fm l q1);generalize aE:l.foldl ds1 q1=w at*;have aN:=hid aE;have aj:=hid (show w.lines=p.lines by rw[aq.out];exact t.1);have ai:=hid (show w.bits=p.bits by rw[aq.out];exact t.2.1);clear G ar LT aE;have al:V 4=.slice (some ⟨b,0,none⟩) w.lines.length w.lines.length:=by rw[aj.out];exact EL
     have fl:wr.frozen? ⟨b,f,none⟩=false:=by
      have M:=ap.o.lines;rw[al] at M;exact M.fr f
     obtain⟨b1,Q⟩:=ap.Fi al (j:=f) (by rw[aj.out];exact aM);have d:=hid b1;have H:=hid (HK.trans Q);have Z:V 5=.slice (some ⟨J,0,none⟩) ({w with lines:=w.lines.set f []}:PW).bits.length cap5:=by show V 5=.slice (some ⟨J,0,none⟩) w.bits.length cap5;rw[ai.out];exact E5
     have c5:(wr.setCell ⟨b,f,none⟩ (.slice none 0 0)).cell? ⟨wb,5,none⟩=some (.slice (some ⟨J,0,none⟩) p.bits.length cap5):=by rw[ah d.r (k:=5) rfl,E5.out]
     obtain⟨yb,xb⟩:∃y,(wr.setCell ⟨b,f,none⟩ (.slice none 0 0)).cell? ⟨J,f,none⟩=some y:=⟨_,d.Fh Z (i:=f) (by show f<w.bits.length;rw[ai.out];exact aL)⟩
     have fb:=d.Fk Z f;obtain⟨b2,R⟩:=d.Ew Z f 0;have T:=hid (show cb ((wr.setCell ⟨b,f,none⟩ (.slice none 0 0)).setCell ⟨J,f,none⟩ (.int .i64 0)) wb tag V (dsP q1 f) by
      unfold dsP;rw[t.1,HL.out,aN.out, <-aj.out,t.2.1, <-ai.out];exact b2)
     have K7:=hid (H.trans R);clear b1 Q b2 R Z al F;go_upto_region 35 with fail
     generalize World.setCell _ _ _=n at*;clear c4 cl fl;go_upto_region 36 with fail
     generalize World.setCell _ _ _=W7 at*;clear c5 xb fb d H;go_wp2_with fail
     refine (aI.out _ _ T).mono ?_;rintro r w9 ⟨rfl,a2,b9,k9⟩;have B9:=hid b9;have K9:=hid (K7.trans k9);clear b9 k9;go_wp2_with fail
     exact aX (aK rfl _ _ _) rfl ⟨rfl,a2,by rw[HR.out];exact B9,K9.out⟩
