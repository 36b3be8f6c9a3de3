/- Uad -/
import Derived.BigQuiet
import Derived.Test.YtnccmdndkmmhcaaGreatDoorUac
set_option maxRecDepth 100000
set_option maxHeartbeats 16000000
namespace Go.Proofs.YtnccmdndkmmhcaaGreatDoor
namespace Wd
open Go.RowKit Mem Bw Nums Mmu
structure jW (w:World) (v:Value) (zs:List Int):Prop where
 row:∃q b off cap,v=.slice q zs.length cap∧(0<zs.length->q=some ⟨b,off,none⟩)∧fW w b off zs
 word:∀z∈zs,0<=z∧z<65536
 len:zs.length<=600
theorem jW.below {w w':World} {v:Value} {zs:List Int} (h:jW w v zs) (e:Below w.heap.size w w'):jW w' v zs:=
 ⟨by obtain⟨q,b,off,cap,a,c,d⟩:=h.row;exact⟨q,b,off,cap,a,c,d.below e⟩,h.word,h.len⟩
theorem nK (v:Value) (zs:List Int) (s a:Int) (w:World) (hv:jW w v zs):
  Calls Tryz.prog 247 #[v,.int .i64 s,.int .i64 a] w fun e w'=>e=.returned (.bool (decide (inb zs.length s a)))∧w=w':=by
 obtain⟨⟨q,b,off,cap,rfl,l,m⟩,_,hl⟩:=hv;have k:(zs.length:Int)<=600:=oA;by_cases c:(zs.length:Int)%16=0
 ·have d:((zs.length:Int)%16 !=0)=false:=by rw[bne_eq_false_iff_eq];exact c
  by_cases f:24<(zs.length:Int)/16
  ·have e:decide (inb zs.length s a)=false:=aw (by unfold inb;omega);rw[e];go_enter Tryz.func247,Tryz.ntmps247
   go_wp2_with fail
   go_ret
   exact⟨rfl,rfl⟩
  ·by_cases g:0<=s
   ·by_cases h:s<(zs.length:Int)/16
    ·by_cases i:0<=a
     ·by_cases j:a<4096
      ·have e:decide (inb zs.length s a)=true:=az (by unfold inb;omega);rw[e];go_enter Tryz.func247,Tryz.ntmps247
       go_wp2_with fail
       go_ret
       exact⟨rfl,rfl⟩
      ·have e:decide (inb zs.length s a)=false:=aw (by unfold inb;omega);rw[e];go_enter Tryz.func247,Tryz.ntmps247
       go_wp2_with fail
       go_ret
       exact⟨rfl,rfl⟩
     ·have e:decide (inb zs.length s a)=false:=aw (by unfold inb;omega);rw[e];go_enter Tryz.func247,Tryz.ntmps247
      go_wp2_with fail
      go_ret
      exact⟨rfl,rfl⟩
    ·have e:decide (inb zs.length s a)=false:=aw (by unfold inb;omega);rw[e];go_enter Tryz.func247,Tryz.ntmps247
     go_wp2_with fail
     go_ret
     exact⟨rfl,rfl⟩
   ·have e:decide (inb zs.length s a)=false:=aw (by unfold inb;omega);rw[e];go_enter Tryz.func247,Tryz.ntmps247
    go_wp2_with fail
    go_ret
    exact⟨rfl,rfl⟩
 ·have d:((zs.length:Int)%16 !=0)=true:=by rw[bne_iff_ne];exact c
  have e:decide (inb zs.length s a)=false:=aw (by unfold inb;omega);rw[e];go_enter Tryz.func247,Tryz.ntmps247
  go_wp2_with fail
  go_ret
  exact⟨rfl,rfl⟩
theorem jU (v:Value) (zs:List Int) (w:World) (hv:jW w v zs) (c:(zs.length:Int)%16=0) (d:(zs.length:Int)<=384):
  Calls Tryz.prog 201 #[v] w fun e w'=>e=.returned (.int .i64 ((zs.length:Int)/16))∧w=w':=by
 obtain⟨⟨q,b,off,cap,rfl,f,g⟩,_,hl⟩:=hv;have a:¬(0<(zs.length:Int)%16):=oA;go_enter Tryz.func201,Tryz.ntmps201
 go_wp2_with fail
 go_ret
 exact⟨rfl,rfl⟩
theorem pe (v:Value) (zs:List Int) (w:World) (hv:jW w v zs) (h:¬((zs.length:Int)%16=0∧(zs.length:Int)<=384)):
  Calls Tryz.prog 201 #[v] w fun e w'=>e=.returned (.int .i64 (-1))∧w=w':=by
 obtain⟨⟨q,b,off,cap,rfl,d,f⟩,_,hl⟩:=hv;by_cases a:0<(zs.length:Int)%16
 ·clear h;go_enter Tryz.func201,Tryz.ntmps201
  go_wp2_with fail
  go_ret
  exact⟨rfl,rfl⟩
 ·have c:384<(zs.length:Int):=oA;go_enter Tryz.func201,Tryz.ntmps201
  go_wp2_with fail
  go_ret
  exact⟨rfl,rfl⟩
theorem lG (v:Value) (zs:List Int) (f k:Int) (w:World) (hv:jW w v zs) (y:0<=f) (B:0<=k) (hk:f*16+k<zs.length) (x:Int) (c:zs[(f*16+k).toNat]? =some x) (h:isE x ((zs.length:Int)/16)):
  Calls Tryz.prog 248 #[v,.int .i64 f,.int .i64 k] w fun e w'=>e=.returned (.tuple #[.int .i64 (x%1024),.bool (decide (x/16384%2=1)),.bool true])∧w=w':=by
 obtain⟨⟨q,b,off,cap,rfl,j,n⟩,l,hl⟩:=hv;have a:(f*16+k).toNat<zs.length:=oA;have u:=j oA;subst u;have t:=n _ a;rw[ac a] at c;have d:=aK c;rw[d] at t;have m:=l _ (av a);rw[d] at m;obtain⟨o,x1⟩:=m;have i0:0<=f*16+k:=oA;have e10:=xD x;have i:=DV x o x1;have g:=DU x o x1;have z:f<100:=oA;have C:k<1000:=oA;unfold isE at h;have p:=hid (show (bits .and .i64 x 16384 !=0)=decide (x/16384%2=1) by rw[g,cY,bne_iff_ne,decide_eq_true_iff];omega);have s:(bits .and .i64 x 32768==0)=false:=by rw[i];exact beq_eq_false_iff_ne.2 oA
 have A:¬((zs.length:Int)/16<=x%1024):=oA;clear j n l c d h g i;go_enter Tryz.func248,Tryz.ntmps248
 go_wp2_with fail
 refine (qT x _ s).mono ?_;rintro r w1 ⟨rfl,rfl⟩;go_wp2_with fail
 go_ret3
 exact⟨by rw[<-p.out];rfl,rfl⟩
theorem mG (v:Value) (zs:List Int) (f k:Int) (w:World) (hv:jW w v zs) (y:0<=f) (B:0<=k) (hk:f*16+k<zs.length) (x:Int) (j:zs[(f*16+k).toNat]? =some x) (h:¬isE x ((zs.length:Int)/16)):
  Calls Tryz.prog 248 #[v,.int .i64 f,.int .i64 k] w fun e w'=>e=.returned (.tuple #[.int .i64 0,.bool false,.bool false])∧w=w':=by
 obtain⟨⟨q,b,off,cap,rfl,o,t⟩,s,hl⟩:=hv;have c:(f*16+k).toNat<zs.length:=oA;have p:=o oA;subst p;have n:=t _ c;rw[ac c] at j;have l:=aK j;rw[l] at n;have i:=s _ (av c);rw[l] at i;obtain⟨m,x1⟩:=i;have i0:0<=f*16+k:=oA;have e10:=xD x;have d:=DV x m x1;have u:=DU x m x1;have z:f<100:=oA;have C:k<1000:=oA;unfold isE at h;by_cases g:x/32768%2=0
 ·have a:(bits .and .i64 x 32768==0)=true:=by rw[d,g];rfl
  go_enter Tryz.func248,Tryz.ntmps248
  go_wp2_with fail
  refine (zN x _ a).mono ?_;rintro r w1 ⟨rfl,rfl⟩;go_wp2_with fail
  go_ret3
  exact⟨rfl,rfl⟩
 ·have a:(bits .and .i64 x 32768==0)=false:=by rw[d];exact beq_eq_false_iff_ne.2 oA
  have A:(zs.length:Int)/16<=x%1024:=oA;go_enter Tryz.func248,Tryz.ntmps248
  go_wp2_with fail
  refine (qT x _ a).mono ?_;rintro r w1 ⟨rfl,rfl⟩;go_wp2_with fail
  go_ret3
  exact⟨rfl,rfl⟩
theorem vG (v:Value) (zs:List Int) (s a:Int) (w:World) (hv:jW w v zs):
  Calls Tryz.prog 200 #[v,.int .i64 s,.int .i64 a] w fun e w'=>e=.returned (.tuple #[.int .i64 (en zs s a).1,.bool (en zs s a).2.1,wD (en zs s a).2.2])∧w=w':=by
 have f:=hid hv;have i:=hid (nK v zs s a w f);by_cases h:inb zs.length s a
 ·obtain⟨s0,k,d1⟩:=H7 h;have d:=hid (az h);have a0:0<=a:=by unfold inb at h;omega
  have a1:a<4096:=by unfold inb at h;omega
  have m:=qH (zs:=zs) (j:=(s*16+a/256).toNat) oA;by_cases b:isE (e1 zs s a) (n16 zs)
  ·obtain⟨o,d2,l⟩:=H8 h b;have n:=qH (zs:=zs) (j:=(e1 zs s a%1024*16+a/16%16).toNat) oA;have g:=hid (lG v zs s (a/256) w f s0 k d1 _ m b);by_cases c:isE (e2 zs (e1 zs s a%1024) a) (n16 zs)
   ·have p:=hid (lG v zs (e1 zs s a%1024) (a/16%16) w f o d2 l _ n c);rw[kP h b c];clear h b c m n k d1 d2 l s0 o;go_enter Tryz.func200,Tryz.ntmps200
    go_wp2_with fail
    refine i.mono ?_;rintro e w' ⟨rfl,rfl⟩;rw[d.out];go_wp2_with fail
    refine g.mono ?_;rintro e w' ⟨rfl,rfl⟩;go_wp2_with fail
    refine p.mono ?_;rintro e w' ⟨rfl,rfl⟩;go_wp2_with fail
    go_ret3
    exact⟨rfl,rfl⟩
   ·have p:=hid (mG v zs (e1 zs s a%1024) (a/16%16) w f o d2 l _ n c);rw[ny h b c];clear h b c m n k d1 d2 l s0 o;go_enter Tryz.func200,Tryz.ntmps200
    go_wp2_with fail
    refine i.mono ?_;rintro e w' ⟨rfl,rfl⟩;rw[d.out];go_wp2_with fail
    refine g.mono ?_;rintro e w' ⟨rfl,rfl⟩;go_wp2_with fail
    refine p.mono ?_;rintro e w' ⟨rfl,rfl⟩;go_wp2_with fail
    go_ret3
    exact⟨rfl,rfl⟩
  ·have g:=hid (mG v zs s (a/256) w f s0 k d1 _ m b);rw[nv h b];go_enter Tryz.func200,Tryz.ntmps200
   go_wp2_with fail
   refine i.mono ?_;rintro e w' ⟨rfl,rfl⟩;rw[d.out];go_wp2_with fail
   refine g.mono ?_;rintro e w' ⟨rfl,rfl⟩;go_wp2_with fail
   go_ret3
   exact⟨rfl,rfl⟩
 ·have d:=hid (aw h);rw[iZ h];go_enter Tryz.func200,Tryz.ntmps200
  go_wp2_with fail
  refine i.mono ?_;rintro e w' ⟨rfl,rfl⟩;rw[d.out];go_wp2_with fail
  go_ret3
  exact⟨rfl,rfl⟩
theorem lP (v:Value) (zs:List Int) (s a:Int) (w:World) (hv:jW w v zs):
  Calls Tryz.prog 153 #[v,.int .i64 s,.int .i64 a] w fun e w'=>e=.returned (.tuple #[.int .i64 (en zs s a).1,.bool (en zs s a).2.1,.int .i64 (en zs s a).2.2])∧w=w':=by
 have u:=hid hv;obtain⟨⟨q,b,off,cap,rfl,m,j⟩,i,hl⟩:=hv;have o:=hid (Isa.fy a 4095 w);by_cases h:inb zs.length s a
 ·obtain⟨s0,D,d1⟩:=H7 h;have a0:0<=a:=by unfold inb at h;omega
  have a1:a<4096:=by unfold inb at h;omega
  have d:=hid (jU _ zs w u (by unfold inb at h;omega) (by unfold inb at h;omega));have E:¬((zs.length:Int)/16<0):=oA;have G:¬(s<0):=oA;have H:¬((zs.length:Int)/16<=s):=by unfold inb at h;omega
  have l:Hid (decide (a<0∨4095<a)=false):=aw oA;have K:s<100:=oA;have p:(s*16+a/256).toNat<zs.length:=oA;have F:=m oA;subst F;have c1:=j _ p;have x:zs[(s*16+a/256).toNat]=e1 zs s a:=by unfold e1;rw[aa,ac p];rfl
  have w1:=i _ (av p);rw[x] at c1 w1;obtain⟨z,x1⟩:=w1;have i1:s*16+a/256<(zs.length:Int):=d1;have i0:0<=s*16+a/256:=oA;by_cases f:isE (e1 zs s a) (n16 zs)
  ·obtain⟨L,d2,I⟩:=H8 h f;have r:(e1 zs s a%1024*16+a/16%16).toNat<zs.length:=oA;have c2:=j _ r;have y:zs[(e1 zs s a%1024*16+a/16%16).toNat]=e2 zs (e1 zs s a%1024) a:=by unfold e2;rw[aa,ac r];rfl
   have w2:=i _ (av r);rw[y] at c2 w2;obtain⟨A,B⟩:=w2;have i2:0<=e1 zs s a%1024*16+a/16%16:=oA;have tn:¬(e1 zs s a%1024<0):=oA;have M:e1 zs s a%1024<1024:=oA;have n:=hid (qB (e1 zs s a) ((zs.length:Int)/16) w z x1 f);by_cases k:isE (e2 zs (e1 zs s a%1024) a) (n16 zs)
   ·have t:=hid (qB (e2 zs (e1 zs s a%1024) a) ((zs.length:Int)/16) w A B k);have c:=hid (kP h f k);have J:¬(e2 zs (e1 zs s a%1024) a%1024<0):=oA;have C:=hid (show (e2 zs (e1 zs s a%1024) a/16384%2==1)=decide (e2 zs (e1 zs s a%1024) a/16384%2=1) by rw[cY];simp);clear h f k p r D d1 d2 s0 x y m j i;go_enter Tryz.func153,Tryz.ntmps153
    go_wp2_with fail
    refine d.mono ?_;rintro e w' ⟨rfl,rfl⟩;go_wp2_with fail
    refine o.mono ?_;rintro e w' ⟨rfl,rfl⟩;rw[l.out];go_wp2_with fail
    refine n.mono ?_;rintro e w' ⟨rfl,rfl⟩;go_wp2_with fail
    refine t.mono ?_;rintro e w' ⟨rfl,rfl⟩;go_wp2_with fail
    go_ret3
    exact⟨by rw[c.out, <-C.out];rfl,rfl⟩
   ·have t:=hid (tN (e2 zs (e1 zs s a%1024) a) ((zs.length:Int)/16) w A B k);have c:=hid (ny h f k);go_enter Tryz.func153,Tryz.ntmps153
    go_wp2_with fail
    refine d.mono ?_;rintro e w' ⟨rfl,rfl⟩;go_wp2_with fail
    refine o.mono ?_;rintro e w' ⟨rfl,rfl⟩;rw[l.out];go_wp2_with fail
    refine n.mono ?_;rintro e w' ⟨rfl,rfl⟩;go_wp2_with fail
    refine t.mono ?_;rintro e w' ⟨rfl,rfl⟩;go_wp2_with fail
    go_ret3
    exact⟨by rw[c.out];rfl,rfl⟩
  ·have n:=hid (tN (e1 zs s a) ((zs.length:Int)/16) w z x1 f);have c:=hid (nv h f);go_enter Tryz.func153,Tryz.ntmps153
   go_wp2_with fail
   refine d.mono ?_;rintro e w' ⟨rfl,rfl⟩;go_wp2_with fail
   refine o.mono ?_;rintro e w' ⟨rfl,rfl⟩;rw[l.out];go_wp2_with fail
   refine n.mono ?_;rintro e w' ⟨rfl,rfl⟩;go_wp2_with fail
   go_ret3
   exact⟨by rw[c.out];rfl,rfl⟩
 ·have c:=hid (iZ h);by_cases g:(zs.length:Int)%16=0∧(zs.length:Int)<=384
  ·have d:=hid (jU _ zs w u g.1 g.2);have E:¬((zs.length:Int)/16<0):=oA;by_cases G:s<0
   ·clear h g m j i;go_enter Tryz.func153,Tryz.ntmps153
    go_wp2_with fail
    refine d.mono ?_;rintro e w' ⟨rfl,rfl⟩;go_wp2_with fail
    go_ret3
    exact⟨by rw[c.out];rfl,rfl⟩
   ·by_cases H:(zs.length:Int)/16<=s
    ·clear h g m j i;go_enter Tryz.func153,Tryz.ntmps153
     go_wp2_with fail
     refine d.mono ?_;rintro e w' ⟨rfl,rfl⟩;go_wp2_with fail
     go_ret3
     exact⟨by rw[c.out];rfl,rfl⟩
    ·have l:Hid (decide (a<0∨4095<a)=true):=az (by unfold inb at h;omega);clear h g m j i;go_enter Tryz.func153,Tryz.ntmps153
     go_wp2_with fail
     refine d.mono ?_;rintro e w' ⟨rfl,rfl⟩;go_wp2_with fail
     refine o.mono ?_;rintro e w' ⟨rfl,rfl⟩;rw[l.out];go_wp2_with fail
     go_ret3
     exact⟨by rw[c.out];rfl,rfl⟩
  ·have d:=hid (pe _ zs w u g);go_enter Tryz.func153,Tryz.ntmps153
   go_wp2_with fail
   refine d.mono ?_;rintro e w' ⟨rfl,rfl⟩;go_wp2_with fail
   go_ret3
   exact⟨by rw[c.out];rfl,rfl⟩
def d7 (p:PW) (e:Ent):Bool:=isB p e.1 4&&decide (0<=e.2.1∧e.2.1<=255)&&((en p.IL e.1 (e.2.1*16)).2.2==0&&(en p.IL e.1 (e.2.1*16)).1==e.2.2.1&&(en p.IL e.1 (e.2.1*16)).2.1==e.2.2.2)
theorem uK (vb:Nat) (V:Nat->Value) (p:PW) (s g f:Int) (wr:Bool) (w:World) (hv:d6 w vb V p) (D:jW w (V 0) p.IL):
  Calls Tryz.prog 149 #[.pointer (some ⟨vb,0,none⟩),.agg #[.int .i64 s,.int .i64 g,.int .i64 f,.bool wr]] w fun r w'=>r=.returned (.bool (d7 p (s,g,f,wr)))∧Below w.heap.size w w':=by
 have v:=cq w #[.int .i64 s,.int .i64 g,.int .i64 f,.bool wr] 40;have b:=hid (bal (af w.heap.size w) (.cells #[.int .i64 s,.int .i64 g,.int .i64 f,.bool wr] 40));have j:=hid (hv.below b);have x:=hid (D.below b);have c0:=r11 0 j.r;by_cases q:isB p s 4=true
 ·by_cases d:0<=g∧g<=255
  ·have a:=hid (show d7 p (s,g,f,wr)=((en p.IL s (g*16)).2.2==0&&(en p.IL s (g*16)).1==f&&(en p.IL s (g*16)).2.1==wr) by unfold d7;rw[q,az d];rfl);have c:=hid q;have m:=hid (az d);have B:=d.1;have C:=d.2;go_enter Tryz.func149,Tryz.ntmps149
   go_wp2_with fail
   refine (pO vb V p s 4 _ j).mono ?_;rintro e w1 ⟨rfl,rfl⟩;rw[c.out];go_wp2_with fail
   refine (ey g 0 255 _).mono ?_;rintro e w1 ⟨rfl,rfl⟩;rw[m.out];go_wp2_with fail
   have y:=hid (fun n=>x.below (aG (af _ _) n));have E:=bZ _ oA oA
   go_quiet (first|(go_at_call 200;refine bF ((vG _ _ _ _ _ (y.out _)).mono fun _ _ h=>⟨h.1,h.2.symm⟩)))
   have l:=hid (aG b nq);have A:∀o,((w.alloc (.cells #[.int .i64 s,.int .i64 g,.int .i64 f,.bool wr] 40)).drewN nq).cell? ⟨w.heap.size,o,none⟩=(#[.int .i64 s,.int .i64 g,.int .i64 f,.bool wr]:Array Value)[o]? :=v;generalize World.drewN _ _=G at l A ⊢;clear v b j x y c0 c m E B C;generalize en p.IL s (g*16)=r at a ⊢;obtain⟨u,F,k⟩:=r;by_cases hk:k=0
   ·subst hk;rw[show wD 0=.nilIface from rfl];by_cases t:u=f
    ·subst t;have i:=hid (show d7 p (s,g,u,wr)=(F==wr) by rw[a.out];simp);clear a;go_wp2_with fail
     go_ret
     exact⟨by rw[i.out];rfl,l.out⟩
    ·have H:(u==f)=false:=by simpa using t
     have i:=hid (show d7 p (s,g,f,wr)=false by rw[a.out];simp[t]);go_wp2_with fail
     go_ret
     exact⟨by rw[i.out];rfl,l.out⟩
   ·rw[show wD k=.iface 45 (.int .i64 k) by unfold wD;rw[ae hk]];have i:=hid (show d7 p (s,g,f,wr)=false by rw[a.out];simp[hk]);go_wp2_with fail
    go_ret
    exact⟨by rw[i.out];rfl,l.out⟩
  ·have a:=hid (show d7 p (s,g,f,wr)=false by unfold d7;rw[aw d];simp);have c:=hid q;have m:=hid (aw d);go_enter Tryz.func149,Tryz.ntmps149
   go_wp2_with fail
   refine (pO vb V p s 4 _ j).mono ?_;rintro e w1 ⟨rfl,rfl⟩;rw[c.out];go_wp2_with fail
   refine (ey g 0 255 _).mono ?_;rintro e w1 ⟨rfl,rfl⟩;rw[m.out];go_wp2_with fail
   go_ret
   exact⟨by rw[a.out];rfl,b.out⟩
 ·have z:isB p s 4=false:=by simpa using q
  have a:=hid (show d7 p (s,g,f,wr)=false by unfold d7;rw[z];rfl);have c:=hid z;go_enter Tryz.func149,Tryz.ntmps149
  go_wp2_with fail
  refine (pO vb V p s 4 _ j).mono ?_;rintro e w1 ⟨rfl,rfl⟩;rw[c.out];go_wp2_with fail
  go_ret
  exact⟨by rw[a.out];rfl,b.out⟩
theorem rX (vb:Nat) (V:Nat->Value) (p:PW) (j:Nat) (w:World) (hv:d6 w vb V p) (c:j<p.II.length):
  Calls Tryz.prog 146 #[.pointer (some ⟨vb,0,none⟩),.int .i64 j] w fun r w'=>r=.returned (.bool (p.II[j] 9==4))∧w=w':=by
 have g:=r11 3 hv.r;obtain⟨q,b,off,cap,e1,d,e⟩:=hv.v.II;have hl:(p.II.length:Int)<=1000:=by have:=hv.f.II;omega
 have h:(j:Int)<(p.II.length:Int):=oA;obtain rfl:=d oA;have a:=cC (e j c) (dk 20 _ 9 oA);generalize p.II[j] 9=x at a ⊢;go_enter Tryz.func146,Tryz.ntmps146
 go_wp2_with fail
 go_ret
 exact⟨rfl,rfl⟩
def fL (p:PW) (n:Int):Bool:=decide (0<=n∧n<=(p.IH.length:Int) - 1)
theorem iV (vb:Nat) (V:Nat->Value) (p:PW) (n:Int) (w:World) (hv:d6 w vb V p):
  Calls Tryz.prog 85 #[.pointer (some ⟨vb,0,none⟩),.int .i64 n] w fun r w'=>r=.returned (.bool (fL p n))∧w=w':=by
 have c2:=r11 2 hv.r;obtain⟨q,b,off,cap,e1,d,g⟩:=hv.v.IH;have hl:(p.IH.length:Int)<=1000:=by have:=hv.f.IH;omega
 have a:=hid (show fL p n=decide (0<=n∧n<=(p.IH.length:Int) - 1) from rfl);go_enter Tryz.func85,Tryz.ntmps85
 go_wp2_with fail
 refine (ey n 0 _ w).mono ?_;rintro e w1 ⟨rfl,rfl⟩;generalize decide (0<=n∧n<=(p.IH.length:Int) - 1)=c at a ⊢;go_wp2_with fail
 go_ret
 exact⟨by rw[a.out];rfl,rfl⟩
theorem lh (vb:Nat) (V:Nat->Value) (p:PW) (n:Int) (w:World) (hv:d6 w vb V p):
  Calls Tryz.prog 192 #[.pointer (some ⟨vb,0,none⟩),.int .i64 n] w fun r w'=>r=.returned (.bool (fL p n))∧w=w':=by
 have a:=hid hv;go_enter Tryz.func192,Tryz.ntmps192
 go_wp2_with fail
 refine (iV vb V p n w a).mono ?_;rintro e w1 ⟨rfl,rfl⟩;go_wp2_with fail
 go_ret
 exact⟨rfl,rfl⟩
def ez {α:Type} (f:α->Nat) (l:List α):Nat:=(l.map f).sum
theorem jN {α:Type} (f:α->Nat) {l:List α} {k:Nat} (h:k<l.length):ez f (l.take (k+1))=ez f (l.take k)+f l[k]:=by
 unfold ez;rw[bG h];simp only[eD,List.sum_append,cd,eQ,ex,List.sum_nil,bu]
theorem Dr {α:Type} (f:α->Nat) (a b:List α):ez f (a++b)=ez f a+ez f b:=by
 unfold ez;rw[eD,List.sum_append]
theorem yz {α:Type} (f:α->Nat) (c:Nat):∀l:List α,(∀x∈l,f x<=c)->ez f l<=c*l.length
 |[],_=>by simp[ez]
 |x::l,h=>by
  have a:=yz f c l fun y b=>h y (List.mem_cons_of_mem _ b);have d:=h x (cD ..);unfold ez at a ⊢;simp only[cd,ex,dY,Nat.mul_add];omega
theorem mf {α:Type} (f:α->Nat) (c k:Nat) (l:List α) (h:∀x∈l,f x<=c):ez f (l.take k)<=c*l.length:=
 aB (yz f c _ fun x a=>h x (List.mem_of_mem_take a)) (Nat.mul_le_mul_left c (by rw[bH];omega))
theorem ti {α:Type} (f:α->Nat) (l:List α):ez f (l.take l.length)=ez f l:=by rw[cO]
def one (x:Int) (z:Int):Nat:=if z=x then 1 else 0
theorem Bb (x z:Int):one x z<=1:=by unfold one;split<;>omega
def cn (x:Int) (zs:List Int):Nat:=ez (one x) zs
theorem BV (x:Int) (zs:List Int):cn x zs<=zs.length:=by
 have:=yz (one x) 1 zs fun z _=>Bb x z;unfold cn;omega
def cna (x:Int) (ls:List (List Int)):Nat:=ez (cn x) ls
theorem oY (x:Int) (ls:List (List Int)) (k:Nat) (h:∀l∈ls,l.length<=1000):cna x (ls.take k)<=1000*ls.length:=
 mf (cn x) 1000 k ls fun l hl=>aB (BV x l) (h l hl)
theorem mB (x:Value) (zs:List Int) (n:Int) (w:World) (s:ed w x zs) (hl:zs.length<=1000):
  Calls Tryz.prog 197 #[x,.int .i64 n] w fun r w'=>r=.returned (.int .i64 (cn n zs))∧w=w':=by
 obtain⟨q,b,off,cap,rfl,o,u⟩:=s;have A:(zs.length:Int)<=1000:=oA;have j:=hid o;have m:=hid u;go_enter Tryz.func197,Tryz.ntmps197
 go_wp2_with fail
 go_loopw [5,10] (fun t i wr=>∃k c:Nat,k<=zs.length∧i=.int .i64 k∧t=.int .i64 c∧Hid (c=ez (one n) (zs.take k))∧Hid (w=wr)) (fun _ i _=>zs.length - (intOf i).toNat)
 case atStart=>exact⟨0,0,oA,rfl,rfl,hid rfl,hid rfl⟩
 case round=>
  obtain⟨k,c,hk,rfl,rfl,a,l⟩:=hrel;obtain rfl:=l.out;by_cases g:k<zs.length
  ·have B:(k:Int)<(zs.length:Int):=oA;have p:=j.out oA;subst p;have c0:=m.out k g;have v:(c:Int)<=1000:=by
    have:=mf (one n) 1 k zs fun z _=>Bb n z;have:=a.out;omega
   have e:=hid (show ez (one n) (zs.take (k+1))=c+one n zs[k] by rw[jN _ g, <-a.out]);generalize zs[k]=z at c0 e;by_cases f:z=n
   ·have d:=hid (show c+1=ez (one n) (zs.take (k+1)) by rw[e.out];unfold one;rw[ag f]);subst f;go_wp2_with fail
    exact⟨⟨k+1,c+1,oA,by go_num,by go_num,d,hid oS⟩,by simp[intOf];omega⟩
   ·have d:=hid (show c=ez (one n) (zs.take (k+1)) by rw[e.out];unfold one;rw[ae f];rfl);go_wp2_with fail
    exact⟨⟨k+1,c,oA,by go_num,rfl,d,hid oS⟩,by simp[intOf];omega⟩
  ·obtain rfl:k=zs.length:=oA;have y:¬((zs.length:Int)<(zs.length:Int)):=oA;have h:=hid (show cn n zs=c by rw[a.out,ti];rfl);go_wp2_with fail
   go_ret
   exact⟨by rw[h.out];rfl,rfl⟩
theorem lC (x:Value) (ls:List (List Int)) (n:Int) (w:World) (B:gi w x ls) (hl:ls.length<=1000) (v:∀l∈ls,l.length<=1000):
  Calls Tryz.prog 195 #[x,.int .i64 n] w fun r w'=>r=.returned (.int .i64 (cna n ls))∧w=w':=by
 obtain⟨q,b,off,cap,rfl,z,D⟩:=B;have G:(ls.length:Int)<=1000:=oA;have j:=hid z;have p:=hid D;have f:=hid v;go_enter Tryz.func195,Tryz.ntmps195
 go_wp2_with fail
 go_loopw [5,10] (fun t i wr=>∃k c:Nat,k<=ls.length∧i=.int .i64 k∧t=.int .i64 c∧Hid (c=cna n (ls.take k))∧Hid (w=wr)) (fun _ i _=>ls.length - (intOf i).toNat)
 case atStart=>exact⟨0,0,oA,rfl,rfl,hid rfl,hid rfl⟩
 case round=>
  obtain⟨k,c,hk,rfl,rfl,a,m⟩:=hrel;obtain rfl:=m.out;by_cases e:k<ls.length
  ·have H:(k:Int)<(ls.length:Int):=oA;have A:=j.out oA;subst A;obtain⟨y,c0,C⟩:=p.out k e;have o:=hid C;have E:(c:Int)<=1000000:=by
    have:=oY n ls k f;have:=a.out;omega
   have s:=f.out _ (av e);have u:((cn n ls[k]:Nat):Int)<=1000:=by have:=BV n ls[k];omega
   have g:=hid (show c+cn n ls[k]=cna n (ls.take (k+1)) by unfold cna;rw[jN _ e,a.out];rfl);go_wp2_with fail
   refine (mB y _ n w o s).mono ?_;rintro r w1 ⟨rfl,rfl⟩;generalize cn n ls[k]=d at g u ⊢;go_wp2_with fail
   exact⟨⟨k+1,c+d,oA,by go_num,by go_num,g,hid oS⟩,by simp[intOf];omega⟩
  ·obtain rfl:k=ls.length:=oA;have F:¬((ls.length:Int)<(ls.length:Int)):=oA;have h:=hid (show cna n ls=c by rw[a.out,cO]);go_wp2_with fail
   go_ret
   exact⟨by rw[h.out];rfl,rfl⟩
def inB (x:Int) (zs:List Int):Bool:=decide (0<cn x zs)
theorem AV (x:Value) (zs:List Int) (n:Int) (w:World) (p:ed w x zs) (hl:zs.length<=1000):
  Calls Tryz.prog 30 #[.int .i64 n,x] w fun r w'=>r=.returned (.bool (inB n zs))∧w=w':=by
 obtain⟨q,b,off,cap,rfl,m,s⟩:=p;have A:(zs.length:Int)<=1000:=oA;have h:=hid m;have l:=hid s;go_enter Tryz.func30,Tryz.ntmps30
 go_wp2_with fail
 go_loopw [5] (fun i wr=>∃k:Nat,k<=zs.length∧i=.int .i64 k∧Hid (ez (one n) (zs.take k)=0)∧Hid (w=wr)) (fun i _=>zs.length - (intOf i).toNat)
 case atStart=>exact⟨0,oA,rfl,hid rfl,hid rfl⟩
 case round=>
  obtain⟨k,hk,rfl,d,j⟩:=hrel;obtain rfl:=j.out;by_cases f:k<zs.length
  ·have B:(k:Int)<(zs.length:Int):=oA;have o:=h.out oA;subst o;have c0:=l.out k f;have e:=hid (show ez (one n) (zs.take (k+1))=one n zs[k] by rw[jN _ f,d.out];omega);by_cases a:zs[k]=n
   ·have c:=hid (show inB n zs=true by
     refine az ?_;have t:=e.out;have u:ez (one n) zs=ez (one n) (zs.take (k+1))+ez (one n) (zs.drop (k+1)):=by
      rw[<-Dr,List.take_append_drop]
     have v:one n zs[k]=1:=by unfold one;rw[ag a]
     unfold cn;omega)
    generalize zs[k]=z at c0 a;subst a;go_wp2_with fail
    go_ret
    exact⟨by rw[c.out];rfl,rfl⟩
   ·have c:=hid (show ez (one n) (zs.take (k+1))=0 by rw[e.out];unfold one;rw[ae a]);generalize zs[k]=z at c0 a;go_wp2_with fail
    exact⟨⟨k+1,oA,by go_num,c,hid oS⟩,by simp[intOf];omega⟩
  ·obtain rfl:k=zs.length:=oA;have y:¬((zs.length:Int)<(zs.length:Int)):=oA;have g:=hid (show inB n zs=false by
    refine aw ?_;have:=d.out;rw[ti] at this;unfold cn;omega)
   go_wp2_with fail
   go_ret
   exact⟨by rw[g.out];rfl,rfl⟩
structure LF (p:PW):Prop where
 k1:1<=p.kinds.length
 k2:p.kinds.length<=24
 c1:1<=p.IJ.length
 c2:p.IJ.length<=4
 d1:1<=p.IQ.length
 d2:p.IQ.length<=8
 IL:p.IL.length=p.kinds.length*16
 IH:p.IH.length=p.kinds.length*16
 II:p.II.length=p.kinds.length
 lines:p.lines.length=p.kinds.length
 bits:p.bits.length=p.kinds.length
 ready:p.ready.length=p.IJ.length*4
 IK:p.IK.length=p.IJ.length
def lfB (p:PW):Bool:=decide ((1<=(p.kinds.length:Int)∧(p.kinds.length:Int)<=24)∧(1<=(p.IJ.length:Int)∧(p.IJ.length:Int)<=4)∧(1<=(p.IQ.length:Int)∧(p.IQ.length:Int)<=8))
 &&((p.IL.length:Int)==(p.kinds.length:Int)*16&&(p.IH.length:Int)==(p.kinds.length:Int)*16)
 &&((p.II.length:Int)==(p.kinds.length:Int)&&(p.lines.length:Int)==(p.kinds.length:Int)&&(p.bits.length:Int)==(p.kinds.length:Int))
 &&((p.ready.length:Int)==(p.IJ.length:Int)*4&&(p.IK.length:Int)==(p.IJ.length:Int))
theorem xv {p:PW} (h:lfB p=true):LF p:=by
 unfold lfB at h;simp only[am,bg,bz] at h;obtain⟨⟨⟨⟨⟨a,b⟩,⟨c,d⟩,⟨e,f⟩⟩,g,i⟩,⟨l,m⟩,n⟩,j,k⟩:=h;exact⟨oA,oA,oA,oA,oA,oA,oA,oA,oA,oA,oA,oA,oA⟩
theorem qW {w:World} {v:Value} {zs:List Int} (h:ed w v zs):∃q cap,v=.slice q zs.length cap:=by
 obtain⟨q,b,off,cap,a,_⟩:=h;exact⟨q,cap,a⟩
theorem xu {w:World} {v:Value} {zs:List (List Int)} (h:gi w v zs):∃q cap,v=.slice q zs.length cap:=by
 obtain⟨q,b,off,cap,a,_⟩:=h;exact⟨q,cap,a⟩
theorem tH {α:Type} (P:α->Bool) {l:List α} {k:Nat} (h:k<l.length):(l.take (k+1)).any P=((l.take k).any P||P l[k]):=by
 rw[bG h,List.any_append];simp only[List.any_cons,List.any_nil,Bool.or_false]
def clI (n:Int) (s:Nat->Int):Bool:=s 0==1&&decide (s 1<=n∧n<=s 1+s 2 - 1)
def cl (n:Int) (s:Nat->Int):Nat:=if clI n s then 1 else 0
def un (n:Int) (s:Nat->Int):Bool:=clI n s&&decide (s 1+s 3<=n)
def opn (n:Int) (s:Nat->Int):Bool:=s 0 !=0&&s 0 !=1&&s 1==n
theorem GG (n:Int) (s:Nat->Int):cl n s<=1:=by unfold cl;split<;>omega
def bfB (p:PW) (n kind:Int):Bool:=decide (1<ez (cl n) p.IH)||(kind !=0&&(!(p.IH.any (opn n))||p.IH.any (un n)))
structure KB (s:Nat->Int):Prop where
 b0:0<=s 1
 b1:s 1<=100
 l0:0<=s 2
 l1:s 2<=100
 m0:0<=s 3
 m1:s 3<=100
 l2:s 0≠0->1<=s 2
structure Fr (p:PW) (n:Int) (k c:Nat) (o u:Bool):Prop where
 c:c=ez (cl n) (p.IH.take k)
 o:o=(p.IH.take k).any (opn n)
 u:u=(p.IH.take k).any (un n)
theorem Fr.next {p:PW} {n:Int} {k c:Nat} {o u:Bool} (h:Fr p n k c o u) (hk:k<p.IH.length):Fr p n (k+1) (c+cl n p.IH[k]) (o||opn n p.IH[k]) (u||un n p.IH[k]):=
 ⟨by rw[jN _ hk, <-h.c],by rw[tH _ hk, <-h.o],by rw[tH _ hk, <-h.u]⟩
theorem Fr.all {p:PW} {n kind:Int} {c:Nat} {o u:Bool} (h:Fr p n p.IH.length c o u):bfB p n kind=(decide (1<c)||(kind !=0&&(!o||u))):=by
 rw[h.c,h.o,h.u,cO];rfl
theorem qc (vb:Nat) (V:Nat->Value) (p:PW) (n:Nat) (kind:Int) (w:World) (hv:d6 w vb V p) (C:∀s∈p.IH,KB s):
  Calls Tryz.prog 52 #[.pointer (some ⟨vb,0,none⟩),.int .i64 n,.int .i64 kind] w fun r w'=>r=.returned (.bool (bfB p n kind))∧Below w.heap.size w w':=by
 have y:=hid (show ∀W,Below w.heap.size w W->W.cell? ⟨vb,2,none⟩=some (V 2) from fun W C=>ai (hv.below C).r rfl);obtain⟨q,b,off,cap,e2,Q,S⟩:=hv.v.IH;rw[e2] at y;have hl:(p.IH.length:Int)<=1000:=by have:=hv.f.IH;omega
 have J:=hid Q;have K:=hid S;have I:=hid C;have c2:=y.out w (af _ _);go_enter Tryz.func52,Tryz.ntmps52
 go_wp2_with fail
 go_loopw [7,8,9,18] (fun X Y Z i wr=>∃(k c:Nat) (o u:Bool),k<=p.IH.length∧i=.int .i64 k∧X=.int .i64 c∧Y=.bool o∧Z=.bool u∧Hid (Fr p n k c o u)∧Hid (Below w.heap.size w wr)) (fun _ _ _ i _=>p.IH.length - (intOf i).toNat)
 case atStart=>exact⟨0,0,false,false,oA,rfl,rfl,rfl,rfl,hid ⟨rfl,rfl,rfl⟩,hid (af _ _)⟩
 case round=>
  obtain⟨k,c,o,u,hk,rfl,rfl,rfl,rfl,z,d⟩:=hrel;by_cases D:k<p.IH.length
  ·have ac:(k:Int)<(p.IH.length:Int):=oA;have R:=J.out oA;subst R;have c2:=y.out wr d;have t:=hid (cS (K.out k D) d);have c0:=cC t (dk 7 _ 0 oA);rw[bu] at c0;have c1:=cC t (dk 7 _ 1 oA);have c3:=cC t (dk 7 _ 2 oA);have E:=cC t (dk 7 _ 3 oA);have hc:(c:Int)<=1000:=by
    have:=mf (cl n) 1 k p.IH fun s _=>GG n s;have:=z.c;omega
   obtain⟨b0,b1,l0,l1,m0,m1,l2⟩:=I.out _ (av D);have B:=hid (z.next D);generalize hs:p.IH[k]=s at*;by_cases j:s 0=0
   ·have a:=hid (show Fr p n (k+1) c o u by
     have:=B.out;unfold cl un clI opn at this;rw[j] at this;simpa using this)
    rw[j] at c0;go_wp2_with fail
    exact⟨⟨k+1,c,o,u,oA,by go_num,rfl,rfl,rfl,a,d⟩,by simp[intOf];omega⟩
   have l3:=l2 j;by_cases e:s 0=1
   ·have x:=bZ _ oA oA;have H:IntKind.i64.wrap (s 1+s 2 - 1)=s 1+s 2 - 1:=bZ _ (by clear x;omega) (by clear x;omega);have ad:IntKind.i64.wrap (s 1+s 3)=s 1+s 3:=bZ _ (by clear x H;omega) (by clear x H;omega);have a:=hid (show Fr p n (k+1) (c+(if decide (s 1<=n∧n<=s 1+s 2 - 1)=true then 1 else 0)) o (u||(decide (s 1<=n∧n<=s 1+s 2 - 1)&&decide (s 1+s 3<=n))) by
     have:=B.out;unfold cl un clI opn at this;rw[e] at this;simpa using this)
    rw[e] at c0;generalize s 1=l at*;generalize s 2=T at*;generalize s 3=U at*;go_wp2_with fail
    go_quiet (first|(go_at_call 45;refine bF ((ey _ _ _ _).mono fun _ _ h=>⟨h.1,h.2.symm⟩)))
    have m:=hid (aG d nq);have d1:=(aG (af wr.heap.size wr) nq).cell (aj _ _ c1) |>.trans c1
    have M:=(aG (af wr.heap.size wr) nq).cell (aj _ _ E) |>.trans E
    generalize World.drewN _ _=W3 at m d1 M ⊢;by_cases G:l<=(n:Int)∧(n:Int)<=l+T - 1
    ·rw[az G] at a ⊢;rw[ag rfl,eH] at a
     cases u with
     |true=>
      go_wp2_with fail
      go_quiet (fail)
      have g:=hid (aG m nq);generalize World.drewN _ _=L at g ⊢;go_wp2_with fail
      exact⟨⟨k+1,c+1,o,true,oA,by go_num,by go_num,rfl,rfl,a,g⟩,by simp[intOf];omega⟩
     |false=>
      go_wp2_with fail
      go_quiet (fail)
      have g:=hid (aG m nq);generalize World.drewN _ _=L at g ⊢;go_wp2_with fail
      exact⟨⟨k+1,c+1,o,decide (l+U<=(n:Int)),oA,by go_num,by go_num,rfl,rfl,a,g⟩,by simp[intOf];omega⟩
    ·rw[aw G] at a ⊢;rw[ae oD,Bool.false_and,Bool.or_false] at a;go_wp2_with fail
     exact⟨⟨k+1,c,o,u,oA,by go_num,rfl,rfl,rfl,a,m⟩,by simp[intOf];omega⟩
   ·have aa:(s 0==0)=false:=by simpa using j
    have N:(s 0==1)=false:=by simpa using e
    have a:=hid (show Fr p n (k+1) c (o||s 1==(n:Int)) u by
     have:=B.out;unfold cl un clI opn at this;rw[N,show (s 0 !=0)=true by simpa using j,show (s 0 !=1)=true by simpa using e] at this;simpa using this)
    generalize s 0=s0 at*;generalize s 1=l at*
    cases o with
    |true=>
     go_wp2_with fail
     exact⟨⟨k+1,c,true,u,oA,by go_num,rfl,rfl,rfl,a,d⟩,by simp[intOf];omega⟩
    |false=>
     go_wp2_with fail
     exact⟨⟨k+1,c,l==(n:Int),u,oA,by go_num,rfl,rfl,rfl,a,d⟩,by simp[intOf];omega⟩
  ·obtain rfl:k=p.IH.length:=oA;have ab:¬((p.IH.length:Int)<(p.IH.length:Int)):=oA;have A:=hid (z.all (kind:=kind));by_cases e:1<c
   ·have O:(1:Int)<(c:Int):=oA;go_wp2_with fail
    go_ret
    exact⟨by rw[A.out,az e];rfl,d.out⟩
   ·have O:¬(1:Int)<(c:Int):=oA;by_cases F:kind=0
    ·subst F;go_wp2_with fail
     go_ret
     exact⟨by rw[A.out,aw e];rfl,d.out⟩
    ·have P:(kind !=0)=true:=by simpa using F
     cases o<;>
     ·go_wp2_with fail
      go_ret
      exact⟨by rw[A.out,aw e,P];rfl,d.out⟩
