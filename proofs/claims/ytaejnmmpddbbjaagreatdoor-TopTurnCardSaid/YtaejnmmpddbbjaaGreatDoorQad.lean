/- Qad -/
import Derived.BigQuiet
import Derived.Test.YtaejnmmpddbbjaaGreatDoorQac
set_option maxRecDepth 100000
set_option maxHeartbeats 16000000
namespace Go.Proofs.YtaejnmmpddbbjaaGreatDoor
namespace Mmu
open Go.RowKit Mem Bw Nums
def n16 (zs:List Int):Int:=(zs.length:Int)/16
def e1 (zs:List Int) (s a:Int):Int:=zs.getD (s*16+a/256).toNat 0
def e2 (zs:List Int) (t a:Int):Int:=zs.getD (t*16+a/16%16).toNat 0
def eu (zs:List Int) (s a:Int):Int×Bool×Int:=
 if ¬inb zs.length s a then (0,false,2)
 else if ¬isE (e1 zs s a) (n16 zs) then (0,false,9)
 else if ¬isE (e2 zs (e1 zs s a%1024) a) (n16 zs) then (0,false,9)
 else (e2 zs (e1 zs s a%1024) a%1024,decide (e2 zs (e1 zs s a%1024) a/16384%2=1),0)
def yH (k:Int):Value:=if k=0 then .nilIface else .iface 36 (.int .i64 k)
theorem ql {zs:List Int} {j:Nat} (h:j<zs.length):zs[j]? =some (zs.getD j 0):=by
 rw[ac h,aa,ac h];rfl
theorem i9 {zs:List Int} {s a:Int} (h:¬inb zs.length s a):eu zs s a=(0,false,2):=by unfold eu;rw[ah h]
theorem nj {zs:List Int} {s a:Int} (h:inb zs.length s a) (b:¬isE (e1 zs s a) (n16 zs)):eu zs s a=(0,false,9):=by unfold eu;rw[ae (fun k=>k h),ah b]
theorem nm {zs:List Int} {s a:Int} (h:inb zs.length s a) (b:isE (e1 zs s a) (n16 zs)) (c:¬isE (e2 zs (e1 zs s a%1024) a) (n16 zs)):eu zs s a=(0,false,9):=by
 unfold eu;rw[ae (fun k=>k h),ae (fun k=>k b),ah c]
theorem kQ {zs:List Int} {s a:Int} (h:inb zs.length s a) (b:isE (e1 zs s a) (n16 zs)) (c:isE (e2 zs (e1 zs s a%1024) a) (n16 zs)):eu zs s a=(e2 zs (e1 zs s a%1024) a%1024,decide (e2 zs (e1 zs s a%1024) a/16384%2=1),0):=by
 unfold eu;rw[ae (fun k=>k h),ae (fun k=>k b),ae (fun k=>k c)]
theorem Hx {zs:List Int} {s a:Int} (h:inb zs.length s a):0<=s∧0<=a/256∧s*16+a/256<zs.length:=by
 unfold inb at h;omega
theorem Hy {zs:List Int} {s a:Int} (h:inb zs.length s a) (b:isE (e1 zs s a) (n16 zs)):0<=e1 zs s a%1024∧0<=a/16%16∧e1 zs s a%1024*16+a/16%16<zs.length:=by
 unfold inb at h;unfold isE n16 at b;omega
end Mmu
namespace Wd
open Go.RowKit Mem Bw Nums Mmu
structure jW (w:World) (v:Value) (zs:List Int):Prop where
 row:∃q b off cap,v=.slice q zs.length cap∧(0<zs.length->q=some ⟨b,off,none⟩)∧gj w b off zs
 word:∀z∈zs,0<=z∧z<65536
 len:zs.length<=600
theorem jW.below {w w':World} {v:Value} {zs:List Int} (h:jW w v zs) (e:Below w.heap.size w w'):jW w' v zs:=
 ⟨by obtain⟨q,b,off,cap,a,c,d⟩:=h.row;exact⟨q,b,off,cap,a,c,d.below e⟩,h.word,h.len⟩
theorem nG (v:Value) (zs:List Int) (s a:Int) (w:World) (f:jW w v zs):
  Calls Tryz.prog 21 #[v,.int .i64 s,.int .i64 a] w fun e w'=>e=.returned (.bool (decide (inb zs.length s a)))∧w=w':=by
 obtain⟨⟨q,b,off,cap,rfl,m,n⟩,_,hl⟩:=f;have l:(zs.length:Int)<=600:=oA;by_cases c:(zs.length:Int)%16=0
 ·have d:((zs.length:Int)%16 !=0)=false:=by rw[bne_eq_false_iff_eq];exact c
  by_cases g:24<(zs.length:Int)/16
  ·have e:decide (inb zs.length s a)=false:=aw (by unfold inb;omega);rw[e];go_enter Tryz.func21,Tryz.ntmps21
   go_wp2_with fail
   go_ret
   exact⟨rfl,rfl⟩
  ·by_cases h:0<=s
   ·by_cases i:s<(zs.length:Int)/16
    ·by_cases j:0<=a
     ·by_cases k:a<4096
      ·have e:decide (inb zs.length s a)=true:=aA (by unfold inb;omega);rw[e];go_enter Tryz.func21,Tryz.ntmps21
       go_wp2_with fail
       go_ret
       exact⟨rfl,rfl⟩
      ·have e:decide (inb zs.length s a)=false:=aw (by unfold inb;omega);rw[e];go_enter Tryz.func21,Tryz.ntmps21
       go_wp2_with fail
       go_ret
       exact⟨rfl,rfl⟩
     ·have e:decide (inb zs.length s a)=false:=aw (by unfold inb;omega);rw[e];go_enter Tryz.func21,Tryz.ntmps21
      go_wp2_with fail
      go_ret
      exact⟨rfl,rfl⟩
    ·have e:decide (inb zs.length s a)=false:=aw (by unfold inb;omega);rw[e];go_enter Tryz.func21,Tryz.ntmps21
     go_wp2_with fail
     go_ret
     exact⟨rfl,rfl⟩
   ·have e:decide (inb zs.length s a)=false:=aw (by unfold inb;omega);rw[e];go_enter Tryz.func21,Tryz.ntmps21
    go_wp2_with fail
    go_ret
    exact⟨rfl,rfl⟩
 ·have d:((zs.length:Int)%16 !=0)=true:=by rw[bne_iff_ne];exact c
  have e:decide (inb zs.length s a)=false:=aw (by unfold inb;omega);rw[e];go_enter Tryz.func21,Tryz.ntmps21
  go_wp2_with fail
  go_ret
  exact⟨rfl,rfl⟩
theorem jT (v:Value) (zs:List Int) (w:World) (a:jW w v zs) (d:(zs.length:Int)%16=0) (f:(zs.length:Int)<=384):
  Calls Tryz.prog 130 #[v] w fun e w'=>e=.returned (.int .i64 ((zs.length:Int)/16))∧w=w':=by
 obtain⟨⟨q,b,off,cap,rfl,g,h⟩,_,hl⟩:=a;have c:¬(0<(zs.length:Int)%16):=oA;go_enter Tryz.func130,Tryz.ntmps130
 go_wp2_with fail
 go_ret
 exact⟨rfl,rfl⟩
theorem o7 (v:Value) (zs:List Int) (w:World) (a:jW w v zs) (h:¬((zs.length:Int)%16=0∧(zs.length:Int)<=384)):
  Calls Tryz.prog 130 #[v] w fun e w'=>e=.returned (.int .i64 (-1))∧w=w':=by
 obtain⟨⟨q,b,off,cap,rfl,f,g⟩,_,hl⟩:=a;by_cases c:0<(zs.length:Int)%16
 ·clear h;go_enter Tryz.func130,Tryz.ntmps130
  go_wp2_with fail
  go_ret
  exact⟨rfl,rfl⟩
 ·have d:384<(zs.length:Int):=oA;go_enter Tryz.func130,Tryz.ntmps130
  go_wp2_with fail
  go_ret
  exact⟨rfl,rfl⟩
theorem lI (v:Value) (zs:List Int) (f k:Int) (w:World) (z:jW w v zs) (A:0<=f) (D:0<=k) (hk:f*16+k<zs.length) (x:Int) (c:zs[(f*16+k).toNat]? =some x) (h:isE x ((zs.length:Int)/16)):
  Calls Tryz.prog 93 #[v,.int .i64 f,.int .i64 k] w fun e w'=>e=.returned (.tuple #[.int .i64 (x%1024),.bool (decide (x/16384%2=1)),.bool true])∧w=w':=by
 obtain⟨⟨q,b,off,cap,rfl,j,n⟩,l,hl⟩:=z;have a:(f*16+k).toNat<zs.length:=oA;have y:=j oA;subst y;have u:=n _ a;rw[ac a] at c;have d:=aL c;rw[d] at u;have m:=l _ (av a);rw[d] at m;obtain⟨o,p⟩:=m;have i0:0<=f*16+k:=oA;have e10:=xl x;have i:=DQ x o p;have g:=DP x o p;have B:f<100:=oA;have E:k<1000:=oA;unfold isE at h;have s:=hid (show (bits .and .i64 x 16384 !=0)=decide (x/16384%2=1) by rw[g,db,bne_iff_ne,decide_eq_true_iff];omega);have t:(bits .and .i64 x 32768==0)=false:=by rw[i];exact beq_eq_false_iff_ne.2 oA
 have C:¬((zs.length:Int)/16<=x%1024):=oA;clear j n l c d h g i;go_enter Tryz.func93,Tryz.ntmps93
 go_wp2_with fail
 refine (qz x _ t).mono ?_;rintro r w1 ⟨rfl,rfl⟩;go_wp2_with fail
 go_ret3
 exact⟨by rw[<-s.out];rfl,rfl⟩
theorem mF (v:Value) (zs:List Int) (f k:Int) (w:World) (t:jW w v zs) (A:0<=f) (D:0<=k) (hk:f*16+k<zs.length) (x:Int) (j:zs[(f*16+k).toNat]? =some x) (h:¬isE x ((zs.length:Int)/16)):
  Calls Tryz.prog 93 #[v,.int .i64 f,.int .i64 k] w fun e w'=>e=.returned (.tuple #[.int .i64 0,.bool false,.bool false])∧w=w':=by
 obtain⟨⟨q,b,off,cap,rfl,p,y⟩,u,hl⟩:=t;have c:(f*16+k).toNat<zs.length:=oA;have s:=p oA;subst s;have o:=y _ c;rw[ac c] at j;have l:=aL j;rw[l] at o;have i:=u _ (av c);rw[l] at i;obtain⟨m,n⟩:=i;have i0:0<=f*16+k:=oA;have e10:=xl x;have d:=DQ x m n;have z:=DP x m n;have B:f<100:=oA;have E:k<1000:=oA;unfold isE at h;by_cases g:x/32768%2=0
 ·have a:(bits .and .i64 x 32768==0)=true:=by rw[d,g];rfl
  go_enter Tryz.func93,Tryz.ntmps93
  go_wp2_with fail
  refine (zI x _ a).mono ?_;rintro r w1 ⟨rfl,rfl⟩;go_wp2_with fail
  go_ret3
  exact⟨rfl,rfl⟩
 ·have a:(bits .and .i64 x 32768==0)=false:=by rw[d];exact beq_eq_false_iff_ne.2 oA
  have C:(zs.length:Int)/16<=x%1024:=oA;go_enter Tryz.func93,Tryz.ntmps93
  go_wp2_with fail
  refine (qz x _ a).mono ?_;rintro r w1 ⟨rfl,rfl⟩;go_wp2_with fail
  go_ret3
  exact⟨rfl,rfl⟩
theorem vo (v:Value) (zs:List Int) (s a:Int) (w:World) (r:jW w v zs):
  Calls Tryz.prog 54 #[v,.int .i64 s,.int .i64 a] w fun e w'=>e=.returned (.tuple #[.int .i64 (eu zs s a).1,.bool (eu zs s a).2.1,yH (eu zs s a).2.2])∧w=w':=by
 have f:=hid r;have i:=hid (nG v zs s a w f);by_cases h:inb zs.length s a
 ·obtain⟨o,k,d1⟩:=Hx h;have d:=hid (aA h);have a0:0<=a:=by unfold inb at h;omega
  have a1:a<4096:=by unfold inb at h;omega
  have m:=ql (zs:=zs) (j:=(s*16+a/256).toNat) oA;by_cases b:isE (e1 zs s a) (n16 zs)
  ·obtain⟨p,d2,l⟩:=Hy h b;have n:=ql (zs:=zs) (j:=(e1 zs s a%1024*16+a/16%16).toNat) oA;have g:=hid (lI v zs s (a/256) w f o k d1 _ m b);by_cases c:isE (e2 zs (e1 zs s a%1024) a) (n16 zs)
   ·have q:=hid (lI v zs (e1 zs s a%1024) (a/16%16) w f p d2 l _ n c);rw[kQ h b c];clear h b c m n k d1 d2 l o p;go_enter Tryz.func54,Tryz.ntmps54
    go_wp2_with fail
    refine i.mono ?_;rintro e w' ⟨rfl,rfl⟩;rw[d.out];go_wp2_with fail
    refine g.mono ?_;rintro e w' ⟨rfl,rfl⟩;go_wp2_with fail
    refine q.mono ?_;rintro e w' ⟨rfl,rfl⟩;go_wp2_with fail
    go_ret3
    exact⟨rfl,rfl⟩
   ·have q:=hid (mF v zs (e1 zs s a%1024) (a/16%16) w f p d2 l _ n c);rw[nm h b c];clear h b c m n k d1 d2 l o p;go_enter Tryz.func54,Tryz.ntmps54
    go_wp2_with fail
    refine i.mono ?_;rintro e w' ⟨rfl,rfl⟩;rw[d.out];go_wp2_with fail
    refine g.mono ?_;rintro e w' ⟨rfl,rfl⟩;go_wp2_with fail
    refine q.mono ?_;rintro e w' ⟨rfl,rfl⟩;go_wp2_with fail
    go_ret3
    exact⟨rfl,rfl⟩
  ·have g:=hid (mF v zs s (a/256) w f o k d1 _ m b);rw[nj h b];go_enter Tryz.func54,Tryz.ntmps54
   go_wp2_with fail
   refine i.mono ?_;rintro e w' ⟨rfl,rfl⟩;rw[d.out];go_wp2_with fail
   refine g.mono ?_;rintro e w' ⟨rfl,rfl⟩;go_wp2_with fail
   go_ret3
   exact⟨rfl,rfl⟩
 ·have d:=hid (aw h);rw[i9 h];go_enter Tryz.func54,Tryz.ntmps54
  go_wp2_with fail
  refine i.mono ?_;rintro e w' ⟨rfl,rfl⟩;rw[d.out];go_wp2_with fail
  go_ret3
  exact⟨rfl,rfl⟩
theorem lR (v:Value) (zs:List Int) (s a:Int) (w:World) (z:jW w v zs):
  Calls Tryz.prog 81 #[v,.int .i64 s,.int .i64 a] w fun e w'=>e=.returned (.tuple #[.int .i64 (eu zs s a).1,.bool (eu zs s a).2.1,.int .i64 (eu zs s a).2.2])∧w=w':=by
 have u:=hid z;obtain⟨⟨q,b,off,cap,rfl,m,j⟩,i,hl⟩:=z;have o:=hid (Isa.fF a 4095 w);by_cases h:inb zs.length s a
 ·obtain⟨K,F,d1⟩:=Hx h;have a0:0<=a:=by unfold inb at h;omega
  have a1:a<4096:=by unfold inb at h;omega
  have d:=hid (jT _ zs w u (by unfold inb at h;omega) (by unfold inb at h;omega));have G:¬((zs.length:Int)/16<0):=oA;have I:¬(s<0):=oA;have J:¬((zs.length:Int)/16<=s):=by unfold inb at h;omega
  have l:Hid (decide (a<0∨4095<a)=false):=aw oA;have N:s<100:=oA;have p:(s*16+a/256).toNat<zs.length:=oA;have H:=m oA;subst H;have c1:=j _ p;have x:zs[(s*16+a/256).toNat]=e1 zs s a:=by unfold e1;rw[aa,ac p];rfl
  have w1:=i _ (av p);rw[x] at c1 w1;obtain⟨A,B⟩:=w1;have i1:s*16+a/256<(zs.length:Int):=d1;have i0:0<=s*16+a/256:=oA;by_cases f:isE (e1 zs s a) (n16 zs)
  ·obtain⟨O,d2,L⟩:=Hy h f;have r:(e1 zs s a%1024*16+a/16%16).toNat<zs.length:=oA;have c2:=j _ r;have y:zs[(e1 zs s a%1024*16+a/16%16).toNat]=e2 zs (e1 zs s a%1024) a:=by unfold e2;rw[aa,ac r];rfl
   have w2:=i _ (av r);rw[y] at c2 w2;obtain⟨C,D⟩:=w2;have i2:0<=e1 zs s a%1024*16+a/16%16:=oA;have tn:¬(e1 zs s a%1024<0):=oA;have P:e1 zs s a%1024<1024:=oA;have n:=hid (qf (e1 zs s a) ((zs.length:Int)/16) w A B f);by_cases k:isE (e2 zs (e1 zs s a%1024) a) (n16 zs)
   ·have t:=hid (qf (e2 zs (e1 zs s a%1024) a) ((zs.length:Int)/16) w C D k);have c:=hid (kQ h f k);have M:¬(e2 zs (e1 zs s a%1024) a%1024<0):=oA;have E:=hid (show (e2 zs (e1 zs s a%1024) a/16384%2==1)=decide (e2 zs (e1 zs s a%1024) a/16384%2=1) by rw[db];simp);clear h f k p r F d1 d2 K x y m j i;go_enter Tryz.func81,Tryz.ntmps81
    go_wp2_with fail
    refine d.mono ?_;rintro e w' ⟨rfl,rfl⟩;go_wp2_with fail
    refine o.mono ?_;rintro e w' ⟨rfl,rfl⟩;rw[l.out];go_wp2_with fail
    refine n.mono ?_;rintro e w' ⟨rfl,rfl⟩;go_wp2_with fail
    refine t.mono ?_;rintro e w' ⟨rfl,rfl⟩;go_wp2_with fail
    go_ret3
    exact⟨by rw[c.out, <-E.out];rfl,rfl⟩
   ·have t:=hid (sY (e2 zs (e1 zs s a%1024) a) ((zs.length:Int)/16) w C D k);have c:=hid (nm h f k);go_enter Tryz.func81,Tryz.ntmps81
    go_wp2_with fail
    refine d.mono ?_;rintro e w' ⟨rfl,rfl⟩;go_wp2_with fail
    refine o.mono ?_;rintro e w' ⟨rfl,rfl⟩;rw[l.out];go_wp2_with fail
    refine n.mono ?_;rintro e w' ⟨rfl,rfl⟩;go_wp2_with fail
    refine t.mono ?_;rintro e w' ⟨rfl,rfl⟩;go_wp2_with fail
    go_ret3
    exact⟨by rw[c.out];rfl,rfl⟩
  ·have n:=hid (sY (e1 zs s a) ((zs.length:Int)/16) w A B f);have c:=hid (nj h f);go_enter Tryz.func81,Tryz.ntmps81
   go_wp2_with fail
   refine d.mono ?_;rintro e w' ⟨rfl,rfl⟩;go_wp2_with fail
   refine o.mono ?_;rintro e w' ⟨rfl,rfl⟩;rw[l.out];go_wp2_with fail
   refine n.mono ?_;rintro e w' ⟨rfl,rfl⟩;go_wp2_with fail
   go_ret3
   exact⟨by rw[c.out];rfl,rfl⟩
 ·have c:=hid (i9 h);by_cases g:(zs.length:Int)%16=0∧(zs.length:Int)<=384
  ·have d:=hid (jT _ zs w u g.1 g.2);have G:¬((zs.length:Int)/16<0):=oA;by_cases I:s<0
   ·clear h g m j i;go_enter Tryz.func81,Tryz.ntmps81
    go_wp2_with fail
    refine d.mono ?_;rintro e w' ⟨rfl,rfl⟩;go_wp2_with fail
    go_ret3
    exact⟨by rw[c.out];rfl,rfl⟩
   ·by_cases J:(zs.length:Int)/16<=s
    ·clear h g m j i;go_enter Tryz.func81,Tryz.ntmps81
     go_wp2_with fail
     refine d.mono ?_;rintro e w' ⟨rfl,rfl⟩;go_wp2_with fail
     go_ret3
     exact⟨by rw[c.out];rfl,rfl⟩
    ·have l:Hid (decide (a<0∨4095<a)=true):=aA (by unfold inb at h;omega);clear h g m j i;go_enter Tryz.func81,Tryz.ntmps81
     go_wp2_with fail
     refine d.mono ?_;rintro e w' ⟨rfl,rfl⟩;go_wp2_with fail
     refine o.mono ?_;rintro e w' ⟨rfl,rfl⟩;rw[l.out];go_wp2_with fail
     go_ret3
     exact⟨by rw[c.out];rfl,rfl⟩
  ·have d:=hid (o7 _ zs w u g);go_enter Tryz.func81,Tryz.ntmps81
   go_wp2_with fail
   refine d.mono ?_;rintro e w' ⟨rfl,rfl⟩;go_wp2_with fail
   go_ret3
   exact⟨by rw[c.out];rfl,rfl⟩
def fi (p:PW) (e:Ent):Bool:=isB p e.1 4&&decide (0<=e.2.1∧e.2.1<=255)&&((eu p.IE e.1 (e.2.1*16)).2.2==0&&(eu p.IE e.1 (e.2.1*16)).1==e.2.2.1&&(eu p.IE e.1 (e.2.1*16)).2.1==e.2.2.2)
theorem Av (vb:Nat) (V:Nat->Value) (p:PW) (s g f:Int) (wr:Bool) (w:World) (E:ei w vb V p) (D:jW w (V 0) p.IE):
  Calls Tryz.prog 163 #[.pointer (some ⟨vb,0,none⟩),.agg #[.int .i64 s,.int .i64 g,.int .i64 f,.bool wr]] w fun r w'=>r=.returned (.bool (fi p (s,g,f,wr)))∧Below w.heap.size w w':=by
 have v:=bM w #[.int .i64 s,.int .i64 g,.int .i64 f,.bool wr] 56;have b:=hid (bal (ag w.heap.size w) (.cells #[.int .i64 s,.int .i64 g,.int .i64 f,.bool wr] 56));have j:=hid (E.below b);have x:=hid (D.below b);have c0:=r11 0 j.r;by_cases q:isB p s 4=true
 ·by_cases d:0<=g∧g<=255
  ·have a:=hid (show fi p (s,g,f,wr)=((eu p.IE s (g*16)).2.2==0&&(eu p.IE s (g*16)).1==f&&(eu p.IE s (g*16)).2.1==wr) by unfold fi;rw[q,aA d];rfl);have c:=hid q;have m:=hid (aA d);have B:=d.1;have C:=d.2;go_enter Tryz.func163,Tryz.ntmps163
   go_wp2_with fail
   refine (pC vb V p s 4 _ j).mono ?_;rintro e w1 ⟨rfl,rfl⟩;rw[c.out];go_wp2_with fail
   refine (eD g 0 255 _).mono ?_;rintro e w1 ⟨rfl,rfl⟩;rw[m.out];go_wp2_with fail
   have y:=hid (fun n=>x.below (aE (ag _ _) n));have F:=bZ _ oA oA
   go_quiet (first|(go_at_call 54;refine bD ((vo _ _ _ _ _ (y.out _)).mono fun _ _ h=>⟨h.1,h.2.symm⟩)))
   have l:=hid (aE b nq);have A:∀o,((w.alloc (.cells #[.int .i64 s,.int .i64 g,.int .i64 f,.bool wr] 56)).drewN nq).cell? ⟨w.heap.size,o,none⟩=(#[.int .i64 s,.int .i64 g,.int .i64 f,.bool wr]:Array Value)[o]? :=v;generalize World.drewN _ _=H at l A ⊢;clear v b j x y c0 c m F B C;generalize eu p.IE s (g*16)=r at a ⊢;obtain⟨u,G,k⟩:=r;by_cases hk:k=0
   ·subst hk;rw[show yH 0=.nilIface from rfl];by_cases t:u=f
    ·subst t;have i:=hid (show fi p (s,g,u,wr)=(G==wr) by rw[a.out];simp);clear a;go_wp2_with fail
     go_ret
     exact⟨by rw[i.out];rfl,l.out⟩
    ·have I:(u==f)=false:=by simpa using t
     have i:=hid (show fi p (s,g,f,wr)=false by rw[a.out];simp[t]);go_wp2_with fail
     go_ret
     exact⟨by rw[i.out];rfl,l.out⟩
   ·rw[show yH k=.iface 36 (.int .i64 k) by unfold yH;rw[ae hk]];have i:=hid (show fi p (s,g,f,wr)=false by rw[a.out];simp[hk]);go_wp2_with fail
    go_ret
    exact⟨by rw[i.out];rfl,l.out⟩
  ·have a:=hid (show fi p (s,g,f,wr)=false by unfold fi;rw[aw d];simp);have c:=hid q;have m:=hid (aw d);go_enter Tryz.func163,Tryz.ntmps163
   go_wp2_with fail
   refine (pC vb V p s 4 _ j).mono ?_;rintro e w1 ⟨rfl,rfl⟩;rw[c.out];go_wp2_with fail
   refine (eD g 0 255 _).mono ?_;rintro e w1 ⟨rfl,rfl⟩;rw[m.out];go_wp2_with fail
   go_ret
   exact⟨by rw[a.out];rfl,b.out⟩
 ·have z:isB p s 4=false:=by simpa using q
  have a:=hid (show fi p (s,g,f,wr)=false by unfold fi;rw[z];rfl);have c:=hid z;go_enter Tryz.func163,Tryz.ntmps163
  go_wp2_with fail
  refine (pC vb V p s 4 _ j).mono ?_;rintro e w1 ⟨rfl,rfl⟩;rw[c.out];go_wp2_with fail
  go_ret
  exact⟨by rw[a.out];rfl,b.out⟩
theorem rC (vb:Nat) (V:Nat->Value) (p:PW) (j:Nat) (w:World) (a:ei w vb V p) (d:j<p.IA.length):
  Calls Tryz.prog 161 #[.pointer (some ⟨vb,0,none⟩),.int .i64 j] w fun r w'=>r=.returned (.bool (p.IA[j] 9==4))∧w=w':=by
 have h:=r11 3 a.r;obtain⟨q,b,off,cap,e1,e,g⟩:=a.v.IA;have hl:(p.IA.length:Int)<=1000:=by have:=a.f.IA;omega
 have i:(j:Int)<(p.IA.length:Int):=oA;obtain rfl:=e oA;have c:=cS (g j d) (dm 20 _ 9 oA);generalize p.IA[j] 9=x at c ⊢;go_enter Tryz.func161,Tryz.ntmps161
 go_wp2_with fail
 go_ret
 exact⟨rfl,rfl⟩
def fT (p:PW) (n:Int):Bool:=decide (0<=n∧n<=(p.IB.length:Int) - 1)
theorem ss (vb:Nat) (V:Nat->Value) (p:PW) (n:Int) (w:World) (a:ei w vb V p):
  Calls Tryz.prog 183 #[.pointer (some ⟨vb,0,none⟩),.int .i64 n] w fun r w'=>r=.returned (.bool (fT p n))∧w=w':=by
 have c2:=r11 2 a.r;obtain⟨q,b,off,cap,e1,g,h⟩:=a.v.IB;have hl:(p.IB.length:Int)<=1000:=by have:=a.f.IB;omega
 have c:=hid (show fT p n=decide (0<=n∧n<=(p.IB.length:Int) - 1) from rfl);go_enter Tryz.func183,Tryz.ntmps183
 go_wp2_with fail
 refine (eD n 0 _ w).mono ?_;rintro e w1 ⟨rfl,rfl⟩;generalize decide (0<=n∧n<=(p.IB.length:Int) - 1)=d at c ⊢;go_wp2_with fail
 go_ret
 exact⟨by rw[c.out];rfl,rfl⟩
theorem jI (vb:Nat) (V:Nat->Value) (p:PW) (n:Int) (w:World) (b:ei w vb V p):
  Calls Tryz.prog 173 #[.pointer (some ⟨vb,0,none⟩),.int .i64 n] w fun r w'=>r=.returned (.bool (fT p n))∧w=w':=by
 have a:=hid b;go_enter Tryz.func173,Tryz.ntmps173
 go_wp2_with fail
 refine (ss vb V p n w a).mono ?_;rintro e w1 ⟨rfl,rfl⟩;go_wp2_with fail
 go_ret
 exact⟨rfl,rfl⟩
def ec {α:Type} (f:α->Nat) (l:List α):Nat:=(l.map f).sum
theorem jO {α:Type} (f:α->Nat) {l:List α} {k:Nat} (h:k<l.length):ec f (l.take (k+1))=ec f (l.take k)+f l[k]:=by
 unfold ec;rw[bF h];simp only[ew,List.sum_append,aW,fe,ct,List.sum_nil,bO]
theorem Dk {α:Type} (f:α->Nat) (a b:List α):ec f (a++b)=ec f a+ec f b:=by
 unfold ec;rw[ew,List.sum_append]
theorem ym {α:Type} (f:α->Nat) (c:Nat):∀l:List α,(∀x∈l,f x<=c)->ec f l<=c*l.length
 |[],_=>by simp[ec]
 |x::l,h=>by
  have a:=ym f c l fun y b=>h y (List.mem_cons_of_mem _ b);have d:=h x (cP ..);unfold ec at a ⊢;simp only[aW,ct,eh,Nat.mul_add];omega
theorem mh {α:Type} (f:α->Nat) (c k:Nat) (l:List α) (h:∀x∈l,f x<=c):ec f (l.take k)<=c*l.length:=
 aB (ym f c _ fun x a=>h x (List.mem_of_mem_take a)) (Nat.mul_le_mul_left c (by rw[bL];omega))
theorem sC {α:Type} (f:α->Nat) (l:List α):ec f (l.take l.length)=ec f l:=by rw[cT]
def one (x:Int) (z:Int):Nat:=if z=x then 1 else 0
theorem Bc (x z:Int):one x z<=1:=by unfold one;split<;>omega
def cn (x:Int) (zs:List Int):Nat:=ec (one x) zs
theorem BW (x:Int) (zs:List Int):cn x zs<=zs.length:=by
 have:=ym (one x) 1 zs fun z _=>Bc x z;unfold cn;omega
def cna (x:Int) (ls:List (List Int)):Nat:=ec (cn x) ls
theorem oQ (x:Int) (ls:List (List Int)) (k:Nat) (h:∀l∈ls,l.length<=1000):cna x (ls.take k)<=1000*ls.length:=
 mh (cn x) 1000 k ls fun l hl=>aB (BW x l) (h l hl)
theorem mB (x:Value) (zs:List Int) (n:Int) (w:World) (s:ed w x zs) (hl:zs.length<=1000):
  Calls Tryz.prog 178 #[x,.int .i64 n] w fun r w'=>r=.returned (.int .i64 (cn n zs))∧w=w':=by
 obtain⟨q,b,off,cap,rfl,o,u⟩:=s;have A:(zs.length:Int)<=1000:=oA;have j:=hid o;have m:=hid u;go_enter Tryz.func178,Tryz.ntmps178
 go_wp2_with fail
 go_loopw [5,10] (fun t i wr=>∃k c:Nat,k<=zs.length∧i=.int .i64 k∧t=.int .i64 c∧Hid (c=ec (one n) (zs.take k))∧Hid (w=wr)) (fun _ i _=>zs.length - (intOf i).toNat)
 case atStart=>exact⟨0,0,oA,rfl,rfl,hid rfl,hid rfl⟩
 case round=>
  obtain⟨k,c,hk,rfl,rfl,a,l⟩:=hrel;obtain rfl:=l.out;by_cases g:k<zs.length
  ·have B:(k:Int)<(zs.length:Int):=oA;have p:=j.out oA;subst p;have c0:=m.out k g;have v:(c:Int)<=1000:=by
    have:=mh (one n) 1 k zs fun z _=>Bc n z;have:=a.out;omega
   have e:=hid (show ec (one n) (zs.take (k+1))=c+one n zs[k] by rw[jO _ g, <-a.out]);generalize zs[k]=z at c0 e;by_cases f:z=n
   ·have d:=hid (show c+1=ec (one n) (zs.take (k+1)) by rw[e.out];unfold one;rw[ah f]);subst f;go_wp2_with fail
    exact⟨⟨k+1,c+1,oA,by go_num,by go_num,d,hid oS⟩,by simp[intOf];omega⟩
   ·have d:=hid (show c=ec (one n) (zs.take (k+1)) by rw[e.out];unfold one;rw[ae f];rfl);go_wp2_with fail
    exact⟨⟨k+1,c,oA,by go_num,rfl,d,hid oS⟩,by simp[intOf];omega⟩
  ·obtain rfl:k=zs.length:=oA;have y:¬((zs.length:Int)<(zs.length:Int)):=oA;have h:=hid (show cn n zs=c by rw[a.out,sC];rfl);go_wp2_with fail
   go_ret
   exact⟨by rw[h.out];rfl,rfl⟩
theorem lF (x:Value) (ls:List (List Int)) (n:Int) (w:World) (B:gA w x ls) (hl:ls.length<=1000) (v:∀l∈ls,l.length<=1000):
  Calls Tryz.prog 176 #[x,.int .i64 n] w fun r w'=>r=.returned (.int .i64 (cna n ls))∧w=w':=by
 obtain⟨q,b,off,cap,rfl,z,D⟩:=B;have G:(ls.length:Int)<=1000:=oA;have j:=hid z;have p:=hid D;have f:=hid v;go_enter Tryz.func176,Tryz.ntmps176
 go_wp2_with fail
 go_loopw [5,10] (fun t i wr=>∃k c:Nat,k<=ls.length∧i=.int .i64 k∧t=.int .i64 c∧Hid (c=cna n (ls.take k))∧Hid (w=wr)) (fun _ i _=>ls.length - (intOf i).toNat)
 case atStart=>exact⟨0,0,oA,rfl,rfl,hid rfl,hid rfl⟩
 case round=>
  obtain⟨k,c,hk,rfl,rfl,a,m⟩:=hrel;obtain rfl:=m.out;by_cases e:k<ls.length
  ·have H:(k:Int)<(ls.length:Int):=oA;have A:=j.out oA;subst A;obtain⟨y,c0,C⟩:=p.out k e;have o:=hid C;have E:(c:Int)<=1000000:=by
    have:=oQ n ls k f;have:=a.out;omega
   have s:=f.out _ (av e);have u:((cn n ls[k]:Nat):Int)<=1000:=by have:=BW n ls[k];omega
   have g:=hid (show c+cn n ls[k]=cna n (ls.take (k+1)) by unfold cna;rw[jO _ e,a.out];rfl);go_wp2_with fail
   refine (mB y _ n w o s).mono ?_;rintro r w1 ⟨rfl,rfl⟩;generalize cn n ls[k]=d at g u ⊢;go_wp2_with fail
   exact⟨⟨k+1,c+d,oA,by go_num,by go_num,g,hid oS⟩,by simp[intOf];omega⟩
  ·obtain rfl:k=ls.length:=oA;have F:¬((ls.length:Int)<(ls.length:Int)):=oA;have h:=hid (show cna n ls=c by rw[a.out,cT]);go_wp2_with fail
   go_ret
   exact⟨by rw[h.out];rfl,rfl⟩
def inB (x:Int) (zs:List Int):Bool:=decide (0<cn x zs)
theorem EW (x:Value) (zs:List Int) (n:Int) (w:World) (p:ed w x zs) (hl:zs.length<=1000):
  Calls Tryz.prog 42 #[.int .i64 n,x] w fun r w'=>r=.returned (.bool (inB n zs))∧w=w':=by
 obtain⟨q,b,off,cap,rfl,m,s⟩:=p;have A:(zs.length:Int)<=1000:=oA;have h:=hid m;have l:=hid s;go_enter Tryz.func42,Tryz.ntmps42
 go_wp2_with fail
 go_loopw [5] (fun i wr=>∃k:Nat,k<=zs.length∧i=.int .i64 k∧Hid (ec (one n) (zs.take k)=0)∧Hid (w=wr)) (fun i _=>zs.length - (intOf i).toNat)
 case atStart=>exact⟨0,oA,rfl,hid rfl,hid rfl⟩
 case round=>
  obtain⟨k,hk,rfl,d,j⟩:=hrel;obtain rfl:=j.out;by_cases f:k<zs.length
  ·have B:(k:Int)<(zs.length:Int):=oA;have o:=h.out oA;subst o;have c0:=l.out k f;have e:=hid (show ec (one n) (zs.take (k+1))=one n zs[k] by rw[jO _ f,d.out];omega);by_cases a:zs[k]=n
   ·have c:=hid (show inB n zs=true by
     refine aA ?_;have t:=e.out;have u:ec (one n) zs=ec (one n) (zs.take (k+1))+ec (one n) (zs.drop (k+1)):=by
      rw[<-Dk,List.take_append_drop]
     have v:one n zs[k]=1:=by unfold one;rw[ah a]
     unfold cn;omega)
    generalize zs[k]=z at c0 a;subst a;go_wp2_with fail
    go_ret
    exact⟨by rw[c.out];rfl,rfl⟩
   ·have c:=hid (show ec (one n) (zs.take (k+1))=0 by rw[e.out];unfold one;rw[ae a]);generalize zs[k]=z at c0 a;go_wp2_with fail
    exact⟨⟨k+1,oA,by go_num,c,hid oS⟩,by simp[intOf];omega⟩
  ·obtain rfl:k=zs.length:=oA;have y:¬((zs.length:Int)<(zs.length:Int)):=oA;have g:=hid (show inB n zs=false by
    refine aw ?_;have:=d.out;rw[sC] at this;unfold cn;omega)
   go_wp2_with fail
   go_ret
   exact⟨by rw[g.out];rfl,rfl⟩
structure LF (p:PW):Prop where
 k1:1<=p.kinds.length
 k2:p.kinds.length<=24
 c1:1<=p.IC.length
 c2:p.IC.length<=4
 d1:1<=p.IF.length
 d2:p.IF.length<=8
 IE:p.IE.length=p.kinds.length*16
 IB:p.IB.length=p.kinds.length*16
 IA:p.IA.length=p.kinds.length
 lines:p.lines.length=p.kinds.length
 bits:p.bits.length=p.kinds.length
 ready:p.ready.length=p.IC.length*4
 ID:p.ID.length=p.IC.length
def lfB (p:PW):Bool:=decide ((1<=(p.kinds.length:Int)∧(p.kinds.length:Int)<=24)∧(1<=(p.IC.length:Int)∧(p.IC.length:Int)<=4)∧(1<=(p.IF.length:Int)∧(p.IF.length:Int)<=8))
 &&((p.IE.length:Int)==(p.kinds.length:Int)*16&&(p.IB.length:Int)==(p.kinds.length:Int)*16)
 &&((p.IA.length:Int)==(p.kinds.length:Int)&&(p.lines.length:Int)==(p.kinds.length:Int)&&(p.bits.length:Int)==(p.kinds.length:Int))
 &&((p.ready.length:Int)==(p.IC.length:Int)*4&&(p.ID.length:Int)==(p.IC.length:Int))
theorem tD {p:PW} (h:lfB p=true):LF p:=by
 unfold lfB at h;simp only[am,bp,bH] at h;obtain⟨⟨⟨⟨⟨a,b⟩,⟨c,d⟩,⟨e,f⟩⟩,g,i⟩,⟨l,m⟩,n⟩,j,k⟩:=h;exact⟨oA,oA,oA,oA,oA,oA,oA,oA,oA,oA,oA,oA,oA⟩
theorem qC {w:World} {v:Value} {zs:List Int} (h:ed w v zs):∃q cap,v=.slice q zs.length cap:=by
 obtain⟨q,b,off,cap,a,_⟩:=h;exact⟨q,cap,a⟩
theorem wP {w:World} {v:Value} {zs:List (List Int)} (h:gA w v zs):∃q cap,v=.slice q zs.length cap:=by
 obtain⟨q,b,off,cap,a,_⟩:=h;exact⟨q,cap,a⟩
theorem qF (V:Nat->Value) (p:PW) (w:World) (d:fy w V p) (c:p.Fits):
  Calls Tryz.prog 98 #[.agg (cb V)] w fun r w'=>r=.returned (.bool (lfB p))∧Below w.heap.size w w':=by
 have z:=hid (bal (ag w.heap.size w) (.cells (cb V) 28));have t:=hid (nC w V 28);obtain⟨q0,c0,N⟩:=qC d.IE;obtain⟨q1,c1,e1⟩:=qC d.kinds;obtain⟨q2,c2,e2⟩:=d.IB.slice;obtain⟨q3,I,O⟩:=d.IA.slice;obtain⟨q4,J,e4⟩:=wP d.lines;obtain⟨q5,K,e5⟩:=qC d.bits;obtain⟨q6,c6,e6⟩:=qC d.IC;obtain⟨q7,c7,e7⟩:=wP d.ready;obtain⟨q8,L,e8⟩:=d.ID.slice;obtain⟨q9,M,e9⟩:=qC d.IF;have l0:(p.IE.length:Int)<=1000:=by have:=c.IE;omega
 have l1:(p.kinds.length:Int)<=1000:=by have:=c.kinds;omega
 have l2:(p.IB.length:Int)<=1000:=by have:=c.IB;omega
 have l3:(p.IA.length:Int)<=1000:=by have:=c.IA;omega
 have l4:(p.lines.length:Int)<=1000:=by have:=c.lines;omega
 have l5:(p.bits.length:Int)<=1000:=by have:=c.bits;omega
 have l6:(p.IC.length:Int)<=1000:=by have:=c.IC;omega
 have l7:(p.ready.length:Int)<=1000:=by have:=c.ready;omega
 have l8:(p.ID.length:Int)<=1000:=by have:=c.ID;omega
 have l9:(p.IF.length:Int)<=1000:=by have:=c.IF;omega
 have b:=hid (show lfB p=(decide ((1<=(p.kinds.length:Int)∧(p.kinds.length:Int)<=24)∧(1<=(p.IC.length:Int)∧(p.IC.length:Int)<=4)∧(1<=(p.IF.length:Int)∧(p.IF.length:Int)<=8))&&((p.IE.length:Int)==(p.kinds.length:Int)*16&&(p.IB.length:Int)==(p.kinds.length:Int)*16)&&((p.IA.length:Int)==(p.kinds.length:Int)&&(p.lines.length:Int)==(p.kinds.length:Int)&&(p.bits.length:Int)==(p.kinds.length:Int))&&((p.ready.length:Int)==(p.IC.length:Int)*4&&(p.ID.length:Int)==(p.IC.length:Int))) from rfl);generalize p.IE.length=n0 at*;generalize p.kinds.length=n1 at*;generalize p.IB.length=i at*;generalize p.IA.length=j at*;generalize p.lines.length=k at*;generalize p.bits.length=l at*;generalize p.IC.length=g at*;generalize p.ready.length=v at*;generalize p.ID.length=H at*;generalize p.IF.length=x at*;have A:=hid (fun W (h:Below (w.alloc (.cells (cb V) 28)).heap.size (w.alloc (.cells (cb V) 28)) W)=>bj t h);have Q:=r11 1 t;have X:=r11 6 t;go_enter Tryz.func98,Tryz.ntmps98
 go_wp2_with fail
 go_quiet (fail)
 have e:=hid (aE z nq);have f:=hid (A.out _ (aE (ag _ _) nq));generalize World.drewN _ _=B at e f ⊢;have P:=r11 0 f;have R:=r11 2 f;have S:=r11 3 f;have T:=r11 4 f;have U:=r11 5 f;have Y:=r11 7 f;have Z:=r11 8 f;have g9:=r11 9 f;go_wp2_with fail
 refine (oT n1 g x B).mono ?_;rintro r w1 ⟨rfl,rfl⟩
 cases hc:decide ((1<=(n1:Int)∧(n1:Int)<=24)∧(1<=(g:Int)∧(g:Int)<=4)∧(1<=(x:Int)∧(x:Int)<=8)) with
 |false=>
  have a:=hid (show lfB p=false by rw[b.out,hc];rfl);go_wp2_with fail
  go_ret
  exact⟨by rw[a.out];rfl,e.out⟩
 |true=>
 rw[hc,dF] at b;by_cases m:(n0:Int)=(n1:Int)*16
 rotate_left
 ·have C:((n0:Int) !=(n1:Int)*16)=true:=by simpa using m
  have a:=hid (show lfB p=false by rw[b.out,show ((n0:Int)==(n1:Int)*16)=false by simpa using m];rfl);go_wp2_with fail
  go_ret
  exact⟨by rw[a.out];rfl,e.out⟩
 have C:((n0:Int) !=(n1:Int)*16)=false:=by simpa using m
 by_cases n:(i:Int)=(n1:Int)*16
 rotate_left
 ·have D:((i:Int) !=(n1:Int)*16)=true:=by simpa using n
  have a:=hid (show lfB p=false by rw[b.out,show ((i:Int)==(n1:Int)*16)=false by simpa using n];simp);go_wp2_with fail
  go_ret
  exact⟨by rw[a.out];rfl,e.out⟩
 have D:((i:Int) !=(n1:Int)*16)=false:=by simpa using n
 rw[show ((n0:Int)==(n1:Int)*16)=true by simpa using m,show ((i:Int)==(n1:Int)*16)=true by simpa using n,dF,dF] at b;by_cases o:(j:Int)=(n1:Int)
 rotate_left
 ·have E:((j:Int) !=(n1:Int))=true:=by simpa using o
  have a:=hid (show lfB p=false by rw[b.out,show ((j:Int)==(n1:Int))=false by simpa using o];simp);go_wp2_with fail
  go_ret
  exact⟨by rw[a.out];rfl,e.out⟩
 have E:((j:Int) !=(n1:Int))=false:=by simpa using o
 by_cases q:(k:Int)=(n1:Int)
 rotate_left
 ·have F:((k:Int) !=(n1:Int))=true:=by simpa using q
  have a:=hid (show lfB p=false by rw[b.out,show ((k:Int)==(n1:Int))=false by simpa using q];simp);go_wp2_with fail
  go_ret
  exact⟨by rw[a.out];rfl,e.out⟩
 have F:((k:Int) !=(n1:Int))=false:=by simpa using q
 by_cases s:(l:Int)=(n1:Int)
 rotate_left
 ·have G:((l:Int) !=(n1:Int))=true:=by simpa using s
  have a:=hid (show lfB p=false by rw[b.out,show ((l:Int)==(n1:Int))=false by simpa using s];simp);go_wp2_with fail
  go_ret
  exact⟨by rw[a.out];rfl,e.out⟩
 have G:((l:Int) !=(n1:Int))=false:=by simpa using s
 rw[show ((j:Int)==(n1:Int))=true by simpa using o,show ((k:Int)==(n1:Int))=true by simpa using q,show ((l:Int)==(n1:Int))=true by simpa using s,dF,dF] at b;by_cases y:(v:Int)=(g:Int)*4
 ·have u:((v:Int)==(g:Int)*4)=true:=by simpa using y
  have a:=hid (show lfB p=((H:Int)==(g:Int)) by rw[b.out,u];rfl);go_wp2_with fail
  go_ret
  exact⟨by rw[a.out];rfl,e.out⟩
 ·have u:((v:Int)==(g:Int)*4)=false:=by simpa using y
  have a:=hid (show lfB p=false by rw[b.out,u];rfl);go_wp2_with fail
  go_ret
  exact⟨by rw[a.out];rfl,e.out⟩
theorem sQ {α:Type} (P:α->Bool) {l:List α} {k:Nat} (h:k<l.length):(l.take (k+1)).any P=((l.take k).any P||P l[k]):=by
 rw[bF h,List.any_append];simp only[List.any_cons,List.any_nil,Bool.or_false]
def clI (n:Int) (s:Nat->Int):Bool:=s 0==1&&decide (s 1<=n∧n<=s 1+s 2 - 1)
def cl (n:Int) (s:Nat->Int):Nat:=if clI n s then 1 else 0
def un (n:Int) (s:Nat->Int):Bool:=clI n s&&decide (s 1+s 3<=n)
def opn (n:Int) (s:Nat->Int):Bool:=s 0 !=0&&s 0 !=1&&s 1==n
theorem GF (n:Int) (s:Nat->Int):cl n s<=1:=by unfold cl;split<;>omega
def bfB (p:PW) (n kind:Int):Bool:=decide (1<ec (cl n) p.IB)||(kind !=0&&(!(p.IB.any (opn n))||p.IB.any (un n)))
structure KB (s:Nat->Int):Prop where
 b0:0<=s 1
 b1:s 1<=100
 l0:0<=s 2
 l1:s 2<=100
 m0:0<=s 3
 m1:s 3<=100
 l2:s 0≠0->1<=s 2
structure Fr (p:PW) (n:Int) (k c:Nat) (o u:Bool):Prop where
 c:c=ec (cl n) (p.IB.take k)
 o:o=(p.IB.take k).any (opn n)
 u:u=(p.IB.take k).any (un n)
theorem Fr.next {p:PW} {n:Int} {k c:Nat} {o u:Bool} (h:Fr p n k c o u) (hk:k<p.IB.length):Fr p n (k+1) (c+cl n p.IB[k]) (o||opn n p.IB[k]) (u||un n p.IB[k]):=
 ⟨by rw[jO _ hk, <-h.c],by rw[sQ _ hk, <-h.o],by rw[sQ _ hk, <-h.u]⟩
theorem Fr.all {p:PW} {n kind:Int} {c:Nat} {o u:Bool} (h:Fr p n p.IB.length c o u):bfB p n kind=(decide (1<c)||(kind !=0&&(!o||u))):=by
 rw[h.c,h.o,h.u,cT];rfl
theorem pT (vb:Nat) (V:Nat->Value) (p:PW) (n:Nat) (kind:Int) (w:World) (E:ei w vb V p) (C:∀s∈p.IB,KB s):
  Calls Tryz.prog 105 #[.pointer (some ⟨vb,0,none⟩),.int .i64 n,.int .i64 kind] w fun r w'=>r=.returned (.bool (bfB p n kind))∧Below w.heap.size w w':=by
 have y:=hid (show ∀W,Below w.heap.size w W->W.cell? ⟨vb,2,none⟩=some (V 2) from fun W C=>ai (E.below C).r rfl);obtain⟨q,b,off,cap,e2,R,T⟩:=E.v.IB;rw[e2] at y;have hl:(p.IB.length:Int)<=1000:=by have:=E.f.IB;omega
 have K:=hid R;have L:=hid T;have J:=hid C;have c2:=y.out w (ag _ _);go_enter Tryz.func105,Tryz.ntmps105
 go_wp2_with fail
 go_loopw [7,8,9,18] (fun Y Z t9 i wr=>∃(k c:Nat) (o u:Bool),k<=p.IB.length∧i=.int .i64 k∧Y=.int .i64 c∧Z=.bool o∧t9=.bool u∧Hid (Fr p n k c o u)∧Hid (Below w.heap.size w wr)) (fun _ _ _ i _=>p.IB.length - (intOf i).toNat)
 case atStart=>exact⟨0,0,false,false,oA,rfl,rfl,rfl,rfl,hid ⟨rfl,rfl,rfl⟩,hid (ag _ _)⟩
 case round=>
  obtain⟨k,c,o,u,hk,rfl,rfl,rfl,rfl,z,d⟩:=hrel;by_cases D:k<p.IB.length
  ·have ac:(k:Int)<(p.IB.length:Int):=oA;have S:=K.out oA;subst S;have c2:=y.out wr d;have t:=hid (dN (L.out k D) d);have c0:=cS t (dm 7 _ 0 oA);rw[bO] at c0;have c1:=cS t (dm 7 _ 1 oA);have c3:=cS t (dm 7 _ 2 oA);have F:=cS t (dm 7 _ 3 oA);have hc:(c:Int)<=1000:=by
    have:=mh (cl n) 1 k p.IB fun s _=>GF n s;have:=z.c;omega
   obtain⟨b0,b1,l0,l1,m0,m1,l2⟩:=J.out _ (av D);have B:=hid (z.next D);generalize hs:p.IB[k]=s at*;by_cases j:s 0=0
   ·have a:=hid (show Fr p n (k+1) c o u by
     have:=B.out;unfold cl un clI opn at this;rw[j] at this;simpa using this)
    rw[j] at c0;go_wp2_with fail
    exact⟨⟨k+1,c,o,u,oA,by go_num,rfl,rfl,rfl,a,d⟩,by simp[intOf];omega⟩
   have l3:=l2 j;by_cases e:s 0=1
   ·have x:=bZ _ oA oA;have I:IntKind.i64.wrap (s 1+s 2 - 1)=s 1+s 2 - 1:=bZ _ (by clear x;omega) (by clear x;omega);have ad:IntKind.i64.wrap (s 1+s 3)=s 1+s 3:=bZ _ (by clear x I;omega) (by clear x I;omega);have a:=hid (show Fr p n (k+1) (c+(if decide (s 1<=n∧n<=s 1+s 2 - 1)=true then 1 else 0)) o (u||(decide (s 1<=n∧n<=s 1+s 2 - 1)&&decide (s 1+s 3<=n))) by
     have:=B.out;unfold cl un clI opn at this;rw[e] at this;simpa using this)
    rw[e] at c0;generalize s 1=l at*;generalize s 2=U at*;generalize s 3=X at*;go_wp2_with fail
    go_quiet (first|(go_at_call 62;refine bD ((eD _ _ _ _).mono fun _ _ h=>⟨h.1,h.2.symm⟩)))
    have m:=hid (aE d nq);have d1:=(aE (ag wr.heap.size wr) nq).cell (aj _ _ c1) |>.trans c1
    have N:=(aE (ag wr.heap.size wr) nq).cell (aj _ _ F) |>.trans F
    generalize World.drewN _ _=W3 at m d1 N ⊢;by_cases H:l<=(n:Int)∧(n:Int)<=l+U - 1
    ·rw[aA H] at a ⊢;rw[ah rfl,dF] at a
     cases u with
     |true=>
      go_wp2_with fail
      go_quiet (fail)
      have g:=hid (aE m nq);generalize World.drewN _ _=M at g ⊢;go_wp2_with fail
      exact⟨⟨k+1,c+1,o,true,oA,by go_num,by go_num,rfl,rfl,a,g⟩,by simp[intOf];omega⟩
     |false=>
      go_wp2_with fail
      go_quiet (fail)
      have g:=hid (aE m nq);generalize World.drewN _ _=M at g ⊢;go_wp2_with fail
      exact⟨⟨k+1,c+1,o,decide (l+X<=(n:Int)),oA,by go_num,by go_num,rfl,rfl,a,g⟩,by simp[intOf];omega⟩
    ·rw[aw H] at a ⊢;rw[ae oD,Bool.false_and,Bool.or_false] at a;go_wp2_with fail
     exact⟨⟨k+1,c,o,u,oA,by go_num,rfl,rfl,rfl,a,m⟩,by simp[intOf];omega⟩
   ·have aa:(s 0==0)=false:=by simpa using j
    have O:(s 0==1)=false:=by simpa using e
    have a:=hid (show Fr p n (k+1) c (o||s 1==(n:Int)) u by
     have:=B.out;unfold cl un clI opn at this;rw[O,show (s 0 !=0)=true by simpa using j,show (s 0 !=1)=true by simpa using e] at this;simpa using this)
    generalize s 0=s0 at*;generalize s 1=l at*
    cases o with
    |true=>
     go_wp2_with fail
     exact⟨⟨k+1,c,true,u,oA,by go_num,rfl,rfl,rfl,a,d⟩,by simp[intOf];omega⟩
    |false=>
     go_wp2_with fail
     exact⟨⟨k+1,c,l==(n:Int),u,oA,by go_num,rfl,rfl,rfl,a,d⟩,by simp[intOf];omega⟩
  ·obtain rfl:k=p.IB.length:=oA;have ab:¬((p.IB.length:Int)<(p.IB.length:Int)):=oA;have A:=hid (z.all (kind:=kind));by_cases e:1<c
   ·have P:(1:Int)<(c:Int):=oA;go_wp2_with fail
    go_ret
    exact⟨by rw[A.out,aA e];rfl,d.out⟩
   ·have P:¬(1:Int)<(c:Int):=oA;by_cases G:kind=0
    ·subst G;go_wp2_with fail
     go_ret
     exact⟨by rw[A.out,aw e];rfl,d.out⟩
    ·have Q:(kind !=0)=true:=by simpa using G
     cases o<;>
     ·go_wp2_with fail
      go_ret
      exact⟨by rw[A.out,aw e,Q];rfl,d.out⟩
