/- A part. -/
import Derived.Laws.Bits64b
import Derived.Lib.TrailingZeros
import Derived.Deep.RegionLaw
import Derived.Test.YtipckjmgdghkiaaGreatDoorGQuotA
set_option maxHeartbeats 4000000
set_option maxRecDepth 100000
namespace Go.Proofs.YtipckjmgdghkiaaGreatDoor
open Go Go.RowKit
def Tabs (w:World):Prop:=
 (∀j,j<64->w.cell? ⟨1,j,none⟩=some (.int .u8 ((Lib.deBruijn64tab.getD j 0:Nat):Int)))/\
 (∀j,j<32->w.cell? ⟨2,j,none⟩=some (.int .u8 ((Lib.deBruijn32tab.getD j 0:Nat):Int)))
theorem zhc {w:World}{b o:Nat}{v:Value}(h:w.cell? ⟨b,o,none⟩=some v):b<w.heap.size:=by
 rcases zv6 b w.heap.size with h1|h1
 ·exact h1
 ·simp[World.cell?,Array.getElem?_eq_none h1]at h
theorem Tabs.keep {w W:World}(h:Tabs w)(hb:Below w.heap.size w W):Tabs W:=
 ⟨fun j hj=>(hb.cell (p:=⟨1,j,none⟩) (zhc (h.1 j hj))).trans (h.1 j hj),
  fun j hj=>(hb.cell (p:=⟨2,j,none⟩) (zhc (h.2 j hj))).trans (h.2 j hj)⟩
theorem zdV {n x:Nat}(h0:x≠0)(h:x<2^n):∃m,x=2^Lib.ctz n x*(2*m+1)/\Lib.ctz n x<n:=by
 have e:Lib.ctz n x=Lib.ctzFrom n x:=by simp[Lib.ctz,h0]
 rw[e]
 exact Lib.ctzFrom_spec n x (by omega) h
theorem zpc (x a:Nat)(hx:x<18446744073709551616)(hx0:x≠0)(hlow:x&&&(18446744073709551616 - x)=a):
  IntKind.u64.wrap (bits BinOp.and IntKind.u64 (x:Int) (IntKind.u64.wrap (-(x:Int)))*285870213051353865)/288230376151711744=((a*285870213051353865%18446744073709551616/288230376151711744:Nat):Int):=by
 have e1:IntKind.u64.wrap (-(x:Int))=((18446744073709551616 - x:Nat):Int):=by rw[zbT];omega
 rw[e1,bits_and_u64_nat x _ hx (by omega),hlow,zbT]
 omega
theorem zj2 (a b:Nat)(ha:a<4294967296)(hb:b<4294967296):bits .and .u32 (a:Int) (b:Int)=((a&&&b:Nat):Int):=by
 have hx:a&&&b<2^32:=Nat.and_lt_two_pow _ (by omega)
 have h1:(BitVec.ofInt 32 (a:Int)).toNat=a:=by
  rw[BitVec.ofInt_natCast,BitVec.toNat_ofNat];exact Nat.mod_eq_of_lt (by omega)
 have h2:(BitVec.ofInt 32 (b:Int)).toNat=b:=by
  rw[BitVec.ofInt_natCast,BitVec.toNat_ofNat];exact Nat.mod_eq_of_lt (by omega)
 show IntKind.u32.wrap ((BitVec.ofInt 32 (a:Int)&&&BitVec.ofInt 32 (b:Int)).toNat:Int)=_
 rw[BitVec.toNat_and,h1,h2]
 simp only[IntKind.wrap,IntKind.signed,IntKind.bits]
 simp
 omega
theorem zpd (x a:Nat)(hx:x<4294967296)(hx0:x≠0)(hlow:x&&&(4294967296 - x)=a):
  bits BinOp.and IntKind.u32 (x:Int) (-(x:Int)%4294967296)*125613361%4294967296/134217728=((a*125613361%4294967296/134217728:Nat):Int):=by
 have e1: -(x:Int)%4294967296=((4294967296 - x:Nat):Int):=by omega
 rw[e1,zj2 x _ hx (by omega),hlow]
 omega
theorem znv (x k idx:Nat)(w:World)(hx0:((x:Int)==0)=false)
  (key:IntKind.u64.wrap (bits BinOp.and IntKind.u64 (x:Int) (IntKind.u64.wrap (-(x:Int)))*285870213051353865)/288230376151711744=(idx:Int))
  (hi:idx<64) (hk:k<64) (hcell:w.cell? ⟨1,idx,none⟩=some (.int .u8 k)):
  Calls Tryz.prog 216 #[.int .u64 x] w fun e w'=>e= .returned (.int .i64 k)/\w=w':=by
 go_enter Tryz.func216,Tryz.ntmps216
 go_wp2_with (simp only[key])
 go_ret
 exact⟨rfl,rfl⟩
theorem znw (w:World):Calls Tryz.prog 216 #[.int .u64 0] w fun e w'=>e= .returned (.int .i64 64)/\w=w':=by
 go_enter Tryz.func216,Tryz.ntmps216
 go_wp2
 go_ret
 exact⟨rfl,rfl⟩
theorem znx (x k idx:Nat)(w:World)(hx0:((x:Int)==0)=false)
  (key:bits BinOp.and IntKind.u32 (x:Int) (-(x:Int)%4294967296)*125613361%4294967296/134217728=(idx:Int))
  (hi:idx<32) (hk:k<32) (hcell:w.cell? ⟨2,idx,none⟩=some (.int .u8 k)):
  Calls Tryz.prog 229 #[.int .u32 x] w fun e w'=>e= .returned (.int .i64 k)/\w=w':=by
 go_enter Tryz.func229,Tryz.ntmps229
 go_wp2_with (simp only[key])
 go_ret
 exact⟨rfl,rfl⟩
theorem zfD (w:World)(x:Nat)(hx:x<18446744073709551616)(hT:Tabs w):
  Calls Tryz.prog 216 #[.int .u64 x] w fun e w'=>e= .returned (.int .i64 (Lib.ctz 64 x:Nat))/\w=w':=by
 by_cases hx0:x=0
 ·subst hx0
  exact znw w
 ·obtain⟨hlow,hk⟩:=Lib.lowest_bit 64 x hx0 hx
  obtain⟨hi,htab⟩:=Lib.deBruijn64_at _ hk
  have hcell:=hT.1 _ hi
  rw[htab]at hcell
  exact znv x _ _ w (by simp;omega) (zpc x _ hx hx0 hlow) hi hk hcell
theorem zpe (w:World)(x:Nat)(hx:x<4294967296)(hx0:x≠0)(hT:Tabs w):
  Calls Tryz.prog 229 #[.int .u32 x] w fun e w'=>e= .returned (.int .i64 (Lib.ctz 32 x:Nat))/\w=w':=by
 obtain⟨hlow,hk⟩:=Lib.lowest_bit 32 x hx0 hx
 obtain⟨hi,htab⟩:=Lib.deBruijn32_at _ hk
 have hcell:=hT.2 _ hi
 rw[htab]at hcell
 exact znx x _ _ w (by simp;omega) (zpd x _ hx hx0 hlow) hi hk hcell
theorem zcq {x a m k:Nat}(h:x=2^a*(2*m+1)):2^k∣x↔k<=a:=by
 constructor
 ·intro hd
  rcases zv6 a k with hlt|hge
  ·exfalso
   obtain⟨c,hc⟩:=hd
   obtain⟨d,rfl⟩:∃d,k=a+(d+1):=⟨k - a - 1,by omega⟩
   rw[h,Nat.pow_add,Nat.mul_assoc]at hc
   have:=Nat.eq_of_mul_eq_mul_left (zv8 a) hc
   rw[Nat.pow_succ,Nat.mul_comm (2^d) 2,Nat.mul_assoc]at this
   omega
  ·exact hge
 ·intro hk
  rw[h]
  exact Nat.dvd_trans (Nat.pow_dvd_pow 2 hk) (Nat.dvd_mul_right _ _)
theorem zhd {X Y k:Nat}:2^k∣X ||| Y↔2^k∣X/\2^k∣Y:=by
 rw[Nat.dvd_iff_mod_eq_zero,Nat.dvd_iff_mod_eq_zero,Nat.dvd_iff_mod_eq_zero,Nat.or_mod_two_pow,Nat.or_eq_zero_iff]
theorem ztt {X Y:Nat}(hX:X<2^64)(hY:Y<2^64)(h1:X≠0)(h2:Y≠0):Lib.ctz 64 (X ||| Y)=min (Lib.ctz 64 X) (Lib.ctz 64 Y):=by
 obtain⟨m1,e1,_⟩:=zdV h1 hX
 obtain⟨m2,e2,_⟩:=zdV h2 hY
 have h3:X ||| Y≠0:=by rw[Ne,Nat.or_eq_zero_iff];omega
 obtain⟨m3,e3,_⟩:=zdV h3 (Nat.or_lt_two_pow hX hY)
 have a1:=(zhd (X:=X) (Y:=Y)).1 ((zcq e3 (k:=Lib.ctz 64 (X ||| Y))).2 zv0)
 have b1:=(zcq e1).1 a1.1
 have b2:=(zcq e2).1 a1.2
 have b3:=(zcq e3).1 ((zhd (k:=min (Lib.ctz 64 X) (Lib.ctz 64 Y))).2 ⟨(zcq e1).2 (by omega),(zcq e2).2 (by omega)⟩)
 omega
def oddOf (x:Nat):Nat:=x/2^Lib.ctz 64 x
theorem zcz {x:Nat}(h0:x≠0)(h:x<2^64):x=2^Lib.ctz 64 x*oddOf x/\oddOf x%2=1/\Lib.ctz 64 x<64:=by
 obtain⟨m,e,hk⟩:=zdV h0 h
 have:oddOf x=2*m+1:=by
  exact Nat.div_eq_of_eq_mul_right (zv8 _) e
 rw[this]
 exact⟨e,by omega,hk⟩
theorem zmC {x y:Nat}(h0:x≠0)(h:x<2^64)(hy:y%2=1):Nat.gcd (oddOf x) y=Nat.gcd x y:=by
 obtain⟨e,ho,_⟩:=zcz h0 h
 have:=zfS (k:=Lib.ctz 64 x) (k':=0) ho hy
 rw[Nat.pow_zero,Nat.one_mul,<-e]at this
 rw[this]
 simp
theorem zny {X Y:Nat}(hX:X<2^64)(hY:Y<2^64)(h1:X≠0)(h2:Y≠0):Nat.gcd X (oddOf Y)*2^Lib.ctz 64 (X ||| Y)=Nat.gcd X Y:=by
 obtain⟨e1,o1,_⟩:=zcz h1 hX
 obtain⟨e2,o2,_⟩:=zcz h2 hY
 have:=zfS (k:=Lib.ctz 64 X) (k':=Lib.ctz 64 Y) o1 o2
 rw[<-e1,<-e2]at this
 rw[this,ztt hX hY h1 h2,<-zmC h1 hX o2]
theorem zj3 (x:Nat):oddOf x<=x:=Nat.div_le_self _ _
theorem zmD {x:Nat}(h0:x≠0)(h:x<2^64):(x:Int)/2^min (Lib.ctz 64 x) 64=(oddOf x:Nat):=by
 obtain⟨_,_,hk⟩:=zcz h0 h
 rw[Nat.min_eq_left (by omega)]
 unfold oddOf
 rw[Int.natCast_ediv,Int.natCast_pow]
 rfl
theorem zex (w:World)(x y:Nat)(hx:x<18446744073709551616)(hy:y<18446744073709551616)(hT:Tabs w):
  Calls Tryz.prog 193 #[.int .u64 x,.int .u64 y] w fun e w'=>e= .returned (.int .u64 (Nat.gcd x y:Nat))/\w=w':=by
 by_cases h1:x=0
 ·subst h1
  have HB:=zvY (show bits BinOp.or IntKind.u64 (0:Int) (y:Int)=(y:Int) by have:=u64_or_nat 0 y (by omega) hy;simpa using this)
  go_enter Tryz.func193,Tryz.ntmps193
  go_wp2
  apply wp_scope_straight
  go_wp2
  rw[HB.out]
  rw[Exit.noGoto_ret]
  go_ret
  exact⟨by simp,rfl⟩
 by_cases h2:y=0
 ·subst h2
  have HB:=zvY (show bits BinOp.or IntKind.u64 (x:Int) (0:Int)=(x:Int) by have:=u64_or_nat x 0 hx (by omega);simpa using this)
  go_enter Tryz.func193,Tryz.ntmps193
  go_wp2
  apply wp_scope_straight
  go_wp2
  rw[HB.out]
  rw[Exit.noGoto_ret]
  go_ret
  exact⟨by simp,rfl⟩
 have H0:=zvY (show x≠0/\y≠0 from⟨h1,h2⟩)
 have b1:((x:Int)==0)=false:=by simpa using h1
 have b2:((y:Int)==0)=false:=by simpa using h2
 obtain⟨z,hz⟩:∃z,x ||| y=z:=⟨_,rfl⟩
 have hz64:z<18446744073709551616:=by rw[<-hz];exact Nat.or_lt_two_pow (n:=64) hx hy
 have HZ:bits BinOp.or IntKind.u64 (x:Int) (y:Int)=(z:Nat):=by rw[u64_or_nat x y hx hy,hz]
 have E1:=zvY (zfD w z hz64 hT)
 have E2:=zvY (zfD w y hy hT)
 go_enter Tryz.func193,Tryz.ntmps193
 go_wp2
 apply wp_scope_straight
 go_wp2_with fail
 refine E1.out.mono ?_
 rintro e' w' ⟨rfl,rfl⟩
 go_wp2_with fail
 refine E2.out.mono ?_
 rintro e' w' ⟨rfl,rfl⟩
 have HS:=zvY (zmD h2 hy)
 go_wp2_with fail
 rw[HS.out]
 have o2:=(zcz h2 hy).2.1
 have ol:=zj3 y
 have HG:=zvY (zny hx hy h1 h2)
 rw[hz]at HG
 have hzk:=(zcz (x:=z) (by rw[<-hz,Ne,Nat.or_eq_zero_iff];omega) hz64).2.2
 generalize oddOf y=b at*
 generalize Lib.ctz 64 z=k at*
 apply wp_label
 go_wp2
 go_loop [0,1] (fun xv yv=>∃a b:Nat,xv= .int .u64 a/\yv= .int .u64 b/\a<18446744073709551616/\b<18446744073709551616/\Hid (a≠0/\b%2=1/\Nat.gcd a b*2^k=Nat.gcd x y)) (fun xv yv=>(intOf xv+intOf yv).toNat)
 case atStart=>exact⟨x,b,rfl,rfl,hx,by omega,zvY ⟨h1,o2,HG.out⟩⟩
 case round=>
  obtain⟨a,d,rfl,rfl,ha,hd,HI⟩:=hrel
  obtain⟨i1,i2,i3⟩:=HI.out
  have E3:=zvY (zfD w a ha hT)
  have HS2:=zmD i1 ha
  have o3:=(zcz i1 ha).2.1
  have hg3:=zvY ((zmC i1 ha i2)▸i3)
  have ol3:=zj3 a
  clear i3 HI
  generalize oddOf a=c at*
  by_cases hcd:c=d
  ·subst hcd
   have hbc:((c:Int)==c)=true:=by simp
   have hout:c*2^k=Nat.gcd x y:=by have:=hg3.out;rwa [Nat.gcd_self]at this
   go_wp2_with (go_at_call 216;refine E3.out.mono ?_;rintro e' w' ⟨rfl,rfl⟩)
   rw[Exit.noGoto_ret]
   go_ret
   refine⟨?_,rfl⟩
   show Ending.returned (.int .u64 (IntKind.u64.wrap ((c:Int)*2^k)))= .returned (.int .u64 (Nat.gcd x y:Nat))
   have hle:c*2^k<18446744073709551616:=by rw[hout];exact zv4 (Nat.gcd_le_left y (by omega)) hx
   rw[zbT,show(c:Int)*2^k=((c*2^k:Nat):Int) by rw[Int.natCast_mul,Int.natCast_pow];rfl]
   exact zde (by omega)
  ·have HG2:=zvY hg3.out
   by_cases hlt:c<d
   ·go_wp2_with (go_at_call 216;refine E3.out.mono ?_;rintro e' w' ⟨rfl,rfl⟩)
    go_round
    case rel=>
     exact⟨d - c,c,by go_num,rfl,by omega,by omega,zvY ⟨by omega,o3,by rw[Nat.gcd_sub_self_left (by omega),Nat.gcd_comm];exact HG2.out⟩⟩
    case measure=>simp[intOf];omega
   ·go_wp2_with (go_at_call 216;refine E3.out.mono ?_;rintro e' w' ⟨rfl,rfl⟩)
    go_round
    case rel=>exact⟨c - d,d,by go_num,rfl,by omega,by omega,zvY ⟨by omega,i2,by rw[Nat.gcd_sub_self_left (by omega)];exact HG2.out⟩⟩
    case measure=>simp[intOf];omega
structure Core (X Y d x y p1 q1 p2 q2:Nat):Prop where
 det:p1*q2=q1*p2+2^d
 one:p1*X=q1*Y+2^d*x
 two:q2*Y=p2*X+2^d*y
section
variable {X Y d x y p1 q1 p2 q2 k:Nat}
theorem Core.shift (h:Core X Y d (2^k*x) y p1 q1 p2 q2):Core X Y (d+k) x y p1 q1 (2^k*p2) (2^k*q2):=by
 obtain⟨h1,h2,h3⟩:=h
 refine⟨?_,?_,?_⟩
 ·rw[Nat.pow_add,Nat.mul_left_comm,h1,Nat.mul_add,Nat.mul_left_comm q1,Nat.mul_comm (2^d)]
 ·rw[h2,Nat.pow_add,Nat.mul_assoc]
 ·rw[Nat.mul_assoc,h3,Nat.mul_add,Nat.mul_assoc,Nat.pow_add,Nat.mul_comm (2^d) (2^k),Nat.mul_assoc]
theorem Core.sub (h:Core X Y d x y p1 q1 p2 q2)(hle:y<=x):Core X Y d (x - y) y (p1+p2) (q1+q2) p2 q2:=by
 obtain⟨h1,h2,h3⟩:=h
 obtain⟨z,rfl⟩:∃z,x=y+z:=⟨x - y,by omega⟩
 refine⟨?_,?_,h3⟩
 ·rw[Nat.add_mul,Nat.add_mul,h1,Nat.mul_comm q2 p2];omega
 ·rw[Nat.add_mul,Nat.add_mul,h2,h3,Nat.mul_add,show y+z - y=z by omega];omega
theorem Core.swap (h:Core X Y d x y p1 q1 p2 q2):Core Y X d y x q2 p2 q1 p1:=by
 obtain⟨h1,h2,h3⟩:=h
 exact⟨by rw[Nat.mul_comm,h1,Nat.mul_comm q1],h3,h2⟩
end
def zh2 (X Y d x y:Nat)(fa fb sa sb:Int)(F:Nat):Prop:=
 y%2=1/\(x<2^64/\y<2^64)/\∃p1 q1 p2 q2:Nat,p1+q1<=F/\p2+q2<=2^d/\
  (
   (fa=(p1:Int)/\fb= -(q1:Int)/\sa= -(p2:Int)/\sb=(q2:Int)/\Core X Y d x y p1 q1 p2 q2)\/
   (fa= -(q1:Int)/\fb=(p1:Int)/\sa=(q2:Int)/\sb= -(p2:Int)/\Core Y X d x y p1 q1 p2 q2))
def zey (X Y d x y:Nat)(fa fb sa sb:Int):Prop:=zh2 X Y d x y fa fb sa sb (2^d)\/(zh2 X Y d x y fa fb sa sb (2^(d+1))/\x%2=0)
section
variable {X Y d x y k F:Nat}{fa fb sa sb:Int}
theorem zlr (hY:Y%2=1)(hX:X<2^64)(hY2:Y<2^64):zey X Y 0 X Y 1 0 0 1:=
 .inl ⟨hY,⟨hX,hY2⟩,1,0,0,1,by simp,by simp,.inl ⟨rfl,rfl,rfl,rfl,⟨by simp,by simp,by simp⟩⟩⟩
theorem zls (h:zey X Y d (2^k*x) y fa fb sa sb)(hk:k=0->x%2=1):zh2 X Y (d+k) x y fa fb (sa*2^k) (sb*2^k) (2^(d+k)):=by
 have hx:x<=2^k*x:=Nat.le_mul_of_pos_left _ (zv8 k)
 have key:∀F,F<=2^(d+k)->zh2 X Y d (2^k*x) y fa fb sa sb F->zh2 X Y (d+k) x y fa fb (sa*2^k) (sb*2^k) (2^(d+k)):=by
  rintro F hF ⟨a2,a4,p1,q1,p2,q2,b1,b2,b5⟩
  refine⟨a2,⟨by omega,a4.2⟩,p1,q1,2^k*p2,2^k*q2,by omega,?_,?_⟩
  ·rw[<-Nat.mul_add,Nat.pow_add,Nat.mul_comm];exact Nat.mul_le_mul_right _ b2
  ·have e:∀z:Nat,((2^k*z:Nat):Int)=(z:Int)*2^k:=fun z=>by rw[Int.natCast_mul,Int.natCast_pow,Int.mul_comm];rfl
   rcases b5 with⟨c1,c2,c3,c4,c5⟩|⟨c1,c2,c3,c4,c5⟩
   ·exact .inl ⟨c1,c2,by rw[e,c3,Int.neg_mul],by rw[e,c4],c5.shift⟩
   ·exact .inr ⟨c1,c2,by rw[e,c3],by rw[e,c4,Int.neg_mul],c5.shift⟩
 rcases zv7 k with h0|h0
 ·subst h0
  rcases h with h|⟨h,he⟩
  ·exact key _ zv0 h
  ·have:=hk rfl
   simp only[Nat.pow_zero,Nat.one_mul]at he
   omega
 ·rcases h with h|⟨h,he⟩
  ·exact key _ (zv5 (by omega) (by omega)) h
  ·exact key _ (zv5 (by omega) (by omega)) h
theorem zpf (h:zh2 X Y d x y fa fb sa sb (2^d))(hle:y<=x)(ho:x%2=1):zey X Y d (x - y) y (fa - sa) (fb - sb) sa sb:=by
 obtain⟨a2,a4,p1,q1,p2,q2,b1,b2,b5⟩:=h
 have h2:2^(d+1)=2^d+2^d:=by rw[Nat.pow_succ];omega
 refine .inr ⟨⟨a2,⟨by omega,a4.2⟩,p1+p2,q1+q2,p2,q2,by omega,b2,?_⟩,by omega⟩
 rcases b5 with⟨c1,c2,c3,c4,c5⟩|⟨c1,c2,c3,c4,c5⟩
 ·exact .inl ⟨by omega,by omega,c3,c4,c5.sub hle⟩
 ·exact .inr ⟨by omega,by omega,c3,c4,c5.sub hle⟩
theorem znz (h:zh2 X Y d x y fa fb sa sb (2^d))(hlt:x<y)(ho:x%2=1):zey X Y d (y - x) x (sa - fa) (sb - fb) fa fb:=by
 obtain⟨a2,a4,p1,q1,p2,q2,b1,b2,b5⟩:=h
 have h2:2^(d+1)=2^d+2^d:=by rw[Nat.pow_succ];omega
 refine .inr ⟨⟨ho,⟨by omega,a4.1⟩,q2+q1,p2+p1,q1,p1,by omega,by omega,?_⟩,by omega⟩
 rcases b5 with⟨c1,c2,c3,c4,c5⟩|⟨c1,c2,c3,c4,c5⟩
 ·exact .inr ⟨by omega,by omega,by omega,by omega,c5.swap.sub (by omega)⟩
 ·exact .inl ⟨by omega,by omega,by omega,by omega,c5.swap.sub (by omega)⟩
theorem zhe (h:zh2 X Y d x y fa fb sa sb F):(-(F:Int)<=fa/\fa<=F/\ -(F:Int)<=fb/\fb<=F)/\(-((2^d:Nat):Int)<=sa/\sa<=((2^d:Nat):Int)/\ -((2^d:Nat):Int)<=sb/\sb<=((2^d:Nat):Int)):=by
 obtain⟨a2,a4,p1,q1,p2,q2,b1,b2,b5⟩:=h
 rcases b5 with⟨c1,c2,c3,c4,c5⟩|⟨c1,c2,c3,c4,c5⟩ <;> omega
end
def Pair (W:World)(g:Nat)(a b:Int):Prop:=W.cell? ⟨g,0,none⟩=some (.int .i64 a)/\W.cell? ⟨g,1,none⟩=some (.int .i64 b)/\(∀j,W.frozen? ⟨g,j,none⟩=false)
section
variable {W:World}{g g':Nat}{a b a' b':Int}
theorem Pair.set (h:Pair W g a b)(a' b':Int):Pair ((W.setCell ⟨g,0,none⟩ (.int .i64 a')).setCell ⟨g,1,none⟩ (.int .i64 b')) g a' b':=by
 obtain⟨h1,h2,h3⟩:=h
 refine⟨?_,?_,fun j=>by rw[World.frozen?_setCell,World.frozen?_setCell];exact h3 j⟩
 ·rw[World.cell?_setCell_other _ ⟨g,1,none⟩ ⟨g,0,none⟩ _ (by simp),World.cell?_setCell_same' _ _ _ (by rw[h1];rfl)]
 ·rw[World.cell?_setCell_same' _ _ _ (by rw[World.cell?_setCell_other _ ⟨g,0,none⟩ ⟨g,1,none⟩ _ (by simp),h2];rfl)]
theorem Pair.other (h:Pair W g a b)(hne:g'≠g)(j:Nat)(v:Value):Pair (W.setCell ⟨g',j,none⟩ v) g a b:=by
 obtain⟨h1,h2,h3⟩:=h
 refine⟨?_,?_,fun j=>by rw[World.frozen?_setCell];exact h3 j⟩
 ·rw[World.cell?_setCell_other _ ⟨g',_,none⟩ ⟨g,0,none⟩ _ (by simp),h1]
 ·rw[World.cell?_setCell_other _ ⟨g',_,none⟩ ⟨g,1,none⟩ _ (by simp),h2]
theorem Pair.new (t:TypeId)(hg:g=W.heap.size):Pair (W.alloc (.cells #[.int .i64 a,.int .i64 b] t)) g a b:=by
 subst hg
 have h:=World.alloc_heap_new' W (.cells #[.int .i64 a,.int .i64 b] t)
 refine⟨?_,?_,fun j=>?_⟩
 ·simp only[World.cell?,h];rfl
 ·simp only[World.cell?,h];rfl
 ·unfold World.frozen?
  rw[h]
  simp
theorem Pair.drew (h:Pair W g a b):Pair W.drew g a b:=h
theorem zj4 (z:Int){k:Nat}(h:1<=k):z*2^k%2=0:=by
 obtain⟨j,rfl⟩:∃j,k=j+1:=⟨k - 1,by omega⟩
 rw[Int.pow_succ,<-Int.mul_assoc,Int.mul_emod_left]
theorem Pair.alloc (h:Pair W g a b)(hg:g<W.heap.size)(o:Obj):Pair (W.alloc o) g a b:=by
 obtain⟨h1,h2,h3⟩:=h
 have hb:=(Below.refl W.heap.size W).alloc zv0 o
 exact⟨(hb.cell (p:=⟨g,0,none⟩) hg).trans h1,(hb.cell (p:=⟨g,1,none⟩) hg).trans h2,fun j=>(hb.frozen (p:=⟨g,j,none⟩) hg).trans (h3 j)⟩
end
theorem zff {fn:Func}{p q:Tmp}{ty ty':TypeId}(h:fn.results= #[.cell p ty,.cell q ty'])(tmps:Array Value)(P:Program)(w:World):
  (results fn tmps).run P w=
   ((asAddr (tmps.getD p undef)).run P w).andThen fun a w₁=>((loadVar ty a).run P w₁).andThen fun v w₂=>((asAddr (tmps.getD q undef)).run P w₂).andThen fun a' w₃=>((loadVar ty' a').run P w₃).andThen fun v' w₄=> .ok (.tuple #[v,v']) w₄:=by
 simp only[results,h]
 simp[Sem.run_bind,Result.andThen]
theorem zlt {x l c:Nat}(hx:x<2^64)(hl:1<=l)(hl2:l<=31)(hc:Lib.ctz 64 x=c):∃k x':Nat,(x=2^k*x'/\(k=0->x'%2=1)/\(k<l->x'%2=1)/\x'=x/2^k)/\min c l=k:=by
 by_cases h0:x=0
 ·subst h0
  have:c=64:=by rw[<-hc];rfl
  exact⟨l,0,⟨by simp,by omega,by omega,by simp⟩,by omega⟩
 obtain⟨m,e,hk⟩:=zdV h0 hx
 rw[hc]at e
 rcases Nat.le_total c l with h|h
 ·exact⟨c,2*m+1,⟨e,by omega,by omega,(Nat.div_eq_of_eq_mul_right (zv8 _) e).symm⟩,by omega⟩
 ·obtain⟨r,rfl⟩:∃r,c=l+r:=⟨c - l,by omega⟩
  have e2:x=2^l*(2^r*(2*m+1)):=by rw[<-Nat.mul_assoc,<-Nat.pow_add];exact e
  exact⟨l,2^r*(2*m+1),⟨e2,by omega,by omega,(Nat.div_eq_of_eq_mul_right (zv8 _) e2).symm⟩,by omega⟩
theorem zi2 (w:World)(X Y:Nat)(hX:X<18446744073709551616)(hY:Y<18446744073709551616)(ho:Y%2=1)(hT:Tabs w):
  Calls Tryz.prog 230 #[.int .u64 X,.int .u64 Y] w fun e w'=>∃(x y:Nat) (fa fb sa sb:Int),e= .returned (.tuple #[.agg #[.int .i64 fa,.int .i64 fb],.agg #[.int .i64 sa,.int .i64 sb]])/\
   zh2 X Y 31 x y fa fb sa sb (2^31)/\sa%2=0/\sb%2=0/\Below w.heap.size w w':=by
 go_enter Tryz.func230,Tryz.ntmps230
 go_wp2
 apply wp_scope_straight
 go_wp2
 apply wp_label
 have p1:=zvY ((Pair.new (W:=w) (a:=1) (b:=0) 220 rfl).alloc (by simp) (.cells #[.int .i64 0,.int .i64 1] 220))
 have p2:=zvY (Pair.new (W:=w.alloc (.cells #[.int .i64 1,.int .i64 0] 220)) (g:=w.heap.size+1) (a:=0) (b:=1) 220 (by simp))
 have hB:=zvY (((Below.refl w.heap.size w).alloc zv0 (.cells #[.int .i64 1,.int .i64 0] 220)).alloc (by simp) (.cells #[.int .i64 0,.int .i64 1] 220))
 go_wp2
 go_loopw [0,1,6] (fun xv yv lv wr=>∃(x y d l:Nat) (fa fb sa sb:Int),xv= .int .u64 x/\yv= .int .u64 y/\lv= .int .i64 l/\d+l=31/\1<=l/\Hid (zey X Y d x y fa fb sa sb)/\Hid (Pair wr w.heap.size fa fb)/\Hid (Pair wr (w.heap.size+1) sa sb)/\Hid (Below w.heap.size w wr))
  (fun xv _ lv _=>2*(intOf lv).toNat+(intOf xv).toNat%2)
 case atStart=>exact⟨X,Y,0,31,1,0,0,1,rfl,rfl,rfl,rfl,by omega,zvY (zlr ho hX hY),p1,p2,hB⟩
 case round=>
  clear p1 p2 hB
  rename_i HKK
  replace HKK:=zvY HKK
  obtain⟨x,y,d,l,fa,fb,sa,sb,rfl,rfl,rfl,hdl,hl,hH,hP,hS,hB⟩:=hrel
  obtain⟨f1,f2,f3⟩:=hP.out
  obtain⟨s1,s2,s3⟩:=hS.out
  have f4:=f3 1
  replace f3:=f3 0
  have s4:=s3 1
  replace s3:=s3 0
  have hx64:x<18446744073709551616:=by rcases hH.out with h|⟨h,_⟩ <;> exact h.2.1.1
  have hy64:y<18446744073709551616:=by rcases hH.out with h|⟨h,_⟩ <;> exact h.2.1.2
  have ET:=zvY (zfD wr x hx64 (hT.keep hB.out))
  obtain⟨c,hc⟩:∃c,Lib.ctz 64 x=c:=⟨_,rfl⟩
  rw[hc]at ET
  obtain⟨k,x',HK,hkm⟩:=zlt (l:=l) hx64 hl (by omega) hc
  replace HK:=zvY HK
  have hkl:k<=l:=by omega
  replace hkm:=zvY hkm
  have hcast:(x:Int)/2^k=(x':Nat):=by
   rw[HK.out.2.2.2,Int.natCast_ediv,Int.natCast_pow];rfl
  refine wp_block ?_
  refine wp_seq_k fun K3 h3=>?_
  replace h3:=zvY h3
  go_wp2_with fail
  refine ET.out.mono ?_
  rintro e' w' ⟨rfl,rfl⟩
  have hk64:min k 64=k:=by omega
  have hx'64:x'<18446744073709551616:=by
   have h1:=HK.out.1
   have h2:x'<=2^k*x':=Nat.le_mul_of_pos_left _ (zv8 k)
   omega
  replace hB0:=zvY (hB.out.setCell (p:=⟨w.heap.size+1,0,none⟩) (by simp) (.int .i64 (sa*2^k)))
  have HB2:=zvY (hB0.out.setCell (p:=⟨w.heap.size+1,1,none⟩) (by simp) (.int .i64 (sb*2^k)))
  have HS2:=zvY (hS.out.set (sa*2^k) (sb*2^k))
  have HP2:=zvY ((hP.out.other (g':=w.heap.size+1) (by omega) 0 (.int .i64 (sa*2^k))).other (g':=w.heap.size+1) (by omega) 1 (.int .i64 (sb*2^k)))
  have HH2:=zvY (zls (k:=k) (x:=x') (by rw[<-HK.out.1];exact hH.out) HK.out.2.1)
  have hsm: -2147483648<=sa*2^k/\sa*2^k<=2147483648/\ -2147483648<=sb*2^k/\sb*2^k<=2147483648:=by
   have:=(zhe HH2.out).2
   have h2:(2:Nat)^(d+k)<=2^31:=zv5 (by omega) (by omega)
   omega
  have hw1:IntKind.i64.wrap (sa*2^k)=sa*2^k:=by rw[IntKind.wrap_i64];omega
  have hw2:IntKind.i64.wrap (sb*2^k)=sb*2^k:=by rw[IntKind.wrap_i64];omega
  have hs2':(wr.setCell ⟨w.heap.size+1,0,none⟩ (.int .i64 (sa*2^k))).cell? ⟨w.heap.size+1,1,none⟩=some (.int .i64 sb):=by
   rw[World.cell?_setCell_other _ ⟨w.heap.size+1,_,none⟩ ⟨w.heap.size+1,1,none⟩ _ (by simp),s2]
  generalize hA:sa*2^k=ta at*
  generalize hAb:sb*2^k=tb at*
  rcases(show((l<c/\l=k)\/(c=l/\l=k))\/(c<l/\c=k) by have:=hkm.out;omega)with hcs|⟨hlc,rfl⟩
  ·rcases hcs with⟨hlc,rfl⟩|⟨rfl,rfl⟩
   ·skip
    go_wp2_with fail
    refine h3.out _ _ ?_
    clear h3
    refine wp_seq_k fun K4 h4=>?_
    replace h4:=zvY h4
    go_wp2_with fail
    refine h4.out _ _ ?_
    clear h4
    refine wp_seq_k fun K5 h5=>?_
    replace h5:=zvY h5
    go_wp2_with fail
    refine h5.out _ _ ?_
    clear h5
    refine wp_seq_k fun K6 h6=>?_
    replace h6:=zvY h6
    go_wp2_with fail
    refine h6.out _ _ ?_
    clear h6
    refine wp_seq_k fun K7 h7=>?_
    replace h7:=zvY h7
    go_wp2_with fail
    refine h7.out _ _ ?_
    clear h7
    clear f1 f2 f3 f4 s1 s2 s3 s4 hP hS hB hB0 hs2' hH ET
    generalize hW2:(wr.setCell _ _).setCell _ _=W2 at*
    obtain⟨f1,f2,f3⟩:=HP2.out
    obtain⟨s1,s2,s3⟩:=HS2.out
    have f4:=f3 1
    replace f3:=f3 0
    have s4:=s3 1
    replace s3:=s3 0
    go_wp2_with fail
    have HPf:=zvY ((((HP2.out.set fa fb).other (g':=w.heap.size+1) (by omega) 0 (.int .i64 ta)).other (g':=w.heap.size+1) (by omega) 1 (.int .i64 tb)).drew)
    have HSf:=zvY ((((HS2.out.other (g':=w.heap.size) (by omega) 0 (.int .i64 fa)).other (g':=w.heap.size) (by omega) 1 (.int .i64 fb)).set ta tb).drew)
    have HBf:=zvY ((((((HB2.out.setCell (p:=⟨w.heap.size,0,none⟩) (by simp) (.int .i64 fa)).setCell (p:=⟨w.heap.size,1,none⟩) (by simp) (.int .i64 fb)).setCell (p:=⟨w.heap.size+1,0,none⟩) (by simp) (.int .i64 ta)).setCell (p:=⟨w.heap.size+1,1,none⟩) (by simp) (.int .i64 tb))).drew)
    have hev:∀z:Int,z*2^l%2=0:=fun z=>zj4 z (by omega)
    refine HKK.out _ _ ?_
    clear HKK
    refine wp_seq_k fun K15 h15=>?_
    replace h15:=zvY h15
    go_region_law fail
    all_goals
     go_wp2_with fail
     refine h15.out _ _ ?_
     clear h15
     go_wp2_with fail
     rw[Exit.noGoto_ret]
     refine bodyPost_ret (v:= .tuple #[.agg #[.int .i64 fa,.int .i64 fb],.agg #[.int .i64 ta,.int .i64 tb]]) ?_ rfl ⟨x',y,fa,fb,ta,tb,rfl,?_,?_,?_,HBf.out⟩
     ·rw[zff rfl]
      have c1:=HPf.out.1
      have c2:=HPf.out.2.1
      have c3:=HSf.out.1
      have c4:=HSf.out.2.1
      generalize World.drew _=W3 at*
      go_simp
     ·have:=HH2.out
      rwa [hdl]at this
     ·rw[<-hA];exact hev sa
     ·rw[<-hAb];exact hev sb
   ·skip
    go_wp2_with fail
    refine h3.out _ _ ?_
    clear h3
    refine wp_seq_k fun K4 h4=>?_
    replace h4:=zvY h4
    go_wp2_with fail
    refine h4.out _ _ ?_
    clear h4
    refine wp_seq_k fun K5 h5=>?_
    replace h5:=zvY h5
    go_wp2_with fail
    refine h5.out _ _ ?_
    clear h5
    refine wp_seq_k fun K6 h6=>?_
    replace h6:=zvY h6
    go_wp2_with fail
    refine h6.out _ _ ?_
    clear h6
    refine wp_seq_k fun K7 h7=>?_
    replace h7:=zvY h7
    go_wp2_with fail
    refine h7.out _ _ ?_
    clear h7
    clear f1 f2 f3 f4 s1 s2 s3 s4 hP hS hB hB0 hs2' hH ET
    generalize hW2:(wr.setCell _ _).setCell _ _=W2 at*
    obtain⟨f1,f2,f3⟩:=HP2.out
    obtain⟨s1,s2,s3⟩:=HS2.out
    have f4:=f3 1
    replace f3:=f3 0
    have s4:=s3 1
    replace s3:=s3 0
    go_wp2_with fail
    have HPf:=zvY ((((HP2.out.set fa fb).other (g':=w.heap.size+1) (by omega) 0 (.int .i64 ta)).other (g':=w.heap.size+1) (by omega) 1 (.int .i64 tb)).drew)
    have HSf:=zvY ((((HS2.out.other (g':=w.heap.size) (by omega) 0 (.int .i64 fa)).other (g':=w.heap.size) (by omega) 1 (.int .i64 fb)).set ta tb).drew)
    have HBf:=zvY ((((((HB2.out.setCell (p:=⟨w.heap.size,0,none⟩) (by simp) (.int .i64 fa)).setCell (p:=⟨w.heap.size,1,none⟩) (by simp) (.int .i64 fb)).setCell (p:=⟨w.heap.size+1,0,none⟩) (by simp) (.int .i64 ta)).setCell (p:=⟨w.heap.size+1,1,none⟩) (by simp) (.int .i64 tb))).drew)
    have hev:∀z:Int,z*2^c%2=0:=fun z=>zj4 z (by omega)
    refine HKK.out _ _ ?_
    clear HKK
    refine wp_seq_k fun K15 h15=>?_
    replace h15:=zvY h15
    go_region_law fail
    all_goals
     go_wp2_with fail
     refine h15.out _ _ ?_
     clear h15
     go_wp2_with fail
     rw[Exit.noGoto_ret]
     refine bodyPost_ret (v:= .tuple #[.agg #[.int .i64 fa,.int .i64 fb],.agg #[.int .i64 ta,.int .i64 tb]]) ?_ rfl ⟨x',y,fa,fb,ta,tb,rfl,?_,?_,?_,HBf.out⟩
     ·rw[zff rfl]
      have c1:=HPf.out.1
      have c2:=HPf.out.2.1
      have c3:=HSf.out.1
      have c4:=HSf.out.2.1
      generalize World.drew _=W3 at*
      go_simp
     ·have:=HH2.out
      rwa [hdl]at this
     ·rw[<-hA];exact hev sa
     ·rw[<-hAb];exact hev sb
  ·skip
   go_wp2_with fail
   refine h3.out _ _ ?_
   clear h3
   refine wp_seq_k fun K4 h4=>?_
   replace h4:=zvY h4
   go_wp2_with fail
   refine h4.out _ _ ?_
   clear h4
   refine wp_seq_k fun K5 h5=>?_
   replace h5:=zvY h5
   go_wp2_with fail
   refine h5.out _ _ ?_
   clear h5
   refine wp_seq_k fun K6 h6=>?_
   replace h6:=zvY h6
   go_wp2_with fail
   refine h6.out _ _ ?_
   clear h6
   refine wp_seq_k fun K7 h7=>?_
   replace h7:=zvY h7
   go_wp2_with fail
   refine h7.out _ _ ?_
   clear h7
   clear f1 f2 f3 f4 s1 s2 s3 s4 hP hS hB hB0 hs2' hH ET
   generalize hW2:(wr.setCell _ _).setCell _ _=W2 at*
   obtain⟨f1,f2,f3⟩:=HP2.out
   obtain⟨s1,s2,s3⟩:=HS2.out
   have f4:=f3 1
   replace f3:=f3 0
   have s4:=s3 1
   replace s3:=s3 0
   refine wp_seq_k fun K8 h8=>?_
   replace h8:=zvY h8
   go_wp2_with fail
   refine h8.out _ _ ?_
   clear h8
   have hodd:=HK.out.2.2.1 hlc
   have hxc:c=0->x=x':=fun h=>by have:=HK.out.1;rw[h]at this;simpa using this
   have hyodd:=HH2.out.1
   have hfm: -2147483648<=fa/\fa<=2147483648/\ -2147483648<=fb/\fb<=2147483648:=by
    have:=(zhe HH2.out).1
    have h2:(2:Nat)^(d+c)<=2^31:=zv5 (by omega) (by omega)
    omega
   clear hA hAb hw1 hw2 hcast hk64
   by_cases hlt:x'<y
   ·have HN:=zvY (znz HH2.out hlt hodd)
    have HP3:=zvY (((HP2.out.set ta tb).other (g':=w.heap.size+1) (by omega) 0 (.int .i64 fa)).other (g':=w.heap.size+1) (by omega) 1 (.int .i64 fb))
    have HS3:=zvY (((HS2.out.other (g':=w.heap.size) (by omega) 0 (.int .i64 ta)).other (g':=w.heap.size) (by omega) 1 (.int .i64 tb)).set fa fb)
    have HB3:=zvY ((((HB2.out.setCell (p:=⟨w.heap.size,0,none⟩) (by simp) (.int .i64 ta)).setCell (p:=⟨w.heap.size,1,none⟩) (by simp) (.int .i64 tb)).setCell (p:=⟨w.heap.size+1,0,none⟩) (by simp) (.int .i64 fa)).setCell (p:=⟨w.heap.size+1,1,none⟩) (by simp) (.int .i64 fb))
    refine wp_seq_k fun K9 h9=>?_
    replace h9:=zvY h9
    go_wp2_with fail
    refine h9.out _ _ ?_
    clear h9 f1 f2 f3 f4 s1 s2 s3 s4
    generalize hW3:(((W2.setCell _ _).setCell _ _).setCell _ _).setCell _ _=W3 at*
    have HP4:=zvY (HP3.out.set (ta - fa) (tb - fb))
    have HS4:=zvY ((HS3.out.other (g':=w.heap.size) (by omega) 0 (.int .i64 (ta - fa))).other (g':=w.heap.size) (by omega) 1 (.int .i64 (tb - fb)))
    have HB4:=zvY ((HB3.out.setCell (p:=⟨w.heap.size,0,none⟩) (by simp) (.int .i64 (ta - fa))).setCell (p:=⟨w.heap.size,1,none⟩) (by simp) (.int .i64 (tb - fb)))
    have c1:=HP3.out.1
    have c2:(W3.setCell ⟨w.heap.size,0,none⟩ (.int .i64 (ta - fa))).cell? ⟨w.heap.size,1,none⟩=some (.int .i64 tb):=by
     rw[World.cell?_setCell_other _ ⟨w.heap.size,_,none⟩ ⟨w.heap.size,1,none⟩ _ (by simp),HP3.out.2.1]
    have c3:=HS3.out.1
    have c4:=HS3.out.2.1
    have d1:=HP3.out.2.2 0
    have d2:=HP3.out.2.2 1
    have hv1:IntKind.i64.wrap (ta - fa)=ta - fa:=by rw[IntKind.wrap_i64];omega
    have hv2:IntKind.i64.wrap (tb - fb)=tb - fb:=by rw[IntKind.wrap_i64];omega
    have c5:(W3.setCell ⟨w.heap.size,0,none⟩ (.int .i64 (ta - fa))).cell? ⟨w.heap.size+1,1,none⟩=some (.int .i64 fb):=by
     rw[World.cell?_setCell_other _ ⟨w.heap.size,_,none⟩ ⟨w.heap.size+1,1,none⟩ _ (by simp),c4]
    refine wp_seq_k fun K12 h12=>?_
    replace h12:=zvY h12
    go_wp2_with fail
    refine h12.out _ _ ?_
    clear h12
    refine wp_seq_k fun K13 h13=>?_
    replace h13:=zvY h13
    go_wp2_with fail
    refine h13.out _ _ ?_
    clear h13
    go_wp2_with fail
    go_round
    case rel=>exact⟨y - x',x',d+c,l - c,ta - fa,tb - fb,fa,fb,by go_num,rfl,by go_num,by omega,by omega,HN,HP4,HS4,HB4⟩
    case measure=>
     simp[intOf]
     rcases zv7 c with h0|h0
     ·have:=hxc h0;omega
     ·omega
   ·have HN:=zvY (zpf HH2.out (by omega) hodd)
    refine wp_seq_k fun K9 h9=>?_
    replace h9:=zvY h9
    go_wp2_with fail
    refine h9.out _ _ ?_
    clear h9 f1 f2 f3 f4 s1 s2 s3 s4
    have HP4:=zvY (HP2.out.set (fa - ta) (fb - tb))
    have HS4:=zvY ((HS2.out.other (g':=w.heap.size) (by omega) 0 (.int .i64 (fa - ta))).other (g':=w.heap.size) (by omega) 1 (.int .i64 (fb - tb)))
    have HB4:=zvY ((HB2.out.setCell (p:=⟨w.heap.size,0,none⟩) (by simp) (.int .i64 (fa - ta))).setCell (p:=⟨w.heap.size,1,none⟩) (by simp) (.int .i64 (fb - tb)))
    have c1:=HP2.out.1
    have c2:(W2.setCell ⟨w.heap.size,0,none⟩ (.int .i64 (fa - ta))).cell? ⟨w.heap.size,1,none⟩=some (.int .i64 fb):=by
     rw[World.cell?_setCell_other _ ⟨w.heap.size,_,none⟩ ⟨w.heap.size,1,none⟩ _ (by simp),HP2.out.2.1]
    have c3:=HS2.out.1
    have c4:=HS2.out.2.1
    have d1:=HP2.out.2.2 0
    have d2:=HP2.out.2.2 1
    have hv1:IntKind.i64.wrap (fa - ta)=fa - ta:=by rw[IntKind.wrap_i64];omega
    have hv2:IntKind.i64.wrap (fb - tb)=fb - tb:=by rw[IntKind.wrap_i64];omega
    have c5:(W2.setCell ⟨w.heap.size,0,none⟩ (.int .i64 (fa - ta))).cell? ⟨w.heap.size+1,1,none⟩=some (.int .i64 tb):=by
     rw[World.cell?_setCell_other _ ⟨w.heap.size,_,none⟩ ⟨w.heap.size+1,1,none⟩ _ (by simp),c4]
    refine wp_seq_k fun K12 h12=>?_
    replace h12:=zvY h12
    go_wp2_with fail
    refine h12.out _ _ ?_
    clear h12
    refine wp_seq_k fun K13 h13=>?_
    replace h13:=zvY h13
    go_wp2_with fail
    refine h13.out _ _ ?_
    clear h13
    go_wp2_with fail
    go_round
    case rel=>exact⟨x' - y,y,d+c,l - c,fa - ta,fb - tb,ta,tb,by go_num,rfl,by go_num,by omega,by omega,HN,HP4,HS4,HB4⟩
    case measure=>
     simp[intOf]
     rcases zv7 c with h0|h0
     ·have:=hxc h0;omega
     ·omega
theorem zgW (g o j:Nat):(⟨g,o,none⟩:Addr).add j=⟨g,o+j,none⟩:=by
 simp only[Addr.add]
 split <;> simp_all
def Part (W:World)(g o n N:Nat):Prop:=∀j,j<n->W.cell? ⟨g,o+j,none⟩=some (.int .u32 (dig N j:Nat))/\W.frozen? ⟨g,o+j,none⟩=false
def Wrote (g o n:Nat)(w w':World):Prop:=
 Below g w w'/\(∀k,k≠g->k<w.heap.size->w'.heap[k]?=w.heap[k]?)/\∀j,(j<o\/o+n<=j)->w'.cell? ⟨g,j,none⟩=w.cell? ⟨g,j,none⟩/\w'.frozen? ⟨g,j,none⟩=w.frozen? ⟨g,j,none⟩
section
variable {w W W':World}{g o n o' n' N N' p x:Nat}
theorem Part.set (h:Part W g o n N)(hN:N<Bw^n)(hp:p<n)(hx:x<4294967296):
  ∃N',Part (W.setCell ⟨g,o+p,none⟩ (.int .u32 x)) g o n N'/\N'<Bw^n/\(∀j,dig N' j=if j=p then x else dig N j)/\N'+dig N p*Bw^p=N+x*Bw^p:=by
 obtain⟨O',h1,h2,h3⟩:=zmU hN hp (by rw[za4];exact hx)
 refine⟨O',fun j hj=>?_,h1,h2,h3⟩
 obtain⟨c1,c2⟩:=h j hj
 refine⟨?_,by rw[World.frozen?_setCell];exact c2⟩
 rw[h2]
 by_cases e:j=p
 ·subst e
  rw[if_pos rfl]
  exact World.cell?_setCell_same' _ _ _ (by rw[c1];rfl)
 ·rw[if_neg e,World.cell?_setCell_other W ⟨g,o+p,none⟩ ⟨g,o+j,none⟩ _ (by first|(simp;done)|(simp;omega)),c1]
theorem Part.down (h:Part W g o n N)(hn:n'<=n):Part W g o n' N:=fun j hj=>h j (by omega)
theorem Part.eqv (h:Part W g o n N)(hd:∀j,j<n->dig N' j=dig N j):Part W g o n N':=fun j hj=>by rw[hd j hj];exact h j hj
theorem Part.rd (h:Part W g o n N)(hN:N<Bw^n)(hg:g<p):Rd W p (some ⟨g,o,none⟩) n N:=
 ⟨hN,fun _=>⟨⟨g,o,none⟩,rfl,hg,fun j hj=>by rw[zgW];exact(h j hj).1⟩⟩
theorem Part.of_buf {L O:Nat}(h:Buf W g L O)(ho:o+n<=L)(hd:∀j,j<n->dig N j=dig O (o+j)):Part W g o n N:=fun j hj=>by rw[hd j hj];exact h (o+j) (by omega)
theorem Part.lt (h:Part W g o n N)(h0:0<n):g<W.heap.size:=by
 have h:=(h 0 h0).1
 rcases zv6 g W.heap.size with h1|h1
 ·exact h1
 ·simp[World.cell?,Array.getElem?_eq_none h1]at h
theorem Part.below {B:Nat}(h:Part W g o n N)(hb:Below B W W')(hg:g<B):Part W' g o n N:=fun j hj=>
 ⟨(hb.cell (p:=⟨g,o+j,none⟩) hg).trans (h j hj).1,(hb.frozen (p:=⟨g,o+j,none⟩) hg).trans (h j hj).2⟩
theorem Part.drew (h:Part W g o n N)(q:Nat):Part (W.drewN q) g o n N:=h
theorem Part.wrote (h:Part W g o n N)(hw:Wrote g o' n' W W')(hd:o+n<=o'\/o'+n'<=o):Part W' g o n N:=fun j hj=>by
 obtain⟨e1,e2⟩:=hw.2.2 (o+j) (by omega)
 rw[e1,e2]
 exact h j hj
theorem Wrote.refl:Wrote g o n W W:=⟨Below.refl g W,fun _ _ _=>rfl,fun _ _=>⟨rfl,rfl⟩⟩
theorem Wrote.trans (h:Wrote g o n w W)(h':Wrote g o n W W'):Wrote g o n w W':=
 ⟨h.1.trans h'.1,fun k hk hs=>(h'.2.1 k hk (zv3 hs h.1.size)).trans (h.2.1 k hk hs),fun j hj=>⟨(h'.2.2 j hj).1.trans (h.2.2 j hj).1,(h'.2.2 j hj).2.trans (h.2.2 j hj).2⟩⟩
theorem Wrote.set (h:Wrote g o n w W)(hp:p<n)(v:Value):Wrote g o n w (W.setCell ⟨g,o+p,none⟩ v):=
 h.trans ⟨(Below.refl g W).setCell (p:=⟨g,o+p,none⟩) zv0 v,fun k hk _=>Below.heap_setCell _ _ _ _ hk,fun j hj=>
  ⟨World.cell?_setCell_other W ⟨g,o+p,none⟩ ⟨g,j,none⟩ _ (by first|(simp;done)|(simp;omega)),World.frozen?_setCell ..⟩⟩
theorem Wrote.of_below (hb:Below W.heap.size W W')(hg:g<W.heap.size):Wrote g o n W W':=
 ⟨hb.mono (by omega),fun k _ hs=>hb.block k hs,fun j _=>⟨hb.cell (p:=⟨g,j,none⟩) hg,hb.frozen (p:=⟨g,j,none⟩) hg⟩⟩
theorem Wrote.drew (h:Wrote g o n w W)(q:Nat):Wrote g o n w (W.drewN q):=⟨⟨h.1.os,h.1.tape,h.1.output,h.1.size,h.1.block⟩,h.2.1,h.2.2⟩
theorem Wrote.below {B:Nat}(h:Wrote g o n w W)(hB:B<=g):Below B w W:=h.1.mono hB
theorem Wrote.cell {a:Addr}(h:Wrote g o n w W)(ha:a.block≠g)(hs:a.block<w.heap.size):W.cell? a=w.cell? a:=World.cell?_of_block (h.2.1 _ ha hs)
theorem Wrote.frozen {a:Addr}(h:Wrote g o n w W)(ha:a.block≠g)(hs:a.block<w.heap.size):W.frozen? a=w.frozen? a:=World.frozen?_of_block (h.2.1 _ ha hs)
end
def zpg (fa fb:Int)(p q:Nat):Prop:=((fa=p/\fb= -(q:Int))\/(fa= -(q:Int)/\fb=p))/\p<=2147483648/\q<=2147483648
def zfE (c:Int)(p q:Nat):Prop:= -(q:Int)<=c/\(c<p\/c<=0)
theorem zuF {x y p q:Nat}{c fa fb:Int}(hx:x<4294967296)(hy:y<4294967296)(hs:zpg fa fb p q)(hc:zfE c p q):
  IntKind.i64.wrap ((x:Int)*fa)=x*fa/\IntKind.i64.wrap ((y:Int)*fb)=y*fb/\IntKind.i64.wrap ((x:Int)*fa+y*fb)=x*fa+y*fb/\IntKind.i64.wrap (c+(x*fa+y*fb))=c+(x*fa+y*fb)/\
  zfE ((c+(x*fa+y*fb))/4294967296) p q:=by
 obtain⟨hs,hp,hq⟩:=hs
 obtain⟨c1,c2⟩:=hc
 have key:∀(z:Nat) (d:Nat),z<4294967296->(z:Int)*d<=4294967295*d/\0<=(z:Int)*d:=fun z d hz=>
  ⟨Int.mul_le_mul_of_nonneg_right (by omega) (by omega),Int.mul_nonneg (by omega) (by omega)⟩
 simp only[IntKind.wrap_i64,zfE]
 rcases hs with⟨rfl,rfl⟩|⟨rfl,rfl⟩
 ·have h1:=key x p hx
  have h2:=key y q hy
  rw[Int.mul_neg]
  generalize (x:Int)*p=u at*
  generalize (y:Int)*q=v at*
  refine⟨?_,?_,?_,?_,?_,?_⟩ <;> omega
 ·have h1:=key x q hx
  have h2:=key y p hy
  rw[Int.mul_neg]
  generalize (x:Int)*q=u at*
  generalize (y:Int)*p=v at*
  refine⟨?_,?_,?_,?_,?_,?_⟩ <;> omega
def znA (fa fb:Int)(A B k L:Nat)(c:Int):Prop:=fa*((A%Bw^k:Nat):Int)+fb*((B%Bw^k:Nat):Int)=c*((Bw^k:Nat):Int)+L/\L<Bw^k
theorem znB (fa fb:Int)(A B:Nat):znA fa fb A B 0 0 0:=by simp[znA,Nat.mod_one]
theorem zph {fa fb c:Int}{A B k L l:Nat}(h:znA fa fb A B k L c)(hl:(l:Int)=(c+((dig A k:Nat)*fa+(dig B k:Nat)*fb))%4294967296):
  znA fa fb A B (k+1) (L+Bw^k*l) ((c+((dig A k:Nat)*fa+(dig B k:Nat)*fb))/4294967296)/\(∀j,j<=k->dig (L+Bw^k*l) j=if j=k then l else dig L j):=by
 obtain⟨h1,h2⟩:=h
 have hl2:l<Bw:=by rw[za4];omega
 refine⟨⟨?_,?_⟩,fun j hj=>zez h2 hl2 j hj⟩
 ·rw[zaQ,zaQ]
  simp only[Int.natCast_add,Int.natCast_mul,Nat.pow_succ,za4]
  simp only[<-za4]
  generalize ((A%Bw^k:Nat):Int)=a at*
  generalize ((B%Bw^k:Nat):Int)=b at*
  generalize ((dig A k:Nat):Int)=da at*
  generalize ((dig B k:Nat):Int)=db at*
  generalize ((Bw^k:Nat):Int)=P at*
  have hv:=Int.mul_ediv_add_emod (c+(da*fa+db*fb)) 4294967296
  rw[<-hl]at hv
  generalize (c+(da*fa+db*fb))/4294967296=d at*
  have e1:fa*(a+P*da)+fb*(b+P*db)=(fa*a+fb*b)+P*(da*fa+db*fb):=by
   simp only[Int.mul_add]
   have:fa*(P*da)=P*(da*fa):=by ac_rfl
   have:fb*(P*db)=P*(db*fb):=by ac_rfl
   omega
  have e2:P*(da*fa+db*fb)=P*(4294967296*d+l - c):=by congr 1;omega
  have e3:P*(4294967296*d+l - c)=P*(4294967296*d)+P*l - P*c:=by rw[Int.mul_sub,Int.mul_add]
  have e4:P*c=c*P:=Int.mul_comm _ _
  have e5:d*(P*((Bw:Nat):Int))=P*(4294967296*d):=by
   show d*(P*4294967296)=_
   ac_rfl
  rw[e1,e5]
  omega
 ·rw[Nat.pow_succ]
  have:Bw^k*l+Bw^k<=Bw^k*Bw:=by rw[<-Nat.mul_succ];exact Nat.mul_le_mul_left _ hl2
  omega
theorem zrE {fa fb c:Int}{A B n L R p q:Nat}(hA:A<Bw^n)(hB:B<Bw^n)(h:znA fa fb A B n L c)(hc:zfE c p q)(hp:p<=2147483648)(hq:q<=2147483648)(hR:R<Bw^n)
  (hS:fa*A+fb*B=2147483648*(R:Int)\/fa*A+fb*B= -(2147483648*(R:Int))):
  (0<=c->(L+Bw^n*(c%4294967296).toNat)/2^31%Bw^n=R)/\(c<0->0<R/\(L+Bw^n*(c%4294967296).toNat)/2^31%Bw^n=Bw^n - R):=by
 obtain⟨h1,h2⟩:=h
 rw[Nat.mod_eq_of_lt hA,Nat.mod_eq_of_lt hB]at h1
 obtain⟨c1,c2⟩:=hc
 have hP:=zag n
 constructor
 ·intro h0
  obtain⟨d,rfl⟩:∃d:Nat,c=d:=⟨c.toNat,by omega⟩
  have e:((d:Int)%4294967296).toNat=d:=by omega
  rw[e]
  have h3:((L+Bw^n*d:Nat):Int)=fa*A+fb*B:=by rw[h1,Int.natCast_add,Int.natCast_mul,Int.mul_comm];omega
  have h4:L+Bw^n*d=2147483648*R:=by omega
  rw[h4,show(2:Nat)^31=2147483648 from rfl,Nat.mul_div_cancel_left _ (by omega),Nat.mod_eq_of_lt hR]
 ·intro h0
  obtain⟨d,rfl⟩:∃d:Nat,c= -(d:Int):=⟨(-c).toNat,by omega⟩
  have e:(-(d:Int)%4294967296).toNat=4294967296 - d:=by omega
  rw[e]
  have hlt:Bw^n<=Bw^n*d:=Nat.le_mul_of_pos_right _ (by omega)
  have h3:(-(d:Int))*((Bw^n:Nat):Int)= -((Bw^n*d:Nat):Int):=by rw[Int.neg_mul,Int.natCast_mul,Int.mul_comm]
  rw[h3]at h1
  have h4:Bw^n*d=L+2147483648*R:=by omega
  have h5:Bw^n*(4294967296 - d)=Bw^n*4294967296 - Bw^n*d:=Nat.mul_sub _ _ _
  have h6:L+Bw^n*(4294967296 - d)=2147483648*(Bw^n*2 - R):=by
   rw[h5]
   have:Bw^n*d<=Bw^n*4294967296:=Nat.mul_le_mul_left _ (by omega)
   omega
  have hR0:0<R:=by omega
  refine⟨hR0,?_⟩
  rw[h6,show(2:Nat)^31=2147483648 from rfl,Nat.mul_div_cancel_left _ (by omega)]
  have:Bw^n*2 - R=(Bw^n - R)+Bw^n:=by omega
  rw[this,Nat.add_mod_right,Nat.mod_eq_of_lt (by omega)]
theorem zpi {x y:Nat}(hx:x<4294967296)(_hy:y<4294967296):bits BinOp.or IntKind.u32 ((x:Int)/2147483648) ((y:Int)*2%4294967296)=(((x+4294967296*y)/2^31%4294967296:Nat):Int):=by
 have e1:(x:Int)/2147483648=((x/2147483648:Nat):Int):=by omega
 have e2:(y:Int)*2%4294967296=((y%2147483648*2:Nat):Int):=by omega
 rw[e1,e2,u32_or_nat _ _ (by omega) (by omega)]
 have h1:=Nat.shiftLeft_add_eq_or_of_lt (i:=1) (b:=x/2147483648) (by omega) (y%2147483648)
 rw[Nat.shiftLeft_eq,Nat.pow_one]at h1
 rw[Nat.or_comm,<-h1]
 congr 1
 omega
theorem zhf {L j:Nat}:dig (L/2^31) j=(dig L j+4294967296*dig L (j+1))/2^31%4294967296:=by
 have:=zhz (N:=L) (q:=0) (r:=31) (j:=j) (by omega)
 simpa using this
theorem zik {T T' L k l z:Nat}(hl:l<4294967296)(hL:L<Bw^(k+1))(h:∀j,j+1<k+1->dig T j=dig (L/2^31) j)(hz:z=(dig L k+4294967296*l)/2^31%4294967296)(hT:∀j,dig T' j=if j=k then z else dig T j):
  ∀j,j+1<k+1+1->dig T' j=dig ((L+Bw^(k+1)*l)/2^31) j:=fun j hj=>by
 have hd:=zez hL (show l<Bw by rw[za4];exact hl)
 have e1:=hd j (by omega)
 have e2:=hd (j+1) (by omega)
 rw[if_neg (by omega)]at e1
 rw[zhf,e1,e2,hT j]
 by_cases e:j=k
 ·subst e
  rw[if_pos rfl,if_pos rfl]
  exact hz
 ·rw[if_neg e,if_neg (by omega),h j (by omega),zhf]
theorem zpj {T L n:Nat}(hT:T<Bw^n)(h:∀j,j+1<n+1->dig T j=dig (L/2^31) j):T=L/2^31%Bw^n:=by
 refine zd7 hT (Nat.mod_lt _ (zag n)) fun j hj=>?_
 rw[h j (by omega)]
 have:=zdG (Y:=L/2^31/Bw^n) (Nat.mod_lt (L/2^31) (zag n)) j
 rw[if_pos hj,Nat.mod_add_div]at this
 exact this
theorem zpk {Y X Y' k d e c c':Nat}(h:Y%Bw^k+c*Bw^k=Bw^k - X%Bw^k)(hd:d=dig X k)(hd2:d<4294967296)(he:e+c'*4294967296=4294967295 - d+c)(hY:Y'%Bw^(k+1)=Y%Bw^k+Bw^k*e):
  Y'%Bw^(k+1)+c'*Bw^(k+1)=Bw^(k+1) - X%Bw^(k+1):=by
 have hm:=Nat.mod_lt X (zag k)
 rw[hY,zaQ X k,<-hd,Nat.pow_succ,za4,<-za4]
 generalize Bw^k=P at*
 have e1:P*e+c'*(P*4294967296)=P*(4294967295 - d)+P*c:=by
  rw[<-Nat.mul_add,<-he,Nat.mul_add]
  congr 1
  ac_rfl
 have e2:P*(4294967295 - d)+P*d=P*4294967295:=by rw[<-Nat.mul_add];congr 1;omega
 have e3:P*c=c*P:=Nat.mul_comm _ _
 simp only[za4]at*
 omega
section
attribute [local go_sem] Oper.semAt_some
theorem zrF {d:Nat}(h:d<4294967296):bits BinOp.xor IntKind.u32 IntKind.u32.max (d:Int)=((4294967295 - d:Nat):Int):=by
 have h1:=u32_xor_nat 4294967295 d (by omega) h
 have h2:4294967295^^^d=4294967295 - d:=by
  have e1:(BitVec.ofNat 32 d).toNat=d:=by rw[BitVec.toNat_ofNat];exact Nat.mod_eq_of_lt h
  have e2:(~~~(BitVec.ofNat 32 d)).toNat=2^32 - 1 - d:=by rw[BitVec.toNat_not,e1]
  have e3:(~~~(BitVec.ofNat 32 d))=BitVec.allOnes 32^^^BitVec.ofNat 32 d:=by rw[BitVec.allOnes_xor]
  rw[e3,BitVec.toNat_xor,e1,BitVec.toNat_allOnes]at e2
  exact e2
 rw[h2]at h1
 exact h1
theorem zlu (w:World)(g o n c X:Nat)(h:Part w g o n X)(hX:X<Bw^n)(h0:0<X)(hn:n<=c)(hc:c<=maxLen):
  Calls Tryz.prog 241 #[.slice (some ⟨g,o,none⟩) n c] w fun e w'=>e= .returned (.tuple #[])/\Wrote g o n w w'/\Part w' g o n (Bw^n - X):=by
 have EA:=zvY (fun W x y z (hx:x<4294967296) (hy:y<4294967296) (hz:z<=1)=>zgk W x y z hx hy hz)
 have HX:=zvY hX
 have H0:=zvY h0
 have hcb:c<=9223372036854775807:=by simpa[maxLen]using hc
 clear h0 hX hc
 go_enter Tryz.func241,Tryz.ntmps241
 go_wp2
 go_loopw [2,7] (fun cv kk wr=>∃k v:Nat,k<=n/\kk= .int .i64 k/\cv= .int .u32 v/\v<=1/\Hid (Wrote g o n w wr)/\Hid (∃Y,Part wr g o n Y/\Y<Bw^n/\Y%Bw^k+v*Bw^k=Bw^k - X%Bw^k/\∀j,k<=j->dig Y j=dig X j)) (fun _ kk _=>n - (intOf kk).toNat)
 case atStart=>exact⟨0,1,Nat.zero_le _,rfl,rfl,Nat.le_refl _,zvY Wrote.refl,zvY ⟨X,h,HX.out,by simp[Nat.mod_one],fun _ _=>rfl⟩⟩
 case round=>
  clear h
  obtain⟨k,v,hk,rfl,rfl,hv,HW,HI⟩:=hrel
  obtain⟨Y,hY,hY2,hY3,hY4⟩:=HI.out
  by_cases hkn:k<n
  ·have hd:=zav X k
   have hdY:=hY4 k zv0
   have c1:=(hY k hkn).1
   have c2:=(hY k hkn).2
   rw[hdY]at c1
   obtain⟨d,hdd⟩:∃d,dig X k=d:=⟨_,rfl⟩
   rw[hdd]at c1 hd
   obtain⟨e,he⟩:∃e,(4294967295 - d+0+v)%4294967296=e:=⟨_,rfl⟩
   obtain⟨v',hv'⟩:∃v',(4294967295 - d+0+v)/4294967296=v':=⟨_,rfl⟩
   have E:=zvY (EA.out wr (4294967295 - d) 0 v (by omega) (by omega) hv)
   rw[he,hv']at E
   have hxo:=zrF hd
   obtain⟨Y',b1,b2,b3,b4⟩:=hY.set hY2 hkn (x:=e) (by omega)
   have HB1:=zvY b1
   have HB2:=zvY b2
   have hlow:Y'%Bw^(k+1)=Y%Bw^k+Bw^k*e:=by
    rw[zaQ,b3 k,if_pos rfl]
    congr 1
    have e1:∀m,m<=k->Y'%Bw^m=Y%Bw^m:=fun m=>by
     induction m with
     |zero=>intro _;simp[Nat.mod_one]
     |succ m ih=>intro hm;rw[zaQ,zaQ,ih (by omega),b3 m,if_neg (by omega)]
    exact e1 k zv0
   have HN:=zvY (zpk (c':=v') hY3 hdd.symm hd (by omega) hlow)
   have HD:=zvY (show∀j,k+1<=j->dig Y' j=dig X j from fun j hj=>by rw[b3 j,if_neg (by omega)];exact hY4 j (by omega))
   have HW2:=zvY (HW.out.set hkn (.int .u32 e))
   have hv1:v'<=1:=by omega
   clear b1 b2 b3 b4 hY hY2 hY3 hY4 hdY HI hlow he hv'
   obtain⟨p,hp⟩:∃p,o+k=p:=⟨_,rfl⟩
   rw[hp]at c1 c2 HB1 HW2
   go_wp2_with fail
   refine E.out.mono ?_
   rintro e' w' ⟨rfl,rfl⟩
   go_wp2
   go_roundw
   case rel=>exact⟨k+1,v',by omega,by go_num,rfl,hv1,HW2,zvY ⟨Y',HB1.out,HB2.out,HN.out,HD.out⟩⟩
   case measure=>simp[intOf];omega
  ·have hkk:k=n:=by omega
   subst hkk
   have HE:Y=Bw^k - X/\v=0:=by
    rw[zbV hY2,zbV HX.out]at hY3
    have:=HX.out
    have:=H0.out
    rcases zv7 v with h0|h0
    ·subst h0;omega
    ·have:v=1:=by omega
     subst this;omega
   obtain⟨rfl,rfl⟩:=HE
   have HP:=zvY hY
   clear hY hY2 hY3 hY4 HI
   go_wp2
   exact bodyPost_end (results_none rfl _ _ _) rfl ⟨rfl,HW.out,HP.out⟩
def wordN (N s:Nat):Nat:=N/2^(s - 33)*2147483648+N%2147483648
theorem zrG {x y:Nat}(hx:x<8589934592)(hy:y<2147483648):bits BinOp.or IntKind.u64 ((x:Int)*2147483648) (y:Int)=((x*2147483648+y:Nat):Int):=by
 have h3:=u64_or_nat (x*2147483648) y (by omega) (by omega)
 have h4:x*2147483648 ||| y=x*2147483648+y:=by
  have:=Nat.shiftLeft_add_eq_or_of_lt (i:=31) (b:=y) (by omega) x
  rw[Nat.shiftLeft_eq]at this
  exact this.symm
 rw[h4]at h3
 exact h3
theorem zpl {x y:Nat}(hx:x<4294967296)(hy:y<4294967296):bits BinOp.or IntKind.u64 ((x:Int)*4294967296) (y:Int)=((x*4294967296+y:Nat):Int):=by
 have h3:=u64_or_nat (x*4294967296) y (by omega) (by omega)
 have h4:x*4294967296 ||| y=x*4294967296+y:=by
  have:=Nat.shiftLeft_add_eq_or_of_lt (i:=32) (b:=y) (by omega) x
  rw[Nat.shiftLeft_eq]at this
  exact this.symm
 rw[h4]at h3
 exact h3
theorem zpm {d:Nat}(hd:d<4294967296):bits BinOp.and IntKind.u64 (d:Int) 2147483647=((d%2147483648:Nat):Int):=by
 have h1:=bits_and_u64_nat d 2147483647 (by omega) (by omega)
 have h2:d&&&2147483647=d%2147483648:=Nat.and_two_pow_sub_one_eq_mod d 31
 rw[h2]at h1
 exact h1
theorem znC {N p r:Nat}(h:N<2^(32*p+r+33))(hr:r<32):(dig N (p+1)*4294967296+dig N p)/2^r=N/2^(32*p+r)/\N/2^(32*p+r)<8589934592:=by
 have h1:N/Bw^p<18446744073709551616:=by
  rw[Nat.div_lt_iff_lt_mul (zag p),zbo,show(18446744073709551616:Nat)=2^64 from rfl,<-Nat.pow_add]
  exact zv3 h (zv5 (by omega) (by omega))
 have h2:dig N (p+1)*4294967296+dig N p=N/Bw^p:=by
  unfold dig
  rw[Nat.pow_succ,<-Nat.div_div_eq_div_mul,za4]
  simp only[<-za4]
  generalize N/Bw^p=z at*
  rw[za4]
  omega
 constructor
 ·rw[h2,Nat.div_div_eq_div_mul,Nat.pow_add,zbo]
 ·rw[Nat.div_lt_iff_lt_mul (zv8 _),show(8589934592:Nat)=2^33 from rfl,<-Nat.pow_add]
  exact zv3 h (zv5 (by omega) (by omega))
theorem zj5 (w:World)(hi g o n c N s:Nat)(h:Rd w hi (some ⟨g,o,none⟩) n N)(_hn:n<=c)(hc:c<=maxLen)(hs:64<s)(hs2:s<=32*n)(hN:N<2^s)(hn2:n<=1000000000):
  Calls Tryz.prog 231 #[.slice (some ⟨g,o,none⟩) n c,.int .i64 (s:Nat)] w fun e w'=>e= .returned (.int .u64 (wordN N s:Nat))/\∃q,w'=w.drewN q:=by
 obtain⟨p,r,hr,hsp⟩:∃p r,r<32/\s=32*p+r+33:=⟨(s - 33)/32,(s - 33)%32,by omega,by omega⟩
 have hcb:c<=9223372036854775807:=by simpa[maxLen]using hc
 have HW:=znC (hsp▸hN) hr
 have hs33:s - 33=32*p+r:=by omega
 unfold wordN
 rw[hs33]
 obtain⟨x1,hx1⟩:∃x1,dig N (p+1)=x1:=⟨_,rfl⟩
 obtain⟨x0,hx0⟩:∃x0,dig N p=x0:=⟨_,rfl⟩
 obtain⟨z,hz⟩:∃z,N/2^(32*p+r)=z:=⟨_,rfl⟩
 obtain⟨l,hl⟩:∃l,dig N 0=l:=⟨_,rfl⟩
 have b1:x1<4294967296:=by rw[<-hx1];exact zav _ _
 have b0:x0<4294967296:=by rw[<-hx0];exact zav _ _
 have bl:l<4294967296:=by rw[<-hl];exact zav _ _
 rw[hx1,hx0,hz]at HW
 have hlow:N%2147483648=l%2147483648:=by
  rw[<-hl];unfold dig;rw[Nat.pow_zero,Nat.div_one,za4];omega
 rw[hz,hlow]
 have hp1:p+1<n:=by omega
 have c1:∃ad:Addr,some (⟨g,o,none⟩:Addr)=some ad/\_:=(h.at_ hp1)
 obtain⟨_,⟨⟩,_,k1⟩:=h.at_ hp1
 obtain⟨_,⟨⟩,_,k0⟩:=h.at_ (show p<n by omega)
 obtain⟨_,⟨⟩,_,kl⟩:=h.at_ (show 0<n by omega)
 rw[zgW,hx1]at k1
 rw[zgW,hx0]at k0
 rw[zgW,hl]at kl
 clear c1
 have HO2:=zpl b1 b0
 have HO:=zrG HW.2 (show l%2147483648<2147483648 by omega)
 have HA:=zpm bl
 have hz1:((x1*4294967296+x0:Nat):Int)/2^r=(z:Nat):=by rw[<-HW.1,Int.natCast_ediv,Int.natCast_pow];rfl
 have hzb:=HW.2
 obtain⟨v,hv⟩:∃v,x1*4294967296+x0=v:=⟨_,rfl⟩
 obtain⟨l2,hll⟩:∃l2,l%2147483648=l2:=⟨_,rfl⟩
 rw[hv]at HO2 hz1
 rw[hll]at HO HA ⊢
 obtain⟨XX,hXX⟩:∃XX,z*2147483648+l2=XX:=⟨_,rfl⟩
 rw[hXX]at HO ⊢
 have hl2:l2<2147483648:=by omega
 have hq1:((s:Int) - 33)/32=(p:Int):=by omega
 have hq2:((s:Int) - 33).tmod 32=(r:Int):=by rw[Int.tmod_eq_emod_of_nonneg (by omega)];omega
 have hq3:((s:Int) - 33)%32=(r:Int):=by omega
 obtain⟨pp,hpp⟩:∃pp,p+1=pp:=⟨_,rfl⟩
 have hpi:(p:Int)+1=(pp:Int):=by omega
 have hmr:min r 64=r:=by omega
 have hpr:pp<n/\p<n/\0<n:=by omega
 rw[hpp]at k1
 have hzw:IntKind.u64.wrap ((z:Int)*2147483648)=(z:Int)*2147483648:=by rw[zbT];omega
 obtain⟨hp2,hp3,hp4⟩:=hpr
 have hsb:(s:Int)<32000000001:=by omega
 clear HW h hN hx1 hx0 hz hl hsp hs33 hv hll hlow hXX hp1 hpp
 replace hzw:=zvY hzw
 replace HO:=zvY HO
 replace HA:=zvY HA
 replace hl2:=zvY hl2
 replace hzb:=zvY hzb
 go_enter Tryz.func231,Tryz.ntmps231
 go_wp2
 go_quiet (fail)
 clear HO2 hz1 k1 k0 hq1 hq2 hq3
 replace hzw:=hzw.out
 replace HO:=HO.out
 replace HA:=HA.out
 replace hzb:=hzb.out
 replace hl2:=hl2.out
 have kl':(w.drewN nq).cell? ⟨g,o,none⟩=some (.int .u32 (l:Nat)):=kl
 go_wp2
 go_ret
 exact⟨rfl,_,rfl⟩
theorem zmE (w:World)(g ot oa ob n ct ca cb A B T R p q:Nat)(fa fb:Int)(hPT:Part w g ot n T)(hPA:Part w g oa n A)(hPB:Part w g ob n B)(hT:T<Bw^n)(hA:A<Bw^n)(hB:B<Bw^n)
  (hda:ot+n<=oa\/oa+n<=ot) (hdb:ot+n<=ob\/ob+n<=ot) (hn:0<n) (hct:n<=ct) (hct2:ct<=maxLen) (hca:n<=ca) (hca2:ca<=maxLen) (hcb:n<=cb) (hcb2:cb<=maxLen)
  (hs:zpg fa fb p q) (hR:R<Bw^n) (hS:fa*A+fb*B=2147483648*(R:Int)\/fa*A+fb*B= -(2147483648*(R:Int))) (mt _ma mb:Nat) (hmt:n<=mt) (_hmt2:mt<=ct) (hmb:n<=mb) (hmb2:mb<=cb):
  Calls Tryz.prog 232 #[.slice (some ⟨g,ot,none⟩) mt ct,.slice (some ⟨g,oa,none⟩) n ca,.slice (some ⟨g,ob,none⟩) mb cb,.agg #[.int .i64 fa,.int .i64 fb]] w fun e w'=>e= .returned (.tuple #[])/\Wrote g ot n w w'/\Part w' g ot n R:=by
 have hg:=hPA.lt hn
 have EN:=zvY (fun W X h hX h0=>zlu W g ot n ct X h hX h0 hct hct2)
 have hct3:ct<=9223372036854775807:=by simpa[maxLen]using hct2
 have hca3:ca<=9223372036854775807:=by simpa[maxLen]using hca2
 have hcb3:cb<=9223372036854775807:=by simpa[maxLen]using hcb2
 have HA:=zvY hA
 have HB:=zvY hB
 have HT:=zvY hT
 have HR:=zvY hR
 have HS:=zvY hS
 have Hs:=zvY hs
 have W0:=zvY (show Wrote g ot n w (w.alloc (.cells #[.int .i64 fa,.int .i64 fb] 220))from Wrote.of_below ((Below.refl _ w).alloc zv0 _) hg)
 have P0:=zvY (Pair.new (W:=w) (g:=w.heap.size) (a:=fa) (b:=fb) 220 rfl)
 have hsz:w.heap.size<(w.alloc (.cells #[.int .i64 fa,.int .i64 fb] 220)).heap.size:=by simp
 have HPT:=zvY (hPT.below ((Below.refl _ w).alloc zv0 (.cells #[.int .i64 fa,.int .i64 fb] 220)) hg)
 have HPA:=zvY (hPA.below ((Below.refl _ w).alloc zv0 (.cells #[.int .i64 fa,.int .i64 fb] 220)) hg)
 have HPB:=zvY (hPB.below ((Below.refl _ w).alloc zv0 (.cells #[.int .i64 fa,.int .i64 fb] 220)) hg)
 clear hPT hPA hPB hA hB hT hR hS hs hct2 hca2 hcb2
 go_enter Tryz.func232,Tryz.ntmps232
 go_wp2
 generalize hw0:w.alloc (.cells #[.int .i64 fa,.int .i64 fb] 220)=w0 at*
 have F0:=zvY hw0
 clear hw0
 generalize hbx:w.heap.size=bx at*
 clear hbx
 go_quiet (fail)
 go_wp2
 go_loopw [8,9,23] (fun cv lv kk wr=>∃(k la L:Nat) (cc:Int),k<=n/\kk= .int .i64 k/\cv= .int .i64 cc/\lv= .int .u32 la/\la<4294967296/\Hid (zfE cc p q)/\Hid (znA fa fb A B k L cc)/\Hid (∀j,k=j+1->la=dig L j)/\Hid (k=0->la=0)/\Hid (Wrote g ot n w0 wr)/\
  Hid (∃T',Part wr g ot n T'/\T'<Bw^n/\∀j,j+1<k->dig T' j=dig (L/2^31) j)) (fun _ _ kk _=>n - (intOf kk).toNat)
 case atStart=>exact⟨0,0,0,0,Nat.zero_le _,rfl,rfl,rfl,by omega,zvY ⟨by omega,.inr (by omega)⟩,zvY (znB ..),zvY fun j hj=>by omega,zvY fun _=>rfl,zvY (Wrote.refl.drew _),zvY ⟨T,HPT.out.drew _,HT.out,fun j hj=>by omega⟩⟩
 case round=>
  obtain⟨k,la,L,cc,hk,rfl,rfl,rfl,hla,HC,HM,HL,HZ,HW,HI⟩:=hrel
  by_cases hkn:k<n
  ·obtain⟨pa,hpa⟩:∃pa,oa+k=pa:=⟨_,rfl⟩
   obtain⟨pb,hpb⟩:∃pb,ob+k=pb:=⟨_,rfl⟩
   have c1:=((HPA.out.wrote HW.out (by omega)) k hkn).1
   have c2:=((HPB.out.wrote HW.out (by omega)) k hkn).1
   rw[hpa]at c1
   rw[hpb]at c2
   have f1:wr.cell? ⟨bx,0,none⟩=some (.int .i64 fa):=(HW.out.cell (a:=⟨bx,0,none⟩) (by simp;omega) hsz).trans P0.out.1
   have f2:wr.cell? ⟨bx,1,none⟩=some (.int .i64 fb):=(HW.out.cell (a:=⟨bx,1,none⟩) (by simp;omega) hsz).trans P0.out.2.1
   have hV:=zuF (zav A k) (zav B k) Hs.out HC.out
   obtain⟨l,hl⟩:∃l:Nat,(l:Int)=(cc+((dig A k:Nat)*fa+(dig B k:Nat)*fb))%4294967296:=⟨((cc+((dig A k:Nat)*fa+(dig B k:Nat)*fb))%4294967296).toNat,by omega⟩
   have HS2:=zvY (zph HM.out hl)
   have hl2:l<4294967296:=by omega
   obtain⟨da,hda⟩:∃da,dig A k=da:=⟨_,rfl⟩
   obtain⟨db,hdb⟩:∃db,dig B k=db:=⟨_,rfl⟩
   have hdab:da<4294967296/\db<4294967296:=by rw[<-hda,<-hdb];exact⟨zav _ _,zav _ _⟩
   rw[hda]at c1
   rw[hdb]at c2
   rw[hda,hdb]at hV hl HS2
   obtain⟨m1,hm1⟩:∃m1,(da:Int)*fa=m1:=⟨_,rfl⟩
   obtain⟨m2,hm2⟩:∃m2,(db:Int)*fb=m2:=⟨_,rfl⟩
   rw[hm1,hm2]at hV hl HS2
   obtain⟨m3,hm3⟩:∃m3,m1+m2=m3:=⟨_,rfl⟩
   rw[hm3]at hV hl HS2
   obtain⟨v,hv⟩:∃v,cc+m3=v:=⟨_,rfl⟩
   rw[hv]at hV hl HS2
   obtain⟨d,hd⟩:∃d,v/4294967296=d:=⟨_,rfl⟩
   rw[hd]at hV HS2
   obtain⟨v1,v2,v3,v4,v5⟩:=hV
   have HC2:=zvY v5
   have hl3:=hl.symm
   obtain⟨b1,b2⟩:=hdab
   clear hl v5 hda hdb
   go_wp2
   go_quiet (fail)
   have HW1:=zvY (HW.out.drew nq)
   have HI1:Hid (∃T',Part (wr.drewN nq) g ot n T'/\T'<Bw^n/\∀j,j+1<k->dig T' j=dig (L/2^31) j):=zvY HI.out
   clear HW HI c1 c2 f1 f2 hpa hpb v1 v2 v3 v4 hm1 hm2 hm3 hv
   generalize wr.drewN nq=W1 at*
   rcases zv7 k with h0|h0
   ·subst h0
    have HL2:=zvY (show∀j,0+1=j+1->l=dig (L+Bw^0*l) j from fun j hj=>by
     obtain rfl:j=0:=by omega
     rw[HS2.out.2 0 (by omega),if_pos rfl])
    have HI2:Hid (∃T',Part W1 g ot n T'/\T'<Bw^n/\∀j,j+1<0+1->dig T' j=dig ((L+Bw^0*l)/2^31) j):=by
     obtain⟨T',h1,h2,_⟩:=HI1.out
     exact zvY ⟨T',h1,h2,fun j hj=>by omega⟩
    clear HI1 HL
    go_wp2
    go_roundw
    case rel=>exact⟨1,l,L+Bw^0*l,d,by omega,by go_num,rfl,by rw[hl3],hl2,HC2,zvY HS2.out.1,HL2,zvY fun h=>by omega,HW1,HI2⟩
    case measure=>simp[intOf];omega
   ·obtain⟨j,hj⟩:∃j,k=j+1:=⟨k - 1,by omega⟩
    have hj2:(k:Int) - 1=(j:Int):=by omega
    have hjn:j<n:=by omega
    obtain⟨T',t1,t2,t3⟩:=HI1.out
    have hor:=zpi hla hl2
    obtain⟨z,hz⟩:∃z,(la+4294967296*l)/2^31%4294967296=z:=⟨_,rfl⟩
    rw[hz]at hor
    have hzb:z<4294967296:=by rw[<-hz];exact Nat.mod_lt _ (by omega)
    obtain⟨T2,b3,b4,b5,_⟩:=t1.set t2 hjn hzb
    have hLL:=HM.out.2
    rw[hj]at hLL t3
    have HT2:=zvY (zik (z:=z) hl2 hLL t3 (by rw[<-HL.out j hj];exact hz.symm) b5)
    rw[<-hj]at HT2
    have HL2:=zvY (show∀j,k+1=j+1->l=dig (L+Bw^k*l) j from fun j hj=>by
     obtain rfl:k=j:=by omega
     rw[HS2.out.2 k zv0,if_pos rfl])
    have HB3:=zvY b3
    have HW2:=zvY (HW1.out.set hjn (.int .u32 z))
    obtain⟨e1,e2⟩:=t1 j hjn
    obtain⟨pt,hpt⟩:∃pt,ot+j=pt:=⟨_,rfl⟩
    rw[hpt]at e1 e2 HB3 HW2
    have hsz:(W1.cell? ⟨g,pt,none⟩).isSome:=by rw[e1];rfl
    replace hj:=zvY hj
    clear HI1 HL t1 t2 t3 hLL b3 b5 hz
    go_wp2
    go_roundw
    case rel=>exact⟨k+1,l,L+Bw^k*l,d,by omega,by go_num,rfl,by rw[hl3],hl2,HC2,zvY HS2.out.1,HL2,zvY fun h=>by omega,HW2,zvY ⟨T2,HB3.out,b4,HT2.out⟩⟩
    case measure=>simp[intOf];omega
  ·have hkk:k=n:=by omega
   subst hkk
   obtain⟨j,hj⟩:∃j,k=j+1:=⟨k - 1,by omega⟩
   have hj2:(k:Int) - 1=(j:Int):=by omega
   have hjn:j<k:=by omega
   obtain⟨T',t1,t2,t3⟩:=HI.out
   obtain⟨l,hl⟩:∃l:Nat,(cc%4294967296).toNat=l:=⟨_,rfl⟩
   have hl2:l<4294967296:=by omega
   have hl3:cc%4294967296=(l:Int):=by omega
   have hor:=zpi hla hl2
   obtain⟨z,hz⟩:∃z,(la+4294967296*l)/2^31%4294967296=z:=⟨_,rfl⟩
   rw[hz]at hor
   have hzb:z<4294967296:=by rw[<-hz];exact Nat.mod_lt _ (by omega)
   obtain⟨T2,b3,b4,b5,_⟩:=t1.set t2 hjn hzb
   have hLL:=HM.out.2
   rw[hj]at hLL t3
   have hT2:=zik (z:=z) hl2 hLL t3 (by rw[<-HL.out j hj];exact hz.symm) b5
   rw[<-hj]at hT2
   have hT3:=zpj b4 hT2
   have HE:=zvY (zrE HA.out HB.out HM.out HC.out Hs.out.2.1 Hs.out.2.2 HR.out HS.out)
   rw[hl,<-hT3]at HE
   have HB3:=zvY b3
   have HB4:=zvY b4
   have HW2:=zvY (W0.out.trans (HW.out.set hjn (.int .u32 z)))
   obtain⟨e1,e2⟩:=t1 j hjn
   obtain⟨pt,hpt⟩:∃pt,ot+j=pt:=⟨_,rfl⟩
   rw[hpt]at e1 e2 HB3 HW2
   have hsz:(wr.cell? ⟨g,pt,none⟩).isSome:=by rw[e1];rfl
   have hcw:=HC.out.1
   have hqq:=Hs.out.2.2
   have hpp:=Hs.out.2.1
   have hcw2:=HC.out.2
   replace hj:=zvY hj
   clear HI HL t1 t2 t3 hLL b3 b4 b5 hz hT2 hT3 hl
   by_cases hneg:cc<0
   ·obtain⟨r0,hr⟩:=HE.out.2 hneg
    have E:=zvY (EN.out _ T2 HB3.out HB4.out (by have:=HR.out;rw[hr];omega))
    have hfin:Bw^k - T2=R:=by have:=HR.out;rw[hr];omega
    rw[hfin]at E
    clear hr hfin
    go_wp2_with (go_at_call 241;refine E.out.mono ?_;rintro e' w' ⟨rfl,hw',hp'⟩;replace hw':=zvY hw';replace hp':=zvY hp')
    exact bodyPost_end (results_none rfl _ _ _) rfl ⟨rfl,HW2.out.trans hw'.out,hp'.out⟩
   ·have hr:=zvY (HE.out.1 (by omega))
    rw[show(l:Int)*2%4294967296=cc*2 by omega]at hor
    go_wp2
    exact bodyPost_end (results_none rfl _ _ _) rfl ⟨rfl,HW2.out,by rw[<-hr.out];exact HB3.out⟩
end
end Go.Proofs.YtipckjmgdghkiaaGreatDoor
