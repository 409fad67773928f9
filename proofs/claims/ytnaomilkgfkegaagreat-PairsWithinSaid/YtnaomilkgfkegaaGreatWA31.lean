/- What the claim stands on, part 32: MiN, MiO, MiQ, MiW, PaM, PaN, PaO, MiV. -/
import Derived.Test.YtnaomilkgfkegaaGreatWA30
import Derived.Test.YtnaomilkgfkegaaGreatWA26
import Derived.Test.YtnaomilkgfkegaaGreatWA15
import Derived.Test.YtnaomilkgfkegaaGreatWA16
import Derived.Deep.RegionHeld3
set_option maxHeartbeats 16000000
set_option maxRecDepth 100000
namespace Go.Proofs.YtnaomilkgfkegaaGreat
section
open Go.RowKit
def w4:Nat:=4616189618054758400
theorem w4_fit:Fit (oneR w4):=one_fit (by decide) (by decide)
theorem w24_val:val w2=2*SS∧val w4=4*SS:=by decide +kernel
theorem four_has:HasQ (oneR w4) 4:=HasQ.lit w24_val.2 rfl
def Mi.t (A B:V3):Res:=mulR (oneR w2) (Mi.half A B)
def Mi.u (A B:V3):Res:=mulR (Mi.t A B) (Mi.lean A B)
def Mi.d1 (A B:V3):Res:=mulR A.x B.x
def Mi.d2 (A B:V3):Res:=mulR A.y B.y
def Mi.d3 (A B:V3):Res:=addR (Mi.d1 A B) (Mi.d2 A B)
def Mi.d4 (A B:V3):Res:=mulR A.z B.z
def Mi.d5 (A B:V3):Res:=addR (Mi.d3 A B) (Mi.d4 A B)
def Mi.q (A B:V3):Res:=addR (oneR u1) (Mi.d5 A B)
def Mi.r (A B:V3):Res:=divR (Mi.q A B) (oneR w2)
def Mi.w (A B:V3):Res:=sqrR (Mi.half A B)
structure NI (a b A B:V3):Prop where
 t:In (Mi.t a b) (Mi.t A B)
 u:In (Mi.u a b) (Mi.u A B)
 d1:In (Mi.d1 a b) (Mi.d1 A B)
 d2:In (Mi.d2 a b) (Mi.d2 A B)
 d3:In (Mi.d3 a b) (Mi.d3 A B)
 d4:In (Mi.d4 a b) (Mi.d4 A B)
 d5:In (Mi.d5 a b) (Mi.d5 A B)
 q:In (Mi.q a b) (Mi.q A B)
 r:In (Mi.r a b) (Mi.r A B)
 w:In (Mi.w a b) (Mi.w A B)
section
variable {A B:V3} (iA:InV A dB) (iB:InV B dB)
include iA iB
end
def Mi.v1 (l i o a:Res):Res:=mulR (Gx.D l a) (Gx.w i o a)
def Mi.v2 (i:Res):Res:=mulR (oneR w4) i
def Mi.v3 (i o:Res):Res:=mulR (Mi.v2 i) o
def Mi.val (l i o a:Res):Res:=divR (Mi.v1 l i o a) (Mi.v3 i o)
def Mi.p1 (l o a:Res):Res:=mulR (Gx.v o a) (Gx.D l a)
def Mi.den (l o a:Res):Res:=divR (Mi.p1 l o a) (Mi.v2 o)
def Mi.s1 (l i o a:Res):Res:=mulR (Mi.val l i o a) i
def Mi.s2 (l i o a:Res):Res:=mulR (Mi.s1 l i o a) (Gx.v o a)
def Mi.s3 (l i o a:Res):Res:=mulR (Mi.den l o a) (Gx.w i o a)
structure VI (l i o a L I O A:Res):Prop where
 v1:In (Mi.v1 l i o a) (Mi.v1 L I O A)
 v2:In (Mi.v2 i) (Mi.v2 I)
 v2':In (Mi.v2 o) (Mi.v2 O)
 v3:In (Mi.v3 i o) (Mi.v3 I O)
 val:In (Mi.val l i o a) (Mi.val L I O A)
 p1:In (Mi.p1 l o a) (Mi.p1 L O A)
 den:In (Mi.den l o a) (Mi.den L O A)
 s1:In (Mi.s1 l i o a) (Mi.s1 L I O A)
 s2:In (Mi.s2 l i o a) (Mi.s2 L I O A)
 s3:In (Mi.s3 l i o a) (Mi.s3 L I O A)
theorem v_boxes:(fitB (Mi.v1 cI8 cI8 cI8 aI)&&fitB (Mi.v2 cI8)&&fitB (Mi.v3 cI8 cI8)&&fitB (Mi.val cI8 cI8 cI8 aI)&&fitB (Mi.p1 cI8 cI8 aI)&&fitB (Mi.den cI8 cI8 aI)&&fitB (Mi.s1 cI8 cI8 cI8 aI)&&fitB (Mi.s2 cI8 cI8 cI8 aI)&&fitB (Mi.s3 cI8 cI8 cI8 aI))=true:=by decide +kernel
theorem v_lows:0 < val (Mi.v2 cI8).lo∧0 < val (Mi.v3 cI8 cI8).lo∧0≤val (Mi.val cI8 cI8 cI8 aI).lo∧0≤val (Mi.den cI8 cI8 aI).lo∧0 < val cI8.lo:=by decide +kernel
theorem fst_pos {c:Res} (hc:In c cI8):∃ x:Rat,HasQ c x∧x≠0:=by
 refine ⟨_,HasQ.fst hc.fit,?_⟩;have h:=hc.lo;have p:=v_lows.2.2.2.2
 have n:(0:Rat) < ((val c.lo:Int):Rat):=Rat.intCast_pos.2 (by omega)
 have:=Rat.mul_pos n (Rat.inv_pos.2 ssQ);rw [Rat.div_def]
 grind
section
variable {l i o a:Res} (hl:In l cI8) (hi:In i cI8) (ho:In o cI8) (ha:In a aI)
include hl hi ho ha
theorem vd_in:VI l i o a cI8 cI8 cI8 aI:=by
 have h:=v_boxes;simp only [Bool.and_eq_true] at h;obtain⟨⟨⟨⟨⟨⟨⟨⟨h1,h2⟩,h3⟩,h4⟩,h5⟩,h6⟩,h7⟩,h8⟩,h9⟩:=h;have D:=(g8_in hl ha).D;have W:=w_in hi ho ha;have V:=(l8_in ho ha).v;have v1:In (Mi.v1 l i o a) (Mi.v1 cI8 cI8 cI8 aI):=mul_in D gf_box8.D W w_boxes.2 (Fit.of h1).e;have v2:In (Mi.v2 i) (Mi.v2 cI8):=mul_in (.refl w4_fit) w4_fit hi cI8_fit (Fit.of h2).e;have v2':In (Mi.v2 o) (Mi.v2 cI8):=mul_in (.refl w4_fit) w4_fit ho cI8_fit (Fit.of h2).e;have v3:In (Mi.v3 i o) (Mi.v3 cI8 cI8):=mul_in v2 (.of h2) ho cI8_fit (Fit.of h3).e;have vl:In (Mi.val l i o a) (Mi.val cI8 cI8 cI8 aI):=div_in v1 (.of h1) v3 (.of h3) (Fit.of h4).e;have p1:In (Mi.p1 l o a) (Mi.p1 cI8 cI8 aI):=mul_in V lf_box.v D gf_box8.D (Fit.of h5).e;have dn:In (Mi.den l o a) (Mi.den cI8 cI8 aI):=div_in p1 (.of h5) v2' (.of h2) (Fit.of h6).e;have s1:In (Mi.s1 l i o a) (Mi.s1 cI8 cI8 cI8 aI):=mul_in vl (.of h4) hi cI8_fit (Fit.of h7).e
 exact ⟨v1,v2,v2',v3,vl,p1,dn,s1,mul_in s1 (.of h7) V lf_box.v (Fit.of h8).e,mul_in dn (.of h6) W w_boxes.2 (Fit.of h9).e⟩
theorem value_has {x y d:Rat} (hx:HasQ i x) (hy:HasQ o y) (hd:HasQ (Gx.D l a) d):HasQ (Mi.val l i o a) (d*(1 / (1+lq i a+lq o a)) / (4*x*y))∧HasQ (Mi.den l o a) (1 / (1+lq o a)*d / (4*y)):=by
 have V:=vd_in hl hi ho ha;have D:=(g8_in hl ha).D.fit;have W:=(w_in hi ho ha).fit;obtain⟨p1,p2,_⟩:=v_lows;have v1:=HasQ.mul D W hd (w_has hi ha ho) V.v1.fit.e;have v2:=HasQ.mul w4_fit hi.fit four_has hx V.v2.fit.e;have v2':=HasQ.mul w4_fit ho.fit four_has hy V.v2'.fit.e;have v3:=HasQ.mul V.v2.fit ho.fit v2 hy V.v3.fit.e;have q1:=HasQ.mul (l8_in ho ha).v.fit D (v_has ho ha) hd V.p1.fit.e;exact ⟨HasQ.div V.v1.fit V.v3.fit v1 v3 (by have:=V.v3.lo; omega) V.val.fit.e,HasQ.div V.p1.fit V.v2'.fit q1 v2' (by have:=V.v2'.lo; omega) V.den.fit.e⟩
end
end
section
open Go.RowKit
theorem word_down {s:Nat} {T:Int} {c c':Nat} (h:Down s T c 0) (h':Down s T c' 0):c=c':=by
 obtain⟨c1,c2,c3,c4⟩:=h.ok;obtain⟨d1,d2,d3,d4⟩:=h'.ok;exact val_inj c1 d1 c2 d2 (Int.le_antisymm (d4 c c1 c2 c3) (c4 c' d1 d2 d3))
theorem word_up {s:Nat} {T:Int} {c c':Nat} (h:Up s T c 0) (h':Up s T c' 0):c=c':=by
 obtain⟨c1,c2,c3,c4⟩:=h.ok;obtain⟨d1,d2,d3,d4⟩:=h'.ok;exact val_inj c1 d1 c2 d2 (Int.le_antisymm (c4 c' d1 d2 d3) (d4 c c1 c2 c3))
theorem res_one {r s:Res} (h:r.e=s.e) (h1:r.lo=s.lo) (h2:r.hi=s.hi):r=s:=by
 obtain⟨e,lo,hi⟩:=r;obtain⟨e',lo',hi'⟩:=s;simp only at h h1 h2;rw [h,h1,h2]
theorem add_swap {a b:Res} (fa:Fit a) (fb:Fit b) (h:(addR a b).e=0) (h':(addR b a).e=0):addR b a=addR a b:=by
 obtain⟨d,u⟩:=add_parts fa fb h;obtain⟨d',u'⟩:=add_parts fb fa h';rw [Int.add_comm] at d' u';exact res_one (by rw [h,h']) (word_down d' d) (word_up u' u)
section
variable {A B:V3} (iA:InV A dB) (iB:InV B dB)
include iA iB
theorem half_swap:Mi.half B A=Mi.half A B∧Mi.lean B A=Mi.lean A B:=by
 have K:=(md_in iA iB).fits;have K':=(md_in iB iA).fits;have e1:Mi.sx B A=Mi.sx A B:=add_swap iA.x.fit iB.x.fit K.sx.e K'.sx.e;have e2:Mi.sy B A=Mi.sy A B:=add_swap iA.y.fit iB.y.fit K.sy.e K'.sy.e;have e3:Mi.sz B A=Mi.sz A B:=add_swap iA.z.fit iB.z.fit K.sz.e K'.sz.e
 have e4:Mi.n B A=Mi.n A B:=by
  unfold Mi.n Mi.n5 Mi.n4 Mi.n3 Mi.n2 Mi.n1;rw [e1,e2,e3]
 constructor
 ·unfold Mi.half Mi.h; rw [e4]
 ·unfold Mi.lean Mi.l; rw [e3,e4]
end
theorem z_ends:val zI7.lo=35184372088832*DD∧val 4580160821035794432=70368744177664*DD∧val u1=4503599627370496*DD∧val m1=-(4503599627370496*DD):=by decide +kernel
section
variable {x y z:Nat} (lx:x < 18446744073709551616) (ly:y < 18446744073709551616) (lz:z < 18446744073709551616) (rx:rightB x=true) (ry:rightB y=true) (rz:rightB z=true)
 (x1:val m1≤val x) (x2:val x≤val u1) (y1:val m1≤val y) (y2:val y≤val u1) (z1:val 4580160821035794432≤val z) (z2:val z≤val u1)
include rx ry rz x1 x2 y1 y2 z1 z2
theorem dir_has:hasU x y z=true:=by
 obtain⟨_,e2,e3,e4⟩:=z_ends;have d0:=dd_pos
 have p1:val 4318952042648305664≤val 4580160821035794432∧val u1≤val 4895412794951729152:=by decide +kernel
 obtain⟨a1,a2⟩:=val_side rx;obtain⟨b1,b2⟩:=val_side ry;obtain⟨c1,c2⟩:=val_side rz;obtain⟨_,_,mv⟩:=most_val rx ry rz;unfold hasU leB;simp only [Bool.and_eq_true,decide_eq_true_eq];rw [mv];exact ⟨⟨⟨rx,ry⟩,rz⟩,by omega,by omega⟩
include lx ly lz
theorem dir_in:InV (unitV x y z) dB∧∃ f g h:Nat→Rat,HasS (unitV x y z).x f∧HasS (unitV x y z).y g∧HasS (unitV x y z).z h∧Eqv (fun m=>f m*f m+(g m*g m+h m*h m)) (fun _=>1)∧∀ m,0≤h m:=by
 have hU:=dir_has rx ry rz x1 x2 y1 y2 z1 z2;obtain⟨e1,e2,e3,e4⟩:=z_ends;have d0:=dd_pos;have hS:=ss_dd;obtain⟨F,_,_,_,⟨mx,Mx,px⟩,⟨my,My,py⟩,⟨m,M,pz⟩⟩:=unit_all x y z lx ly lz hU;obtain⟨n0,n1,n2,_⟩:=unit_norm x y z lx ly lz hU;have ix:=one_part px F.x;have iy:=one_part py F.y;have iz:=one_part pz F.z
 have z0:0≤val z:=by omega
 obtain⟨f,g,h,s1,s2,s3,us,nn⟩:=unit_seq lx ly lz hU;refine ⟨⟨ix,iy,?_⟩,f,g,h,s1,s2,s3,us,nn z0⟩
 have q:∀ v:Int,-(4503599627370496*DD)≤v→v≤4503599627370496*DD→v*v≤4503599627370496*DD*(4503599627370496*DD):=fun v h1 h2=>by
  rcases Int.le_total 0 v with t | t
  ·exact mul_self_le t h2
  ·rw [←Int.neg_mul_neg]; exact mul_self_le (by omega) (by omega)
 have kx:=q (val x) (by omega) (by omega);have ky:=q (val y) (by omega) (by omega);have kz:=q (val z) (by omega) (by omega)
 -- the length is below 7 by 4
 have nl:4*val (unitN x y z).lo≤7*(4503599627370496*DD):=by
  refine le_of_self (by omega) ?_
  have t1:4*val (unitN x y z).lo*(4*val (unitN x y z).lo)=16*(val (unitN x y z).lo*val (unitN x y z).lo):=by grind
  have t2:7*(4503599627370496*DD)*(7*(4503599627370496*DD))=49*(4503599627370496*DD*(4503599627370496*DD)):=by grind
  have t3:=self_nonneg (4503599627370496*DD)
  rw [t1,t2]; omega
 have low:35184372088832*DD≤m:=by
  have w:=pz.wide;obtain⟨a,a1,a0,_,a3⟩:=pz.under
  rcases a3 with t | t
  ·rw [hS] at t; omega
  ·have l:=pz.low
   have le:=pz.le
   have ea:70368744177664*DD≤a:=by omega
   -- a SS by n.lo is no more than M
   have t1:4*(a*SS)≤7*M*SS:=by
    have u1:4*(M*val (unitN x y z).lo)≤M*(7*(4503599627370496*DD)):=by
     have:=Int.mul_le_mul_of_nonneg_left nl (show 0≤M by omega)
     have e:M*(4*val (unitN x y z).lo)=4*(M*val (unitN x y z).lo):=by grind
     omega
    rw [←hS] at u1
    have e:M*(7*SS)=7*M*SS:=by grind
    omega
   have t2:4*a≤7*M:=by
    refine Int.le_of_mul_le_mul_right (a:=SS) ?_ (by rw [hS]; omega)
    have e:4*a*SS=4*(a*SS):=by grind
    omega
   omega
 have s:=pz.side;refine ⟨F.z,?_,iz.hi⟩
 show val zI7.lo≤_
 rw [e1]
 have zp:0 < val z:=by omega
 rcases s with ⟨_,t,_⟩ | ⟨t,_,_⟩
 ·rw [t]; exact low
 ·omega
end
end
section
open Go.RowKit
section
variable {V:V3} {f g h:Nat→Rat} (iV:InV V dB) (a1:HasS V.x f) (a2:HasS V.y g) (a3:HasS V.z h)
 (us:Eqv (fun m=>f m*f m+(g m*g m+h m*h m)) fun _=>1) (nn:∀ m,0≤h m)
include iV a1 a2 a3 us nn
end
theorem part_width {x:Nat} {n p:Res} {m M:Int} (h:PartOf x n p m M):val p.hi - val p.lo≤16*DD:=by
 have w:=h.wide
 rcases h.side with ⟨_,a,b⟩ | ⟨_,a,b⟩ <;> rw [a,b] <;> omega
end
section
open Go.RowKit
def w256:Nat:=4643211215818981376
def byW (n:Nat):Nat:=(floatBits .quo .f64 (floatOfInt .f64 (n:Int)) w256).getD 0
def byOk (n:Nat):Bool:=(floatBits .quo .f64 (floatOfInt .f64 (n:Int)) w256 == some (byW n))&&decide (byW n < 18446744073709551616)&&rightB (byW n)&&leB 0 (byW n)&&leB (byW n) u1
theorem by_all:∀ n,n < 256→byOk n=true:=by decide +kernel
theorem by_word {n:Nat} (hn:n < 256):floatBits .quo .f64 (floatOfInt .f64 (n:Int)) w256=some (byW n)∧byW n < 18446744073709551616∧rightB (byW n)=true∧val 0≤val (byW n)∧val (byW n)≤val u1:=by
 have h:=by_all n hn;unfold byOk leB at h;simp only [Bool.and_eq_true,decide_eq_true_eq,beq_iff_eq] at h;exact ⟨h.1.1.1.1,h.1.1.1.2,h.1.1.2,h.1.2,h.2⟩
theorem sub_below {a f:Nat} (la:a < 18446744073709551616) (lf:f < 18446744073709551616) (ra:rightB a=true) (rf:rightB f=true) (f0:0≤val f) (f1:val f≤SS) (h1:-SS≤val a) :
  ∃ r,floatBits .sub .f64 a f=some r∧r < 18446744073709551616∧rightB r=true∧val r≤val a:=by
 rcases Int.lt_or_le (val a) (val f) with g | g
 ·have e1:val 9223372036854775809=-1:=by decide +kernel
  have e2:val 13835058055282163712=-(2*SS):=by decide +kernel
  obtain⟨r,k1,k2⟩:=sub_beside a f la lf ra rf;obtain⟨n1,n2,_,n4⟩:=near_between (x0:=13835058055282163712) (y0:=9223372036854775809) (by decide) (sub_down a f ra rf) (sub_up a f ra rf) k2 (by decide) (by decide) (by rw [e2]; omega) (by decide) (by decide) (by rw [e1]; omega);obtain⟨_,_,_,m4⟩:=near_between (x0:=13835058055282163712) (y0:=a) (by decide) (sub_down a f ra rf) (sub_up a f ra rf) k2 (by decide) (by decide) (by rw [e2]; omega) la ra (by omega);exact ⟨r,k1,n1,word_neg (by rw [e1] at n4; omega) n2,m4⟩
 ·obtain⟨r,k1,k2,k3,_,k5⟩:=sub_all la lf ra rf g (y0:=a) la ra (by omega)
  exact ⟨r,k1,k2,k3,k5⟩
theorem widen_words {a:Res} {L f:Nat} (fa:Fit a) (lL:L < 18446744073709551616) (rL:rightB L=true) (m:-SS≤val L) (h1:val L≤val a.lo) (h2:val a.hi≤val u1) (lf:f < 18446744073709551616) (rf:rightB f=true) (f0:0≤val f) (f1:val f≤SS) :
  ∃ r s:Nat,floatBits .sub .f64 a.lo f=some r∧floatBits .add .f64 a.hi f=some s∧r < 18446744073709551616∧s < 18446744073709551616∧rightB r=true∧rightB s=true ∧
   In ⟨0,if (FloatKind.f64.format.order r L == some Ordering.lt)=true then L else r,if (FloatKind.f64.format.order s u1 == some Ordering.gt)=true then u1 else s⟩ ⟨0,L,u1⟩ ∧
   In a ⟨0,if (FloatKind.f64.format.order r L == some Ordering.lt)=true then L else r,if (FloatKind.f64.format.order s u1 == some Ordering.gt)=true then u1 else s⟩:=by
 have us:val u1=SS:=by decide +kernel
 have u2:val w2=2*SS:=w24_val.1;have le:=fa.le;obtain⟨r,r1,r2,r3,r4⟩:=sub_below fa.lo lf fa.rlo rf f0 f1 (by omega);obtain⟨s,s1,s2,s3,s4,s5⟩:=add_all fa.hi lf fa.rhi rf f0 (y0:=w2) (by decide) (by decide) (by rw [u2]; omega);refine ⟨r,s,r1,s1,r2,s2,r3,s3,?_⟩
 obtain⟨x,hx,x1,x2,x3,x4⟩:∃ x,x=(if (FloatKind.f64.format.order r L == some Ordering.lt)=true then L else r)∧x < 18446744073709551616∧rightB x=true∧val L≤val x∧val x≤val a.lo:=by
  refine ⟨_,rfl,?_⟩;rw [order_lt r L r2 lL r3 rL]
  by_cases g:val r < val L
  ·rw [decide_eq_true g,if_pos rfl]; exact ⟨lL,rL,Int.le_refl _,h1⟩
  ·rw [decide_eq_false g,if_neg Bool.false_ne_true]; exact ⟨r2,r3,by omega,r4⟩
 obtain⟨y,hy,y1,y2,y3,y4⟩:∃ y,y=(if (FloatKind.f64.format.order s u1 == some Ordering.gt)=true then u1 else s)∧y < 18446744073709551616∧rightB y=true∧val a.hi≤val y∧val y≤val u1:=by
  refine ⟨_,rfl,?_⟩;rw [order_gt s u1 s2 (by decide) s3 (by decide)]
  by_cases g:val u1 < val s
  ·rw [decide_eq_true g,if_pos rfl]; exact ⟨by decide,by decide,h2,Int.le_refl _⟩
  ·rw [decide_eq_false g,if_neg Bool.false_ne_true]; exact ⟨s2,s3,s4,by omega⟩
 rw [←hx,←hy];have F:Fit ⟨0,x,y⟩:=⟨rfl,x1,y1,by show ivR x y=true; unfold ivR leB; rw [x2,y2,decide_eq_true (by omega)]; rfl⟩;exact ⟨⟨F,x3,y4⟩,⟨fa,x4,y3⟩⟩
theorem mf_steps {A B:V3} (fA:FitV A) (fB:FitV B) (e1:(Mi.sx A B).e=0) (e2:(Mi.sy A B).e=0) (e3:(Mi.sz A B).e=0) (e4:(Mi.n1 A B).e=0) (e5:(Mi.n2 A B).e=0) (e6:(Mi.n3 A B).e=0) (e7:(Mi.n4 A B).e=0) (e8:(Mi.n5 A B).e=0) (e9:(Mi.n A B).e=0) (e10:(Mi.h A B).e=0) (e11:(Mi.l A B).e=0):MF A B:=by
 have sx:Fit (Mi.sx A B):=add_fit fA.x fB.x e1;have sy:Fit (Mi.sy A B):=add_fit fA.y fB.y e2;have sz:Fit (Mi.sz A B):=add_fit fA.z fB.z e3;have n1:Fit (Mi.n1 A B):=sqr_fit sx e4;have n2:Fit (Mi.n2 A B):=sqr_fit sy e5;have n3:Fit (Mi.n3 A B):=add_fit n1 n2 e6;have n4:Fit (Mi.n4 A B):=sqr_fit sz e7;have n5:Fit (Mi.n5 A B):=add_fit n3 n4 e8;have n:Fit (Mi.n A B):=HasQ.root_fit n5 e9;exact ⟨sx,sy,sz,n1,n2,n3,n4,n5,n,(mul_in (.refl uh_fit) uh_fit (.refl n) n e10).fit,(div_in (.refl sz) sz (.refl n) n e11).fit⟩
theorem lean_in {a b A B:V3} (K:MF A B) (fA:FitV A) (fB:FitV B) (ia:InV a A) (ib:InV b B):In (Mi.lean a b) (Mi.lean A B)∧In (Mi.half a b) (Mi.half A B):=by
 have I:=mi_of K fA fB ia ib;exact ⟨clamp_in I.l K.l,clamp_in I.h K.h⟩
theorem lean_u {A B:V3} (K:MF A B):In (Mi.lean A B) ouI∧In (Mi.half A B) ouI:=by
 have z0:val 0=0:=by decide +kernel
 have us:val u1=SS:=by decide +kernel
 have o1:val ouI.lo=0∧val ouI.hi=val u1:=by decide +kernel
 have s0:=SS0
 have key:∀ r:Res,Fit r→In (clampR r) ouI:=fun r f=>by
  obtain⟨_,_,c3⟩:=clamp_facts f.lo f.rlo;obtain⟨_,_,d3⟩:=clamp_facts f.hi f.rhi;refine ⟨clamp_fit f,?_,?_⟩
  ·rw [o1.1,show (clampR r).lo=clampW r.lo by simp only [clampR]]; omega
  ·rw [o1.2,show (clampR r).hi=clampW r.hi by simp only [clampR]]; omega
 exact ⟨key _ K.l,key _ K.h⟩
structure VF (l i o a:Res):Prop where
 D:Fit (Gx.D l a)
 w:Fit (Gx.w i o a)
 v:Fit (Gx.v o a)
 v1:Fit (Mi.v1 l i o a)
 v2:Fit (Mi.v2 i)
 v2':Fit (Mi.v2 o)
 v3:Fit (Mi.v3 i o)
 val:Fit (Mi.val l i o a)
 p1:Fit (Mi.p1 l o a)
 den:Fit (Mi.den l o a)
theorem vf_steps {l i o a:Res} (fi:Fit i) (fo:Fit o) (D:Fit (Gx.D l a)) (w:Fit (Gx.w i o a)) (v:Fit (Gx.v o a)) (e1:(Mi.v1 l i o a).e=0) (e2:(Mi.v2 i).e=0) (e2':(Mi.v2 o).e=0) (e3:(Mi.v3 i o).e=0) (e4:(Mi.val l i o a).e=0) (e5:(Mi.p1 l o a).e=0) (e6:(Mi.den l o a).e=0):VF l i o a:=by
 have v1:Fit (Mi.v1 l i o a):=(mul_in (.refl D) D (.refl w) w e1).fit;have v2:Fit (Mi.v2 i):=(mul_in (.refl w4_fit) w4_fit (.refl fi) fi e2).fit;have v2':Fit (Mi.v2 o):=(mul_in (.refl w4_fit) w4_fit (.refl fo) fo e2').fit;have v3:Fit (Mi.v3 i o):=(mul_in (.refl v2) v2 (.refl fo) fo e3).fit;have p1:Fit (Mi.p1 l o a):=(mul_in (.refl v) v (.refl D) D e5).fit;exact ⟨D,w,v,v1,v2,v2',v3,(div_in (.refl v1) v1 (.refl v3) v3 e4).fit,p1,(div_in (.refl p1) p1 (.refl v2') v2' e6).fit⟩
theorem look_in {l i o a L I O A:Res} (K:VF L I O A) (fI:Fit I) (fO:Fit O) (hi:In i I) (ho:In o O) (dD:In (Gx.D l a) (Gx.D L A)) (dw:In (Gx.w i o a) (Gx.w I O A)) (dv:In (Gx.v o a) (Gx.v O A)) :
  VF l i o a∧In (Mi.val l i o a) (Mi.val L I O A)∧In (Mi.den l o a) (Mi.den L O A):=by
 have v1:In (Mi.v1 l i o a) (Mi.v1 L I O A):=mul_in dD K.D dw K.w K.v1.e;have v2:In (Mi.v2 i) (Mi.v2 I):=mul_in (.refl w4_fit) w4_fit hi fI K.v2.e;have v2':In (Mi.v2 o) (Mi.v2 O):=mul_in (.refl w4_fit) w4_fit ho fO K.v2'.e;have v3:In (Mi.v3 i o) (Mi.v3 I O):=mul_in v2 K.v2 ho fO K.v3.e;have vl:In (Mi.val l i o a) (Mi.val L I O A):=div_in v1 K.v1 v3 K.v3 K.val.e;have p1:In (Mi.p1 l o a) (Mi.p1 L O A):=mul_in dv K.v dD K.D K.p1.e;have dn:In (Mi.den l o a) (Mi.den L O A):=div_in p1 K.p1 v2' K.v2' K.den.e;exact ⟨⟨dD.fit,dw.fit,dv.fit,v1.fit,v2.fit,v2'.fit,v3.fit,vl.fit,p1.fit,dn.fit⟩,vl,dn⟩
end
section
open Go.RowKit
def pdU:V3:=⟨⟨0,m1,u1⟩,⟨0,m1,u1⟩,ouI⟩
theorem pdU_fit:FitV pdU:=⟨.of (by decide +kernel),.of (by decide +kernel),.of (by decide +kernel)⟩
theorem InV.fp {A B:V3} (h:InV A B):FitV A:=⟨h.x.fit,h.y.fit,h.z.fit⟩
structure DotF (A B:V3):Prop where
 d1:Fit (Mi.d1 A B)
 d2:Fit (Mi.d2 A B)
 d3:Fit (Mi.d3 A B)
 d4:Fit (Mi.d4 A B)
 d5:Fit (Mi.d5 A B)
structure DotI (a b A B:V3):Prop where
 d1:In (Mi.d1 a b) (Mi.d1 A B)
 d2:In (Mi.d2 a b) (Mi.d2 A B)
 d3:In (Mi.d3 a b) (Mi.d3 A B)
 d4:In (Mi.d4 a b) (Mi.d4 A B)
 d5:In (Mi.d5 a b) (Mi.d5 A B)
theorem dot_box:DotF pdU pdU:=⟨.of (by decide +kernel),.of (by decide +kernel),.of (by decide +kernel),.of (by decide +kernel),.of (by decide +kernel)⟩
theorem dot_in {a b A B:V3} (K:DotF A B) (fA:FitV A) (fB:FitV B) (ia:InV a A) (ib:InV b B):DotI a b A B:=by
 have d1:In (Mi.d1 a b) (Mi.d1 A B):=mul_in ia.x fA.x ib.x fB.x K.d1.e;have d2:In (Mi.d2 a b) (Mi.d2 A B):=mul_in ia.y fA.y ib.y fB.y K.d2.e;have d3:In (Mi.d3 a b) (Mi.d3 A B):=add_in d1 K.d1 d2 K.d2 K.d3.e;have d4:In (Mi.d4 a b) (Mi.d4 A B):=mul_in ia.z fA.z ib.z fB.z K.d4.e;exact ⟨d1,d2,d3,d4,add_in d3 K.d3 d4 K.d4 K.d5.e⟩
theorem DotI.fits {a b A B:V3} (h:DotI a b A B):DotF a b:=⟨h.d1.fit,h.d2.fit,h.d3.fit,h.d4.fit,h.d5.fit⟩
def Pa.t (A B:V3):Res:=edgeR (Mi.d5 A B)
section
variable {A B:V3} (iA:InV A pdU) (iB:InV B pdU)
include iA iB
theorem dot_fits:DotF A B:=(dot_in dot_box pdU_fit pdU_fit iA iB).fits
theorem pt_in:In (Pa.t A B) oeI:=edge_unit (dot_fits iA iB).d5
theorem pa_dirs:Dirs A.z B.z (Pa.t A B):=⟨iA.z,iB.z,pt_in iA iB⟩
end
theorem pt_part {a b A B:V3} (iA:InV A pdU) (iB:InV B pdU) (ia:InV a A) (ib:InV b B):In (Pa.t a b) (Pa.t A B):=
 edge_in (dot_in (dot_fits iA iB) iA.fp iB.fp ia ib).d5 (dot_fits iA iB).d5
theorem share_boxes:Fit (mulR (Mi.val cI8 cI8 cI8 aI) unitR)∧0≤val (mulR (Mi.val cI8 cI8 cI8 aI) unitR).lo∧0 < val (Mi.den cI8 cI8 aI).lo∧0 < val (valueR zI7).lo∧Fit (valueR ouI):=⟨.of (by decide +kernel),by decide +kernel,by decide +kernel,by decide +kernel,.of (by decide +kernel)⟩
section
variable {l i o a f:Res} (hl:In l cI8) (hi:In i cI8) (ho:In o cI8) (ha:In a aI) (hf:In f unitR)
include hl hi ho ha hf
theorem sent_in:In (mulR (Mi.val l i o a) f) (mulR (Mi.val cI8 cI8 cI8 aI) unitR):=by
 have V:=vd_in hl hi ho ha;have h:=v_boxes;simp only [Bool.and_eq_true] at h;exact mul_in V.val (.of h.1.1.1.1.1.2) hf unit_fit share_boxes.1.e
theorem sent_meets:val (mulR (Mi.val l i o a) f).lo≤val (mulR (Mi.val l o i a) f).hi∧val (mulR (Mi.val l o i a) f).lo≤val (mulR (Mi.val l i o a) f).hi:=by
 have V:=vd_in hl hi ho ha;have V':=vd_in hl ho hi ha;obtain⟨x,hx,_⟩:=fst_pos hi;obtain⟨y,hy,_⟩:=fst_pos ho;have hd:=HasQ.fst (g8_in hl ha).D.fit;have k1:=(value_has hl hi ho ha hx hy hd).1;have k2:=(value_has hl ho hi ha hy hx hd).1;rw [show 1+lq o a+lq i a=1+lq i a+lq o a by grind,show 4*y*x=4*x*y by grind] at k2;have g:=HasQ.fst hf.fit;have p1:=HasQ.mul V.val.fit hf.fit k1 g (sent_in hl hi ho ha hf).fit.e;have p2:=HasQ.mul V'.val.fit hf.fit k2 g (sent_in hl ho hi ha hf).fit.e;exact ⟨has_le p1 p2 Rat.le_refl,has_le p2 p1 Rat.le_refl⟩
end
end
section
open Go.RowKit
def hI7:Res:=⟨0,4575657221408423936,u1⟩
theorem hI7_fit:Fit hI7:=.of (by decide +kernel)
theorem hI7_in:In hI7 bigC:=⟨hI7_fit,by decide +kernel,by decide +kernel⟩
theorem half_low:val hI7.lo≤val (Mi.half dB dB).lo∧val (Mi.half dB dB).hi≤val hI7.hi:=by decide +kernel
theorem half_h7 {A B:V3} (iA:InV A dB) (iB:InV B dB):In (Mi.half A B) hI7:=by
 have h:=clamp_in (md_in iA iB).h mf_box.h;exact ⟨h.fit,Int.le_trans half_low.1 h.lo,Int.le_trans h.hi half_low.2⟩
section
variable {c n C N:Res} (hc:In C bigC) (hn:In N bigN)
include hc hn
theorem di_fits:Di.Fits C N:=(Di.parts Di.big hc hn).fits hc.fit hn.fit
theorem di_unit:In (Di.out C N) unitR:=clamp_unit (di_fits hc hn).f'
theorem di_part (ic:In c C) (in':In n N):In (Di.out c n) (Di.out C N):=clamp_in (Di.parts (di_fits hc hn) ic in').f' (di_fits hc hn).f'
end
section
variable {c h k C H K:Res} (hc:In C bigC) (hh:In H bigM) (hk:In K bigM)
include hc hh hk
theorem co_fits:Co.Fits C H K:=(Co.parts Co.big hc hh hk).fits hc.fit hh.fit hk.fit
theorem co_unit (he:(Co.r33 C H K).e=0):In (Co.f C H K) unitR:=by
 have D:=co_fits hc hh hk;have u:=clamp_unit D.r27';have L:=D.last he;have j3:In (Co.rp C H K) unitR:=clamp_unit L.m34';have j4:In (Co.a36 C H K) (addR unitR unitR):=add_in u unit_fit j3 unit_fit (by decide +kernel);have j5:In (Co.f C H K) (mulR (oneR 4602678819172646912) (addR unitR unitR)):=mul_in (.refl (one_fit (by decide) (by decide))) (one_fit (by decide) (by decide)) j4 (.of (by decide +kernel)) (by decide +kernel)
 have e:val unitR.lo≤val (mulR (oneR 4602678819172646912) (addR unitR unitR)).lo∧val (mulR (oneR 4602678819172646912) (addR unitR unitR)).hi≤val unitR.hi:=by decide +kernel
 exact ⟨j5.fit,Int.le_trans e.1 j5.lo,Int.le_trans j5.hi e.2⟩
theorem co_part (ic:In c C) (ih:In h H) (ik:In k K) (he:(Co.r33 C H K).e=0):(Co.r33 c h k).e=0∧In (Co.f c h k) (Co.f C H K):=
 Co.last_in (co_fits hc hh hk) (Co.parts (co_fits hc hh hk) ic ih ik) he
end
end
section
open Go.RowKit
def Pa.lam (r:Res):Res:=valueR r
def Pa.oren (r s:Res) (A B:V3):Res:=Or.val r s (Or.slope A.z B.z (Pa.t A B))
def Pa.pl (a n:Res) (A B:V3):Res:=mulR (Mi.val (Mi.lean A B) A.z B.z a) (Di.out (Mi.half A B) n)
def Pa.me (a h k:Res) (A B:V3):Res:=mulR (Mi.val (Mi.lean A B) A.z B.z a) (Co.f (Mi.half A B) h k)
theorem dB_c8 {A:V3} (h:InV A dB):In A.z cI8:=⟨h.z.fit,Int.le_trans (by decide +kernel:val cI8.lo≤val zI7.lo) h.z.lo,h.z.hi⟩
theorem plam_box:Fit (valueR ouI)∧0≤val (valueR ouI).lo∧Fit (valueR zI7)∧Fit zI7:=⟨.of (by decide +kernel),by decide +kernel,.of (by decide +kernel),.of (by decide +kernel)⟩
theorem lam_leaf {r:Res} (hr:In r ouI):Fit (Pa.lam r)∧0≤val (Pa.lam r).lo:=by
 have i:In (valueR r) (valueR ouI):=div_in hr ou_fit (.refl big_fit.1) big_fit.1 plam_box.1.e;have l:=i.lo;have z:=plam_box.2.1;exact ⟨i.fit,by unfold Pa.lam; omega⟩
theorem oren_fit {r s:Res} {A B:V3} (hr:In r ouI) (hs:In s ouI) (iA:InV A pdU) (iB:InV B pdU) (he:(Or.st A.z B.z (Pa.t A B)).e=0):In (Pa.oren r s A B) unitR:=
 clamp_unit (val_fits hr hs (edge_unit (st_fit (pa_dirs iA iB) he))).l.fit
section
variable {A B:V3} (iA:InV A dB) (iB:InV B dB)
include iA iB
theorem mirror_leaf {a f:Res} (ha:In a aI) (hf:In f unitR) :
  (Fit (mulR (Mi.val (Mi.lean A B) A.z B.z a) f)∧Fit (mulR (Mi.val (Mi.lean A B) B.z A.z a) f))∧0≤val (mulR (Mi.val (Mi.lean A B) A.z B.z a) f).lo ∧
  (val (mulR (Mi.val (Mi.lean A B) A.z B.z a) f).lo≤val (mulR (Mi.val (Mi.lean A B) B.z A.z a) f).hi∧val (mulR (Mi.val (Mi.lean A B) B.z A.z a) f).lo≤val (mulR (Mi.val (Mi.lean A B) A.z B.z a) f).hi):=by
 have hl:=lean_c8 iA iB;have i1:=sent_in hl (dB_c8 iA) (dB_c8 iB) ha hf;have i2:=sent_in hl (dB_c8 iB) (dB_c8 iA) ha hf;have l:=i1.lo;have z:=share_boxes.2.1;exact ⟨⟨i1.fit,i2.fit⟩,by omega,sent_meets hl (dB_c8 iA) (dB_c8 iB) ha hf⟩
theorem pl_leaf {a n:Res} (ha:In a aI) (hn:In n bigN):(Fit (Pa.pl a n A B)∧Fit (Pa.pl a n B A))∧0≤val (Pa.pl a n A B).lo∧(val (Pa.pl a n A B).lo≤val (Pa.pl a n B A).hi∧val (Pa.pl a n B A).lo≤val (Pa.pl a n A B).hi):=by
 obtain⟨e1,e2⟩:=half_swap iA iB;have f:In (Di.out (Mi.half A B) n) unitR:=di_unit ((half_h7 iA iB).fit |> fun ff=>⟨ff,Int.le_trans hI7_in.lo (half_h7 iA iB).lo,Int.le_trans (half_h7 iA iB).hi hI7_in.hi⟩) hn;unfold Pa.pl;rw [e1,e2];exact mirror_leaf iA iB ha f
theorem den_leaf {a:Res} (ha:In a aI):Fit (Mi.den (Mi.lean A B) B.z a)∧0 < val (Mi.den (Mi.lean A B) B.z a).lo:=by
 have V:=vd_in (lean_c8 iA iB) (dB_c8 iA) (dB_c8 iB) ha;have l:=V.den.lo;have z:=share_boxes.2.2.1;exact ⟨V.den.fit,by omega⟩
end
theorem oren_part {r s:Res} {a b A B:V3} (hr:In r ouI) (hs:In s ouI) (iA:InV A pdU) (iB:InV B pdU) (ia:InV a A) (ib:InV b B) (he:(Or.st A.z B.z (Pa.t A B)).e=0) :
  (Or.st a.z b.z (Pa.t a b)).e=0∧In (Pa.oren r s a b) (Pa.oren r s A B):=by
 have D:=pa_dirs iA iB;obtain⟨e,i⟩:=st_in D ia.z ib.z (pt_part iA iB ia ib) he;have T:=edge_unit (st_fit D he);have t:In (Or.slope a.z b.z (Pa.t a b)) (Or.slope A.z B.z (Pa.t A B)):=edge_in i (st_fit D he);exact ⟨e,clamp_in (val_parts hr hs T (.refl hr.fit) (.refl hs.fit) t).l (val_fits hr hs T).l.fit⟩
theorem pend_lo {a A:Res} (i:In a A):In (oneR a.lo) A:=⟨one_fit i.fit.lo i.fit.rlo,i.lo,Int.le_trans i.fit.le i.hi⟩
end
section
open Go.RowKit
attribute [local go_sem] run_store_float
theorem widen_00 {al ah f ls r s zr zs:Nat} (w:World)
  (q_r:(∀ w,(binOp .sub 25 (al:Value) (f:Value)).run Tryz.prog w = .ok (r:Value) w))
  (q_s:(∀ w,(binOp .add 25 (ah:Value) (f:Value)).run Tryz.prog w = .ok (s:Value) w))
  (o_lssr_ls:((FloatKind.f64.format.order r ls == some Ordering.lt)=false))
  (o_gtrs_418800017408:((FloatKind.f64.format.order s 4607182418800017408 == some Ordering.gt)=false))
  (q_zr:(∀ w,(binOp .add 25 (r:Value) (.float .f64 0)).run Tryz.prog w = .ok (zr:Value) w))
  (q_zs:(∀ w,(binOp .add 25 (s:Value) (.float .f64 0)).run Tryz.prog w = .ok (zs:Value) w)) :
  Calls Tryz.prog 22 #[.agg #[al,ah],f,ls] w (Rt (.agg #[zr,zs]) w):=by
 have M:=Hd (((Own.nil w).made #[al,ah] 31).made #[(),()] 31);simp only [World.size_alloc] at M;have eqF:=eq_floats;go_enter Tryz.func22,Tryz.ntmps22;go_upto_region 1 with fail;replace M:=Hd M.o.drew;revert M;generalize ((w.alloc (.cells #[al,ah] 31)).alloc (.cells #[(),()] 31))=W0_;intro M;refine wp_region_noPanic ?_;refine tails_region (S:=fun w'=>(Cf w' w.heap.size 0 al∧Cf w' w.heap.size 1 ah)) [] (by kernel_rfl) ?_ (fun hS=>?_)
 ·exact (M.o.nth 1 rfl).two
 revert hS M;generalize W0_.drew=V_;intro M hS;refine tq 0 hS ?_;refine tq 1 hS ?_;refine tq 2 hS ?_;refine tq 3 hS ?_;refine tq 4 hS ?_;refine tq 5 hS ?_;refine tq 6 hS ?_;refine tq 7 hS ?_
 conv=>arg 9; simp only [Act.put,go_sem]
 refine tn [] 8 fun K hK=>?_
 go_simp;refine hK.out _ _ (Or.inr (M.o.nth 1 rfl).two) (fun hHeld=>?_);clear hK K hHeld
 refine tn [] 9 fun K hK=>?_
 go_simp;refine hK.out _ _ (Or.inr (M.o.nth 1 rfl).two) (fun hHeld=>?_);clear hK K hHeld;refine tails_done (by kernel_rfl) ?_ _;refine NoPanic.normal ?_;clear hS;have kc:=(M.o.nth 0 rfl).2.1;have kf:=(M.o.nth 0 rfl).2.2;replace M:=Hd (M.o.set2 0 rfl zr zs);dsimp only [List.set] at M;go_wp2;obtain⟨f1,f2⟩:=(M.o.nth 0 rfl).two;exact bodyPost_ret (v:=.agg #[.float .f64 zr,.float .f64 zs]) (by simp [results,Tryz.results22,go_sem,f1,f2]) rfl ⟨rfl,M.o.base⟩
theorem widen_01 {al ah f ls r s zr zs:Nat} (w:World)
  (q_r:(∀ w,(binOp .sub 25 (al:Value) (f:Value)).run Tryz.prog w = .ok (r:Value) w))
  (q_s:(∀ w,(binOp .add 25 (ah:Value) (f:Value)).run Tryz.prog w = .ok (s:Value) w))
  (o_lssr_ls:((FloatKind.f64.format.order r ls == some Ordering.lt)=false))
  (o_gtrs_418800017408:((FloatKind.f64.format.order s 4607182418800017408 == some Ordering.gt)=true))
  (q_zr:(∀ w,(binOp .add 25 (r:Value) (.float .f64 0)).run Tryz.prog w = .ok (zr:Value) w))
  (q_zs:(∀ w,(binOp .add 25 (.float .f64 4607182418800017408) (.float .f64 0)).run Tryz.prog w = .ok (zs:Value) w)) :
  Calls Tryz.prog 22 #[.agg #[al,ah],f,ls] w (Rt (.agg #[zr,zs]) w):=by
 have M:=Hd (((Own.nil w).made #[al,ah] 31).made #[(),()] 31);simp only [World.size_alloc] at M;have eqF:=eq_floats;go_enter Tryz.func22,Tryz.ntmps22;go_upto_region 1 with fail;replace M:=Hd M.o.drew;revert M;generalize ((w.alloc (.cells #[al,ah] 31)).alloc (.cells #[(),()] 31))=W0_;intro M;refine wp_region_noPanic ?_;refine tails_region (S:=fun w'=>(Cf w' w.heap.size 0 al∧Cf w' w.heap.size 1 ah)) [] (by kernel_rfl) ?_ (fun hS=>?_)
 ·exact (M.o.nth 1 rfl).two
 revert hS M;generalize W0_.drew=V_;intro M hS;refine tq 0 hS ?_;refine tq 1 hS ?_;refine tq 2 hS ?_;refine tq 3 hS ?_;refine tq 4 hS ?_;refine tq 5 hS ?_;refine tq 6 hS ?_;refine tq 7 hS ?_
 conv=>arg 9; simp only [Act.put,go_sem]
 refine tn [] 8 fun K hK=>?_
 go_simp;refine hK.out _ _ (Or.inr (M.o.nth 1 rfl).two) (fun hHeld=>?_);clear hK K hHeld
 refine tn [] 9 fun K hK=>?_
 go_simp;refine hK.out _ _ (Or.inr (M.o.nth 1 rfl).two) (fun hHeld=>?_);clear hK K hHeld;refine tails_done (by kernel_rfl) ?_ _;refine NoPanic.normal ?_;clear hS;have kc:=(M.o.nth 0 rfl).2.1;have kf:=(M.o.nth 0 rfl).2.2;replace M:=Hd (M.o.set2 0 rfl zr zs);dsimp only [List.set] at M;go_wp2;obtain⟨f1,f2⟩:=(M.o.nth 0 rfl).two;exact bodyPost_ret (v:=.agg #[.float .f64 zr,.float .f64 zs]) (by simp [results,Tryz.results22,go_sem,f1,f2]) rfl ⟨rfl,M.o.base⟩
theorem widen_10 {al ah f ls r s zr zs:Nat} (w:World)
  (q_r:(∀ w,(binOp .sub 25 (al:Value) (f:Value)).run Tryz.prog w = .ok (r:Value) w))
  (q_s:(∀ w,(binOp .add 25 (ah:Value) (f:Value)).run Tryz.prog w = .ok (s:Value) w))
  (o_lssr_ls:((FloatKind.f64.format.order r ls == some Ordering.lt)=true))
  (o_gtrs_418800017408:((FloatKind.f64.format.order s 4607182418800017408 == some Ordering.gt)=false))
  (q_zr:(∀ w,(binOp .add 25 (ls:Value) (.float .f64 0)).run Tryz.prog w = .ok (zr:Value) w))
  (q_zs:(∀ w,(binOp .add 25 (s:Value) (.float .f64 0)).run Tryz.prog w = .ok (zs:Value) w)) :
  Calls Tryz.prog 22 #[.agg #[al,ah],f,ls] w (Rt (.agg #[zr,zs]) w):=by
 have M:=Hd (((Own.nil w).made #[al,ah] 31).made #[(),()] 31);simp only [World.size_alloc] at M;have eqF:=eq_floats;go_enter Tryz.func22,Tryz.ntmps22;go_upto_region 1 with fail;replace M:=Hd M.o.drew;revert M;generalize ((w.alloc (.cells #[al,ah] 31)).alloc (.cells #[(),()] 31))=W0_;intro M;refine wp_region_noPanic ?_;refine tails_region (S:=fun w'=>(Cf w' w.heap.size 0 al∧Cf w' w.heap.size 1 ah)) [] (by kernel_rfl) ?_ (fun hS=>?_)
 ·exact (M.o.nth 1 rfl).two
 revert hS M;generalize W0_.drew=V_;intro M hS;refine tq 0 hS ?_;refine tq 1 hS ?_;refine tq 2 hS ?_;refine tq 3 hS ?_;refine tq 4 hS ?_;refine tq 5 hS ?_;refine tq 6 hS ?_;refine tq 7 hS ?_
 conv=>arg 9; simp only [Act.put,go_sem]
 refine tn [] 8 fun K hK=>?_
 go_simp;refine hK.out _ _ (Or.inr (M.o.nth 1 rfl).two) (fun hHeld=>?_);clear hK K hHeld
 refine tn [] 9 fun K hK=>?_
 go_simp;refine hK.out _ _ (Or.inr (M.o.nth 1 rfl).two) (fun hHeld=>?_);clear hK K hHeld;refine tails_done (by kernel_rfl) ?_ _;refine NoPanic.normal ?_;clear hS;have kc:=(M.o.nth 0 rfl).2.1;have kf:=(M.o.nth 0 rfl).2.2;replace M:=Hd (M.o.set2 0 rfl zr zs);dsimp only [List.set] at M;go_wp2;obtain⟨f1,f2⟩:=(M.o.nth 0 rfl).two;exact bodyPost_ret (v:=.agg #[.float .f64 zr,.float .f64 zs]) (by simp [results,Tryz.results22,go_sem,f1,f2]) rfl ⟨rfl,M.o.base⟩
theorem widen_11 {al ah f ls r s zr zs:Nat} (w:World)
  (q_r:(∀ w,(binOp .sub 25 (al:Value) (f:Value)).run Tryz.prog w = .ok (r:Value) w))
  (q_s:(∀ w,(binOp .add 25 (ah:Value) (f:Value)).run Tryz.prog w = .ok (s:Value) w))
  (o_lssr_ls:((FloatKind.f64.format.order r ls == some Ordering.lt)=true))
  (o_gtrs_418800017408:((FloatKind.f64.format.order s 4607182418800017408 == some Ordering.gt)=true))
  (q_zr:(∀ w,(binOp .add 25 (ls:Value) (.float .f64 0)).run Tryz.prog w = .ok (zr:Value) w))
  (q_zs:(∀ w,(binOp .add 25 (.float .f64 4607182418800017408) (.float .f64 0)).run Tryz.prog w = .ok (zs:Value) w)) :
  Calls Tryz.prog 22 #[.agg #[al,ah],f,ls] w (Rt (.agg #[zr,zs]) w):=by
 have M:=Hd (((Own.nil w).made #[al,ah] 31).made #[(),()] 31);simp only [World.size_alloc] at M;have eqF:=eq_floats;go_enter Tryz.func22,Tryz.ntmps22;go_upto_region 1 with fail;replace M:=Hd M.o.drew;revert M;generalize ((w.alloc (.cells #[al,ah] 31)).alloc (.cells #[(),()] 31))=W0_;intro M;refine wp_region_noPanic ?_;refine tails_region (S:=fun w'=>(Cf w' w.heap.size 0 al∧Cf w' w.heap.size 1 ah)) [] (by kernel_rfl) ?_ (fun hS=>?_)
 ·exact (M.o.nth 1 rfl).two
 revert hS M;generalize W0_.drew=V_;intro M hS;refine tq 0 hS ?_;refine tq 1 hS ?_;refine tq 2 hS ?_;refine tq 3 hS ?_;refine tq 4 hS ?_;refine tq 5 hS ?_;refine tq 6 hS ?_;refine tq 7 hS ?_
 conv=>arg 9; simp only [Act.put,go_sem]
 refine tn [] 8 fun K hK=>?_
 go_simp;refine hK.out _ _ (Or.inr (M.o.nth 1 rfl).two) (fun hHeld=>?_);clear hK K hHeld
 refine tn [] 9 fun K hK=>?_
 go_simp;refine hK.out _ _ (Or.inr (M.o.nth 1 rfl).two) (fun hHeld=>?_);clear hK K hHeld;refine tails_done (by kernel_rfl) ?_ _;refine NoPanic.normal ?_;clear hS;have kc:=(M.o.nth 0 rfl).2.1;have kf:=(M.o.nth 0 rfl).2.2;replace M:=Hd (M.o.set2 0 rfl zr zs);dsimp only [List.set] at M;go_wp2;obtain⟨f1,f2⟩:=(M.o.nth 0 rfl).two;exact bodyPost_ret (v:=.agg #[.float .f64 zr,.float .f64 zs]) (by simp [results,Tryz.results22,go_sem,f1,f2]) rfl ⟨rfl,M.o.base⟩
theorem wide_walk {a0 a1 a2 a3 a4 a5 f xl xh yl yh zl zh:Nat} (w:World)
  (c1:CH 22 #[.agg #[a0,a1],f,(13830554455654793216:Nat)] (.agg #[xl,xh]))
  (c2:CH 22 #[.agg #[a2,a3],f,(13830554455654793216:Nat)] (.agg #[yl,yh]))
  (c3:CH 22 #[.agg #[a4,a5],f,()] (.agg #[zl,zh])) :
  Calls Tryz.prog 7 #[.agg #[a0,a1,a2,a3,a4,a5],f] w (Rt (.agg #[xl,xh,yl,yh,zl,zh]) w):=by
 have M:=Hd (((Own.nil w).made #[a0,a1,a2,a3,a4,a5] 33).made #[(),(),(),(),(),()] 33);simp only [World.size_alloc] at M;have eqF:=eq_floats;go_enter Tryz.func7,Tryz.ntmps7;go_upto_region 1 with fail;replace M:=Hd M.o.drew;revert M;generalize ((w.alloc (.cells #[a0,a1,a2,a3,a4,a5] 33)).alloc (.cells #[(),(),(),(),(),()] 33))=W0_;intro M;refine wp_region_noPanic ?_;refine tails_region (S:=fun w'=>(Cf w' w.heap.size 0 a0∧Cf w' w.heap.size 1 a1∧Cf w' w.heap.size 2 a2∧Cf w' w.heap.size 3 a3∧Cf w' w.heap.size 4 a4∧Cf w' w.heap.size 5 a5)) [] (by kernel_rfl) ?_ (fun hS=>?_)
 ·exact (M.o.nth 1 rfl).six
 refine tq 0 hS ?_;refine tq 1 hS ?_;refine tq 2 hS ?_;refine tq 4 hS ?_;refine tq 5 hS ?_;refine tq 6 hS ?_;refine tq 8 hS ?_;refine tq 9 hS ?_;refine tq 10 hS ?_
 conv=>arg 9; simp only [Act.put,go_sem]
 refine tn [] 3 fun K hK=>?_
 go_simp;refine (c1.out _).mono ?_;rintro rr w1_ ⟨rfl,hb⟩;replace M:=Hd (M.o.below hb);clear hb
 try go_wp2_with fail
 refine hK.out _ _ (Or.inr (M.o.nth 1 rfl).six) (fun hHeld=>?_);clear hK K hHeld;replace hS:=(M.o.nth 1 rfl).six
 refine tn [] 7 fun K hK=>?_
 go_simp;refine (c2.out _).mono ?_;rintro rr w2_ ⟨rfl,hb⟩;replace M:=Hd (M.o.below hb);clear hb
 try go_wp2_with fail
 refine hK.out _ _ (Or.inr (M.o.nth 1 rfl).six) (fun hHeld=>?_);clear hK K hHeld;replace hS:=(M.o.nth 1 rfl).six
 refine tn [] 11 fun K hK=>?_
 go_simp;refine (c3.out _).mono ?_;rintro rr w3_ ⟨rfl,hb⟩;replace M:=Hd (M.o.below hb);clear hb
 try go_wp2_with fail
 refine hK.out _ _ (Or.inr (M.o.nth 1 rfl).six) (fun hHeld=>?_);clear hK K hHeld;replace hS:=(M.o.nth 1 rfl).six;refine tq 12 hS ?_
 refine tn [] 13 fun K hK=>?_
 have kc:=(M.o.nth 0 rfl).2.1;have kf:=(M.o.nth 0 rfl).2.2;replace M:=Hd (M.o.set6 0 rfl xl xh yl yh zl zh);dsimp only [List.set] at M;go_simp;refine hK.out _ _ (Or.inr (M.o.nth 1 rfl).six) (fun hHeld=>?_);clear hK K hHeld kc kf;refine tails_done (by kernel_rfl) ?_ _;refine NoPanic.normal ?_;clear hS;revert M;generalize ((((((w3_.setCell ⟨(w.heap.size+1),0,none⟩ (xl:Value)).setCell ⟨(w.heap.size+1),1,none⟩ (xh:Value)).setCell ⟨(w.heap.size+1),2,none⟩ (yl:Value)).setCell ⟨(w.heap.size+1),3,none⟩ (yh:Value)).setCell ⟨(w.heap.size+1),4,none⟩ (zl:Value)).setCell ⟨(w.heap.size+1),5,none⟩ (zh:Value))=W4_;intro M;go_wp2;obtain⟨f1,f2,f3,f4,f5,f6⟩:=(M.o.nth 0 rfl).six;exact bodyPost_ret (v:=.agg #[.float .f64 xl,.float .f64 xh,.float .f64 yl,.float .f64 yh,.float .f64 zl,.float .f64 zh]) (by simp [results,Tryz.results7,go_sem,f1,f2,f3,f4,f5,f6]) rfl ⟨rfl,M.o.base⟩
theorem inner_walk {a0 a1 a2 a3 a4 a5 u0 u1 u2 u3 u4 u5 xl xh yl yh zl zh:Nat} (w:World)
  (c1:CH 23 #[a0,a1,.int .u32 u0,.int .u32 u1] (.agg #[xl,xh]))
  (c2:CH 23 #[a2,a3,.int .u32 u2,.int .u32 u3] (.agg #[yl,yh]))
  (c3:CH 23 #[a4,a5,.int .u32 u4,.int .u32 u5] (.agg #[zl,zh])) :
  Calls Tryz.prog 8 #[.agg #[a0,a1,a2,a3,a4,a5],.agg #[.int .u32 u0,.int .u32 u1,.int .u32 u2,.int .u32 u3,.int .u32 u4,.int .u32 u5]] w (Rt (.agg #[xl,xh,yl,yh,zl,zh]) w):=by
 have M:=Hd ((((Own.nil w).made #[a0,a1,a2,a3,a4,a5] 33).made #[.int .u32 u0,.int .u32 u1,.int .u32 u2,.int .u32 u3,.int .u32 u4,.int .u32 u5] 24).made #[(),(),(),(),(),()] 33);simp only [World.size_alloc] at M;have eqF:=eq_floats;go_enter Tryz.func8,Tryz.ntmps8;go_upto_region 1 with fail;replace M:=Hd M.o.drew;revert M;generalize (((w.alloc (.cells #[a0,a1,a2,a3,a4,a5] 33)).alloc (.cells #[.int .u32 u0,.int .u32 u1,.int .u32 u2,.int .u32 u3,.int .u32 u4,.int .u32 u5] 24)).alloc (.cells #[(),(),(),(),(),()] 33))=W0_;intro M;refine wp_region_noPanic ?_;refine tails_region (S:=fun w'=>(Cf w' w.heap.size 0 a0∧Cf w' w.heap.size 1 a1∧Cf w' w.heap.size 2 a2∧Cf w' w.heap.size 3 a3∧Cf w' w.heap.size 4 a4∧Cf w' w.heap.size 5 a5)∧(w'.cell? ⟨(w.heap.size+1),0,none⟩=some (.int .u32 u0)∧w'.cell? ⟨(w.heap.size+1),1,none⟩=some (.int .u32 u1)∧w'.cell? ⟨(w.heap.size+1),2,none⟩=some (.int .u32 u2)∧w'.cell? ⟨(w.heap.size+1),3,none⟩=some (.int .u32 u3)∧w'.cell? ⟨(w.heap.size+1),4,none⟩=some (.int .u32 u4)∧w'.cell? ⟨(w.heap.size+1),5,none⟩=some (.int .u32 u5))) [] (by kernel_rfl) ?_ (fun hS=>?_)
 ·exact ⟨(M.o.nth 2 rfl).six,(M.o.nth 1 rfl).six⟩
 refine tq 0 hS ?_;refine tq 1 hS ?_;refine tq 2 hS ?_;refine tq 3 hS ?_;refine tq 4 hS ?_;refine tq 5 hS ?_;refine tq 6 hS ?_;refine tq 7 hS ?_;refine tq 8 hS ?_;refine tq 9 hS ?_;refine tq 11 hS ?_;refine tq 12 hS ?_;refine tq 13 hS ?_;refine tq 14 hS ?_;refine tq 15 hS ?_;refine tq 16 hS ?_;refine tq 17 hS ?_;refine tq 18 hS ?_;refine tq 19 hS ?_;refine tq 20 hS ?_;refine tq 22 hS ?_;refine tq 23 hS ?_;refine tq 24 hS ?_;refine tq 25 hS ?_;refine tq 26 hS ?_;refine tq 27 hS ?_;refine tq 28 hS ?_;refine tq 29 hS ?_;refine tq 30 hS ?_;refine tq 31 hS ?_
 conv=>arg 9; simp only [Act.put,go_sem]
 refine tn [] 10 fun K hK=>?_
 go_simp;refine (c1.out _).mono ?_;rintro rr w1_ ⟨rfl,hb⟩;replace M:=Hd (M.o.below hb);clear hb
 try go_wp2_with fail
 refine hK.out _ _ (Or.inr ⟨(M.o.nth 2 rfl).six,(M.o.nth 1 rfl).six⟩) (fun hHeld=>?_);clear hK K hHeld;replace hS:=(And.intro (M.o.nth 2 rfl).six (M.o.nth 1 rfl).six)
 refine tn [] 21 fun K hK=>?_
 go_simp;refine (c2.out _).mono ?_;rintro rr w2_ ⟨rfl,hb⟩;replace M:=Hd (M.o.below hb);clear hb
 try go_wp2_with fail
 refine hK.out _ _ (Or.inr ⟨(M.o.nth 2 rfl).six,(M.o.nth 1 rfl).six⟩) (fun hHeld=>?_);clear hK K hHeld;replace hS:=(And.intro (M.o.nth 2 rfl).six (M.o.nth 1 rfl).six)
 refine tn [] 32 fun K hK=>?_
 go_simp;refine (c3.out _).mono ?_;rintro rr w3_ ⟨rfl,hb⟩;replace M:=Hd (M.o.below hb);clear hb
 try go_wp2_with fail
 refine hK.out _ _ (Or.inr ⟨(M.o.nth 2 rfl).six,(M.o.nth 1 rfl).six⟩) (fun hHeld=>?_);clear hK K hHeld;replace hS:=(And.intro (M.o.nth 2 rfl).six (M.o.nth 1 rfl).six);refine tq 33 hS ?_
 refine tn [] 34 fun K hK=>?_
 have kc:=(M.o.nth 0 rfl).2.1;have kf:=(M.o.nth 0 rfl).2.2;replace M:=Hd (M.o.set6 0 rfl xl xh yl yh zl zh);dsimp only [List.set] at M;go_simp;refine hK.out _ _ (Or.inr ⟨(M.o.nth 2 rfl).six,(M.o.nth 1 rfl).six⟩) (fun hHeld=>?_);clear hK K hHeld kc kf;refine tails_done (by kernel_rfl) ?_ _;refine NoPanic.normal ?_;clear hS;revert M;generalize ((((((w3_.setCell ⟨(w.heap.size+1+1),0,none⟩ (xl:Value)).setCell ⟨(w.heap.size+1+1),1,none⟩ (xh:Value)).setCell ⟨(w.heap.size+1+1),2,none⟩ (yl:Value)).setCell ⟨(w.heap.size+1+1),3,none⟩ (yh:Value)).setCell ⟨(w.heap.size+1+1),4,none⟩ (zl:Value)).setCell ⟨(w.heap.size+1+1),5,none⟩ (zh:Value))=W4_;intro M;go_wp2;obtain⟨f1,f2,f3,f4,f5,f6⟩:=(M.o.nth 0 rfl).six;exact bodyPost_ret (v:=.agg #[.float .f64 xl,.float .f64 xh,.float .f64 yl,.float .f64 yh,.float .f64 zl,.float .f64 zh]) (by simp [results,Tryz.results8,go_sem,f1,f2,f3,f4,f5,f6]) rfl ⟨rfl,M.o.base⟩
end
end Go.Proofs.YtnaomilkgfkegaaGreat
