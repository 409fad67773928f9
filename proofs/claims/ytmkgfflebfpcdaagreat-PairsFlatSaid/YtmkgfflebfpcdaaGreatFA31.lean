/- What the claim stands on, part 32: MiN, MiO, MiQ, MiW, PaM, PaN, PaO. -/
import Derived.Test.YtmkgfflebfpcdaaGreatFA30
import Derived.Test.YtmkgfflebfpcdaaGreatFA26
import Derived.Test.YtmkgfflebfpcdaaGreatPA15
namespace Go.Proofs.YtmkgfflebfpcdaaGreat
section
open Go.RowKit
def w4:Nat:=4616189618054758400
theorem w4_fit:Fit (oneR w4):=one_fit (by decide) (by decide)
theorem w24_val:val w2=2*SS∧val w4=4*SS:=by decide +kernel
theorem four_has:HasQ (oneR w4) 4:=HasQ.lit w24_val.2 rfl
def Mi.t (A B:V3):Res:=mulR (oneR w2) (Mi.half A B)
def Mi.u (A B:V3):Res:=mulR (Mi.t A B) (Mi.lean A B)
def Mi.d1 (A B:V3):Res:=mulR A.x B.x
def Mi.d2 (A B:V3):Res:=mulR A.y B.y
def Mi.d3 (A B:V3):Res:=addR (Mi.d1 A B) (Mi.d2 A B)
def Mi.d4 (A B:V3):Res:=mulR A.z B.z
def Mi.d5 (A B:V3):Res:=addR (Mi.d3 A B) (Mi.d4 A B)
def Mi.q (A B:V3):Res:=addR (oneR u1) (Mi.d5 A B)
def Mi.r (A B:V3):Res:=divR (Mi.q A B) (oneR w2)
def Mi.w (A B:V3):Res:=sqrR (Mi.half A B)
structure NI (a b A B:V3):Prop where
 t:In (Mi.t a b) (Mi.t A B)
 u:In (Mi.u a b) (Mi.u A B)
 d1:In (Mi.d1 a b) (Mi.d1 A B)
 d2:In (Mi.d2 a b) (Mi.d2 A B)
 d3:In (Mi.d3 a b) (Mi.d3 A B)
 d4:In (Mi.d4 a b) (Mi.d4 A B)
 d5:In (Mi.d5 a b) (Mi.d5 A B)
 q:In (Mi.q a b) (Mi.q A B)
 r:In (Mi.r a b) (Mi.r A B)
 w:In (Mi.w a b) (Mi.w A B)
section
variable {A B:V3} (iA:InV A dB) (iB:InV B dB)
include iA iB
end
def Mi.v1 (l i o a:Res):Res:=mulR (Gx.D l a) (Gx.w i o a)
def Mi.v2 (i:Res):Res:=mulR (oneR w4) i
def Mi.v3 (i o:Res):Res:=mulR (Mi.v2 i) o
def Mi.val (l i o a:Res):Res:=divR (Mi.v1 l i o a) (Mi.v3 i o)
def Mi.p1 (l o a:Res):Res:=mulR (Gx.v o a) (Gx.D l a)
def Mi.den (l o a:Res):Res:=divR (Mi.p1 l o a) (Mi.v2 o)
def Mi.s1 (l i o a:Res):Res:=mulR (Mi.val l i o a) i
def Mi.s2 (l i o a:Res):Res:=mulR (Mi.s1 l i o a) (Gx.v o a)
def Mi.s3 (l i o a:Res):Res:=mulR (Mi.den l o a) (Gx.w i o a)
structure VI (l i o a L I O A:Res):Prop where
 v1:In (Mi.v1 l i o a) (Mi.v1 L I O A)
 v2:In (Mi.v2 i) (Mi.v2 I)
 v2':In (Mi.v2 o) (Mi.v2 O)
 v3:In (Mi.v3 i o) (Mi.v3 I O)
 val:In (Mi.val l i o a) (Mi.val L I O A)
 p1:In (Mi.p1 l o a) (Mi.p1 L O A)
 den:In (Mi.den l o a) (Mi.den L O A)
 s1:In (Mi.s1 l i o a) (Mi.s1 L I O A)
 s2:In (Mi.s2 l i o a) (Mi.s2 L I O A)
 s3:In (Mi.s3 l i o a) (Mi.s3 L I O A)
theorem v_boxes:(fitB (Mi.v1 cI8 cI8 cI8 aI)&&fitB (Mi.v2 cI8)&&fitB (Mi.v3 cI8 cI8)&&fitB (Mi.val cI8 cI8 cI8 aI)&&fitB (Mi.p1 cI8 cI8 aI)&&fitB (Mi.den cI8 cI8 aI)&&fitB (Mi.s1 cI8 cI8 cI8 aI)&&fitB (Mi.s2 cI8 cI8 cI8 aI)&&fitB (Mi.s3 cI8 cI8 cI8 aI))=true:=by decide +kernel
theorem v_lows:0 < val (Mi.v2 cI8).lo∧0 < val (Mi.v3 cI8 cI8).lo∧0≤val (Mi.val cI8 cI8 cI8 aI).lo∧0≤val (Mi.den cI8 cI8 aI).lo∧0 < val cI8.lo:=by decide +kernel
theorem fst_pos {c:Res} (hc:In c cI8):∃ x:Rat,HasQ c x∧x≠0:=by
 refine ⟨_,HasQ.fst hc.fit,?_⟩
 have h:=hc.lo
 have p:=v_lows.2.2.2.2
 have n:(0:Rat) < ((val c.lo:Int):Rat):=Rat.intCast_pos.2 (by omega)
 have:=Rat.mul_pos n (Rat.inv_pos.2 ssQ)
 rw [Rat.div_def]
 grind
section
variable {l i o a:Res} (hl:In l cI8) (hi:In i cI8) (ho:In o cI8) (ha:In a aI)
include hl hi ho ha
theorem vd_in:VI l i o a cI8 cI8 cI8 aI:=by
 have h:=v_boxes
 simp only [Bool.and_eq_true] at h
 obtain⟨⟨⟨⟨⟨⟨⟨⟨h1,h2⟩,h3⟩,h4⟩,h5⟩,h6⟩,h7⟩,h8⟩,h9⟩:=h
 have D:=(g8_in hl ha).D
 have W:=w_in hi ho ha
 have V:=(l8_in ho ha).v
 have v1:In (Mi.v1 l i o a) (Mi.v1 cI8 cI8 cI8 aI):=mul_in D gf_box8.D W w_boxes.2 (Fit.of h1).e
 have v2:In (Mi.v2 i) (Mi.v2 cI8):=mul_in (.refl w4_fit) w4_fit hi cI8_fit (Fit.of h2).e
 have v2':In (Mi.v2 o) (Mi.v2 cI8):=mul_in (.refl w4_fit) w4_fit ho cI8_fit (Fit.of h2).e
 have v3:In (Mi.v3 i o) (Mi.v3 cI8 cI8):=mul_in v2 (.of h2) ho cI8_fit (Fit.of h3).e
 have vl:In (Mi.val l i o a) (Mi.val cI8 cI8 cI8 aI):=div_in v1 (.of h1) v3 (.of h3) (Fit.of h4).e
 have p1:In (Mi.p1 l o a) (Mi.p1 cI8 cI8 aI):=mul_in V lf_box.v D gf_box8.D (Fit.of h5).e
 have dn:In (Mi.den l o a) (Mi.den cI8 cI8 aI):=div_in p1 (.of h5) v2' (.of h2) (Fit.of h6).e
 have s1:In (Mi.s1 l i o a) (Mi.s1 cI8 cI8 cI8 aI):=mul_in vl (.of h4) hi cI8_fit (Fit.of h7).e
 exact ⟨v1,v2,v2',v3,vl,p1,dn,s1,mul_in s1 (.of h7) V lf_box.v (Fit.of h8).e,mul_in dn (.of h6) W w_boxes.2 (Fit.of h9).e⟩
theorem value_has {x y d:Rat} (hx:HasQ i x) (hy:HasQ o y) (hd:HasQ (Gx.D l a) d):HasQ (Mi.val l i o a) (d*(1 / (1+lq i a+lq o a)) / (4*x*y))∧HasQ (Mi.den l o a) (1 / (1+lq o a)*d / (4*y)):=by
 have V:=vd_in hl hi ho ha
 have D:=(g8_in hl ha).D.fit
 have W:=(w_in hi ho ha).fit
 obtain⟨p1,p2,_⟩:=v_lows
 have v1:=HasQ.mul D W hd (w_has hi ha ho) V.v1.fit.e
 have v2:=HasQ.mul w4_fit hi.fit four_has hx V.v2.fit.e
 have v2':=HasQ.mul w4_fit ho.fit four_has hy V.v2'.fit.e
 have v3:=HasQ.mul V.v2.fit ho.fit v2 hy V.v3.fit.e
 have q1:=HasQ.mul (l8_in ho ha).v.fit D (v_has ho ha) hd V.p1.fit.e
 exact ⟨HasQ.div V.v1.fit V.v3.fit v1 v3 (by have:=V.v3.lo; omega) V.val.fit.e,HasQ.div V.p1.fit V.v2'.fit q1 v2' (by have:=V.v2'.lo; omega) V.den.fit.e⟩
end
end
section
open Go.RowKit
theorem word_down {s:Nat} {T:Int} {c c':Nat} (h:Down s T c 0) (h':Down s T c' 0):c=c':=by
 obtain⟨c1,c2,c3,c4⟩:=h.ok
 obtain⟨d1,d2,d3,d4⟩:=h'.ok
 exact val_inj c1 d1 c2 d2 (Int.le_antisymm (d4 c c1 c2 c3) (c4 c' d1 d2 d3))
theorem word_up {s:Nat} {T:Int} {c c':Nat} (h:Up s T c 0) (h':Up s T c' 0):c=c':=by
 obtain⟨c1,c2,c3,c4⟩:=h.ok
 obtain⟨d1,d2,d3,d4⟩:=h'.ok
 exact val_inj c1 d1 c2 d2 (Int.le_antisymm (c4 c' d1 d2 d3) (d4 c c1 c2 c3))
theorem res_one {r s:Res} (h:r.e=s.e) (h1:r.lo=s.lo) (h2:r.hi=s.hi):r=s:=by
 obtain⟨e,lo,hi⟩:=r
 obtain⟨e',lo',hi'⟩:=s
 simp only at h h1 h2
 rw [h,h1,h2]
theorem add_swap {a b:Res} (fa:Fit a) (fb:Fit b) (h:(addR a b).e=0) (h':(addR b a).e=0):addR b a=addR a b:=by
 obtain⟨d,u⟩:=add_parts fa fb h
 obtain⟨d',u'⟩:=add_parts fb fa h'
 rw [Int.add_comm] at d' u'
 exact res_one (by rw [h,h']) (word_down d' d) (word_up u' u)
section
variable {A B:V3} (iA:InV A dB) (iB:InV B dB)
include iA iB
theorem half_swap:Mi.half B A=Mi.half A B∧Mi.lean B A=Mi.lean A B:=by
 have K:=(md_in iA iB).fits
 have K':=(md_in iB iA).fits
 have e1:Mi.sx B A=Mi.sx A B:=add_swap iA.x.fit iB.x.fit K.sx.e K'.sx.e
 have e2:Mi.sy B A=Mi.sy A B:=add_swap iA.y.fit iB.y.fit K.sy.e K'.sy.e
 have e3:Mi.sz B A=Mi.sz A B:=add_swap iA.z.fit iB.z.fit K.sz.e K'.sz.e
 have e4:Mi.n B A=Mi.n A B:=by
  unfold Mi.n Mi.n5 Mi.n4 Mi.n3 Mi.n2 Mi.n1
  rw [e1,e2,e3]
 constructor
 ·unfold Mi.half Mi.h; rw [e4]
 ·unfold Mi.lean Mi.l; rw [e3,e4]
end
theorem z_ends:val zI7.lo=35184372088832*DD∧val 4580160821035794432=70368744177664*DD∧val u1=4503599627370496*DD∧val m1=-(4503599627370496*DD):=by decide +kernel
section
variable {x y z:Nat} (lx:x < 18446744073709551616) (ly:y < 18446744073709551616) (lz:z < 18446744073709551616) (rx:rightB x=true) (ry:rightB y=true) (rz:rightB z=true)
 (x1:val m1≤val x) (x2:val x≤val u1) (y1:val m1≤val y) (y2:val y≤val u1) (z1:val 4580160821035794432≤val z) (z2:val z≤val u1)
include rx ry rz x1 x2 y1 y2 z1 z2
theorem dir_has:hasU x y z=true:=by
 obtain⟨_,e2,e3,e4⟩:=z_ends
 have d0:=dd_pos
 have p1:val 4318952042648305664≤val 4580160821035794432∧val u1≤val 4895412794951729152:=by decide +kernel
 obtain⟨a1,a2⟩:=val_side rx
 obtain⟨b1,b2⟩:=val_side ry
 obtain⟨c1,c2⟩:=val_side rz
 obtain⟨_,_,mv⟩:=most_val rx ry rz
 unfold hasU leB
 simp only [Bool.and_eq_true,decide_eq_true_eq]
 rw [mv]
 exact ⟨⟨⟨rx,ry⟩,rz⟩,by omega,by omega⟩
include lx ly lz
theorem dir_in:InV (unitV x y z) dB∧∃ f g h:Nat→Rat,HasS (unitV x y z).x f∧HasS (unitV x y z).y g∧HasS (unitV x y z).z h∧Eqv (fun m=>f m*f m+(g m*g m+h m*h m)) (fun _=>1)∧∀ m,0≤h m:=by
 have hU:=dir_has rx ry rz x1 x2 y1 y2 z1 z2
 obtain⟨e1,e2,e3,e4⟩:=z_ends
 have d0:=dd_pos
 have hS:=ss_dd
 obtain⟨F,_,_,_,⟨mx,Mx,px⟩,⟨my,My,py⟩,⟨m,M,pz⟩⟩:=unit_all x y z lx ly lz hU
 obtain⟨n0,n1,n2,_⟩:=unit_norm x y z lx ly lz hU
 have ix:=one_part px F.x
 have iy:=one_part py F.y
 have iz:=one_part pz F.z
 have z0:0≤val z:=by omega
 obtain⟨f,g,h,s1,s2,s3,us,nn⟩:=unit_seq lx ly lz hU
 refine ⟨⟨ix,iy,?_⟩,f,g,h,s1,s2,s3,us,nn z0⟩
 have q:∀ v:Int,-(4503599627370496*DD)≤v→v≤4503599627370496*DD→v*v≤4503599627370496*DD*(4503599627370496*DD):=fun v h1 h2=>by
  rcases Int.le_total 0 v with t | t
  ·exact mul_self_le t h2
  ·rw [←Int.neg_mul_neg]; exact mul_self_le (by omega) (by omega)
 have kx:=q (val x) (by omega) (by omega)
 have ky:=q (val y) (by omega) (by omega)
 have kz:=q (val z) (by omega) (by omega)
 -- the length is below 7 by 4
 have nl:4*val (unitN x y z).lo≤7*(4503599627370496*DD):=by
  refine le_of_self (by omega) ?_
  have t1:4*val (unitN x y z).lo*(4*val (unitN x y z).lo)=16*(val (unitN x y z).lo*val (unitN x y z).lo):=by grind
  have t2:7*(4503599627370496*DD)*(7*(4503599627370496*DD))=49*(4503599627370496*DD*(4503599627370496*DD)):=by grind
  have t3:=self_nonneg (4503599627370496*DD)
  rw [t1,t2]; omega
 have low:35184372088832*DD≤m:=by
  have w:=pz.wide
  obtain⟨a,a1,a0,_,a3⟩:=pz.under
  rcases a3 with t | t
  ·rw [hS] at t; omega
  ·have l:=pz.low
   have le:=pz.le
   have ea:70368744177664*DD≤a:=by omega
   -- a SS by n.lo is no more than M
   have t1:4*(a*SS)≤7*M*SS:=by
    have u1:4*(M*val (unitN x y z).lo)≤M*(7*(4503599627370496*DD)):=by
     have:=Int.mul_le_mul_of_nonneg_left nl (show 0≤M by omega)
     have e:M*(4*val (unitN x y z).lo)=4*(M*val (unitN x y z).lo):=by grind
     omega
    rw [←hS] at u1
    have e:M*(7*SS)=7*M*SS:=by grind
    omega
   have t2:4*a≤7*M:=by
    refine Int.le_of_mul_le_mul_right (a:=SS) ?_ (by rw [hS]; omega)
    have e:4*a*SS=4*(a*SS):=by grind
    omega
   omega
 have s:=pz.side
 refine ⟨F.z,?_,iz.hi⟩
 show val zI7.lo≤_
 rw [e1]
 have zp:0 < val z:=by omega
 rcases s with ⟨_,t,_⟩ | ⟨t,_,_⟩
 ·rw [t]; exact low
 ·omega
end
end
section
open Go.RowKit
section
variable {V:V3} {f g h:Nat→Rat} (iV:InV V dB) (a1:HasS V.x f) (a2:HasS V.y g) (a3:HasS V.z h)
 (us:Eqv (fun m=>f m*f m+(g m*g m+h m*h m)) fun _=>1) (nn:∀ m,0≤h m)
include iV a1 a2 a3 us nn
end
theorem part_width {x:Nat} {n p:Res} {m M:Int} (h:PartOf x n p m M):val p.hi - val p.lo≤16*DD:=by
 have w:=h.wide
 rcases h.side with ⟨_,a,b⟩ | ⟨_,a,b⟩ <;> rw [a,b] <;> omega
end
section
open Go.RowKit
theorem lean_u {A B:V3} (K:MF A B):In (Mi.lean A B) ouI∧In (Mi.half A B) ouI:=by
 have z0:val 0=0:=by decide +kernel
 have us:val u1=SS:=by decide +kernel
 have o1:val ouI.lo=0∧val ouI.hi=val u1:=by decide +kernel
 have s0:=SS0
 have key:∀ r:Res,Fit r→In (clampR r) ouI:=fun r f=>by
  obtain⟨_,_,c3⟩:=clamp_facts f.lo f.rlo
  obtain⟨_,_,d3⟩:=clamp_facts f.hi f.rhi
  refine ⟨clamp_fit f,?_,?_⟩
  ·rw [o1.1,show (clampR r).lo=clampW r.lo by simp only [clampR]]; omega
  ·rw [o1.2,show (clampR r).hi=clampW r.hi by simp only [clampR]]; omega
 exact ⟨key _ K.l,key _ K.h⟩
structure VF (l i o a:Res):Prop where
 D:Fit (Gx.D l a)
 w:Fit (Gx.w i o a)
 v:Fit (Gx.v o a)
 v1:Fit (Mi.v1 l i o a)
 v2:Fit (Mi.v2 i)
 v2':Fit (Mi.v2 o)
 v3:Fit (Mi.v3 i o)
 val:Fit (Mi.val l i o a)
 p1:Fit (Mi.p1 l o a)
 den:Fit (Mi.den l o a)
end
section
open Go.RowKit
def pdU:V3:=⟨⟨0,m1,u1⟩,⟨0,m1,u1⟩,ouI⟩
theorem pdU_fit:FitV pdU:=⟨.of (by decide +kernel),.of (by decide +kernel),.of (by decide +kernel)⟩
theorem InV.fp {A B:V3} (h:InV A B):FitV A:=⟨h.x.fit,h.y.fit,h.z.fit⟩
structure DotF (A B:V3):Prop where
 d1:Fit (Mi.d1 A B)
 d2:Fit (Mi.d2 A B)
 d3:Fit (Mi.d3 A B)
 d4:Fit (Mi.d4 A B)
 d5:Fit (Mi.d5 A B)
structure DotI (a b A B:V3):Prop where
 d1:In (Mi.d1 a b) (Mi.d1 A B)
 d2:In (Mi.d2 a b) (Mi.d2 A B)
 d3:In (Mi.d3 a b) (Mi.d3 A B)
 d4:In (Mi.d4 a b) (Mi.d4 A B)
 d5:In (Mi.d5 a b) (Mi.d5 A B)
theorem dot_box:DotF pdU pdU:=⟨.of (by decide +kernel),.of (by decide +kernel),.of (by decide +kernel),.of (by decide +kernel),.of (by decide +kernel)⟩
theorem dot_in {a b A B:V3} (K:DotF A B) (fA:FitV A) (fB:FitV B) (ia:InV a A) (ib:InV b B):DotI a b A B:=by
 have d1:In (Mi.d1 a b) (Mi.d1 A B):=mul_in ia.x fA.x ib.x fB.x K.d1.e
 have d2:In (Mi.d2 a b) (Mi.d2 A B):=mul_in ia.y fA.y ib.y fB.y K.d2.e
 have d3:In (Mi.d3 a b) (Mi.d3 A B):=add_in d1 K.d1 d2 K.d2 K.d3.e
 have d4:In (Mi.d4 a b) (Mi.d4 A B):=mul_in ia.z fA.z ib.z fB.z K.d4.e
 exact ⟨d1,d2,d3,d4,add_in d3 K.d3 d4 K.d4 K.d5.e⟩
theorem DotI.fits {a b A B:V3} (h:DotI a b A B):DotF a b:=⟨h.d1.fit,h.d2.fit,h.d3.fit,h.d4.fit,h.d5.fit⟩
def Pa.t (A B:V3):Res:=edgeR (Mi.d5 A B)
section
variable {A B:V3} (iA:InV A pdU) (iB:InV B pdU)
include iA iB
theorem dot_fits:DotF A B:=(dot_in dot_box pdU_fit pdU_fit iA iB).fits
theorem pt_in:In (Pa.t A B) oeI:=edge_unit (dot_fits iA iB).d5
theorem dot_turn:Mi.d5 B A=Mi.d5 A B:=by
 have K:=dot_fits iA iB
 have e1:Mi.d1 B A=Mi.d1 A B:=mul_comm_R iA.x.fit iB.x.fit K.d1.e
 have e2:Mi.d2 B A=Mi.d2 A B:=mul_comm_R iA.y.fit iB.y.fit K.d2.e
 have e4:Mi.d4 B A=Mi.d4 A B:=mul_comm_R iA.z.fit iB.z.fit K.d4.e
 unfold Mi.d5 Mi.d3
 rw [e1,e2,e4]
theorem pt_turn:Pa.t B A=Pa.t A B:=by unfold Pa.t; rw [dot_turn iA iB]
theorem pa_dirs:Dirs A.z B.z (Pa.t A B):=⟨iA.z,iB.z,pt_in iA iB⟩
end
theorem pst_turn {i o d:Res} (h:Dirs i o d):Or.st o i d=Or.st i o d:=by
 have k:=slope_fits h
 have e1:Or.p o i=Or.p i o:=mul_comm_R h.i.fit h.o.fit k.p.fit.e
 have e2:Or.top o i=Or.top i o:=max_turn h.o h.i
 have e3:Or.s o i d=Or.s i o d:=by unfold Or.s; rw [e1]
 have e4:Or.r o i d=Or.r i o d:=by unfold Or.r; rw [e2,e3]
 unfold Or.st
 rw [e3,e4]
theorem pslope_turn {i o d:Res} (h:Dirs i o d):Or.slope o i d=Or.slope i o d:=by
 unfold Or.slope
 rw [pst_turn h]
def posI:Res:=⟨0,0,w2⟩
theorem pos_boxes:Fit posI∧Fit (divR posI cI8)∧val posI.lo=0∧val (Or.s ouI ouI oeI).hi≤val posI.hi:=⟨.of (by decide +kernel),.of (by decide +kernel),by decide +kernel,by decide +kernel⟩
theorem st_none8 {i o d:Res} (hi:In i cI8) (ho:In o cI8) (h:Dirs i o d):(Or.st i o d).e=0:=by
 have k:=slope_fits h
 obtain⟨b1,b2,b3,b4⟩:=pos_boxes
 have t:In (Or.top i o) cI8:=by
  have h1:=max_lo h.i h.o
  have l1:=hi.lo
  have l2:=ho.lo
  have g:val (Or.top i o).hi≤val cI8.hi:=by
   have:=(max_facts i.hi o.hi hi.fit.hi ho.fit.hi hi.fit.rhi ho.fit.rhi).2.2
   have e:val (Or.top i o).hi=max (val i.hi) (val o.hi):=this
   have:=hi.hi
   have:=ho.hi
   omega
  exact ⟨k.top.fit,by omega,g⟩
 unfold Or.st
 by_cases g:0 < val (Or.s i o d).hi
 ·have p:In (posR (Or.s i o d)) posI:=by
   obtain⟨_,_,x3⟩:=max_facts (Or.s i o d).lo 0 k.s.fit.lo (by decide) k.s.fit.rlo (by decide)
   have v0:=Or.v0
   refine ⟨pos_fit k.s.fit g,?_,Int.le_trans k.s.hi b4⟩
   show val posI.lo≤val (maxW (Or.s i o d).lo 0)
   rw [x3,b3]; omega
  have e:(Or.r i o d).e=0:=(div_in p b1 t cI8_fit b2.e).fit.e
  rw [if_pos g,if_pos e]
  split
  ·exact e
  ·rfl
 ·rw [if_neg g]; exact k.s.fit.e
theorem share_boxes:Fit (mulR (Mi.val cI8 cI8 cI8 aI) unitR)∧0≤val (mulR (Mi.val cI8 cI8 cI8 aI) unitR).lo∧0 < val (Mi.den cI8 cI8 aI).lo∧0 < val (valueR zI7).lo∧Fit (valueR ouI):=⟨.of (by decide +kernel),by decide +kernel,by decide +kernel,by decide +kernel,.of (by decide +kernel)⟩
section
variable {l i o a f:Res} (hl:In l cI8) (hi:In i cI8) (ho:In o cI8) (ha:In a aI) (hf:In f unitR)
include hl hi ho ha hf
theorem sent_in:In (mulR (Mi.val l i o a) f) (mulR (Mi.val cI8 cI8 cI8 aI) unitR):=by
 have V:=vd_in hl hi ho ha
 have h:=v_boxes
 simp only [Bool.and_eq_true] at h
 exact mul_in V.val (.of h.1.1.1.1.1.2) hf unit_fit share_boxes.1.e
theorem sent_meets:val (mulR (Mi.val l i o a) f).lo≤val (mulR (Mi.val l o i a) f).hi∧val (mulR (Mi.val l o i a) f).lo≤val (mulR (Mi.val l i o a) f).hi:=by
 have V:=vd_in hl hi ho ha
 have V':=vd_in hl ho hi ha
 obtain⟨x,hx,_⟩:=fst_pos hi
 obtain⟨y,hy,_⟩:=fst_pos ho
 have hd:=HasQ.fst (g8_in hl ha).D.fit
 have k1:=(value_has hl hi ho ha hx hy hd).1
 have k2:=(value_has hl ho hi ha hy hx hd).1
 rw [show 1+lq o a+lq i a=1+lq i a+lq o a by grind,show 4*y*x=4*x*y by grind] at k2
 have g:=HasQ.fst hf.fit
 have p1:=HasQ.mul V.val.fit hf.fit k1 g (sent_in hl hi ho ha hf).fit.e
 have p2:=HasQ.mul V'.val.fit hf.fit k2 g (sent_in hl ho hi ha hf).fit.e
 exact ⟨has_le p1 p2 Rat.le_refl,has_le p2 p1 Rat.le_refl⟩
theorem sent_less (he:(mulR (mulR (Mi.val l i o a) f) i).e=0):val (mulR (mulR (Mi.val l i o a) f) i).lo≤val (Mi.den l o a).hi:=by
 have V:=vd_in hl hi ho ha
 have S:=sent_in hl hi ho ha hf
 obtain⟨x,hx,x0⟩:=fst_pos hi
 obtain⟨y,hy,y0⟩:=fst_pos ho
 have g:=HasQ.fst hf.fit
 obtain⟨k1,k2⟩:=value_has hl hi ho ha hx hy (HasQ.fst (g8_in hl ha).D.fit)
 have p1:=HasQ.mul V.val.fit hf.fit k1 g S.fit.e
 have p2:=HasQ.mul S.fit hi.fit p1 hx he
 refine has_le p2 k2 ?_
 have li:=lq_0 hi ha
 have lo:=lq_0 ho ha
 have D0:(0:Rat)≤((val (Gx.D l a).lo:Int):Rat) / ((SS:Int):Rat):=by
  have d:=(g8_in hl ha).D.lo
  have b:0≤val (Gx.D cI8 aI).lo:=by decide +kernel
  rw [Rat.div_def]
  exact Rat.mul_nonneg (Rat.intCast_nonneg.2 (by omega)) (Rat.le_of_lt (Rat.inv_pos.2 ssQ))
 have f0:(0:Rat)≤((val f.lo:Int):Rat) / ((SS:Int):Rat)∧((val f.lo:Int):Rat) / ((SS:Int):Rat)≤1:=by
  have a1:=hf.lo
  have a2:=hf.hi
  have a3:=hf.fit.le
  have b0:val unitR.lo=0∧val unitR.hi=SS:=by decide +kernel
  have s:=ssQ
  constructor
  ·rw [Rat.div_def]
   exact Rat.mul_nonneg (Rat.intCast_nonneg.2 (by omega)) (Rat.le_of_lt (Rat.inv_pos.2 s))
  ·refine Rat.le_of_mul_le_mul_right (c:=((SS:Int):Rat)) ?_ s
   rw [Rat.div_mul_cancel (by grind),Rat.one_mul]
   exact Rat.intCast_le_intCast.2 (by omega)
 have y1:0 < y:=by
  have h1:=hy.high
  have h0:=hy.low
  have p:=v_lows.2.2.2.2
  have l:=ho.lo
  have:(0:Rat) < ((val o.lo:Int):Rat):=Rat.intCast_pos.2 (by omega)
  have s:=ssQ
  have t:0 < y*((SS:Int):Rat):=by grind
  rcases (Rat.le_total:y≤0∨0≤y) with c | c
  ·have:=Rat.mul_le_mul_of_nonneg_right c (Rat.le_of_lt s)
   rw [Rat.zero_mul] at this
   grind
  ·grind
 generalize ((val (Gx.D l a).lo:Int):Rat) / ((SS:Int):Rat)=d at *
 generalize ((val f.lo:Int):Rat) / ((SS:Int):Rat)=r at *
 generalize lq i a=p at *
 generalize lq o a=q at *
 have e1:d*(1 / (1+p+q)) / (4*x*y)*r*x=d*r*(1 / (1+p+q)) / (4*y):=by grind
 have e2:1 / (1+q)*d / (4*y)=d*(1 / (1+q)) / (4*y):=by grind
 rw [e1,e2,Rat.div_def,Rat.div_def]
 have i4:0≤(4*y)⁻¹:=Rat.le_of_lt (Rat.inv_pos.2 (by grind))
 refine Rat.mul_le_mul_of_nonneg_right ?_ i4
 have t1:1 / (1+p+q)≤1 / (1+q):=inv_le (by grind) (by grind)
 have t0:0≤1 / (1+p+q):=by
  rw [Rat.div_def,Rat.one_mul]; exact Rat.le_of_lt (Rat.inv_pos.2 (by grind))
 have u1':=Rat.mul_le_mul_of_nonneg_right f0.2 (Rat.mul_nonneg D0 t0)
 have u2':=Rat.mul_le_mul_of_nonneg_left t1 D0
 grind
end
end
section
open Go.RowKit
def hI7:Res:=⟨0,4575657221408423936,u1⟩
theorem hI7_fit:Fit hI7:=.of (by decide +kernel)
theorem hI7_in:In hI7 bigC:=⟨hI7_fit,by decide +kernel,by decide +kernel⟩
theorem half_low:val hI7.lo≤val (Mi.half dB dB).lo∧val (Mi.half dB dB).hi≤val hI7.hi:=by decide +kernel
theorem half_h7 {A B:V3} (iA:InV A dB) (iB:InV B dB):In (Mi.half A B) hI7:=by
 have h:=clamp_in (md_in iA iB).h mf_box.h
 exact ⟨h.fit,Int.le_trans half_low.1 h.lo,Int.le_trans h.hi half_low.2⟩
section
variable {c n C N:Res} (hc:In C bigC) (hn:In N bigN)
include hc hn
theorem di_fits:Di.Fits C N:=(Di.parts Di.big hc hn).fits hc.fit hn.fit
theorem di_unit:In (Di.out C N) unitR:=clamp_unit (di_fits hc hn).f'
end
theorem co_box:Fit (Co.r33 hI7 bigM bigM):=.of (by decide +kernel)
section
variable {c h k C H K:Res} (hc:In C bigC) (hh:In H bigM) (hk:In K bigM)
include hc hh hk
theorem co_fits:Co.Fits C H K:=(Co.parts Co.big hc hh hk).fits hc.fit hh.fit hk.fit
theorem co_unit (he:(Co.r33 C H K).e=0):In (Co.f C H K) unitR:=by
 have D:=co_fits hc hh hk
 have u:=clamp_unit D.r27'
 have L:=D.last he
 have j3:In (Co.rp C H K) unitR:=clamp_unit L.m34'
 have j4:In (Co.a36 C H K) (addR unitR unitR):=add_in u unit_fit j3 unit_fit (by decide +kernel)
 have j5:In (Co.f C H K) (mulR (oneR 4602678819172646912) (addR unitR unitR)):=mul_in (.refl (one_fit (by decide) (by decide))) (one_fit (by decide) (by decide)) j4 (.of (by decide +kernel)) (by decide +kernel)
 have e:val unitR.lo≤val (mulR (oneR 4602678819172646912) (addR unitR unitR)).lo∧val (mulR (oneR 4602678819172646912) (addR unitR unitR)).hi≤val unitR.hi:=by decide +kernel
 exact ⟨j5.fit,Int.le_trans e.1 j5.lo,Int.le_trans j5.hi e.2⟩
theorem co_part (ic:In c C) (ih:In h H) (ik:In k K) (he:(Co.r33 C H K).e=0):(Co.r33 c h k).e=0∧In (Co.f c h k) (Co.f C H K):=
 Co.last_in (co_fits hc hh hk) (Co.parts (co_fits hc hh hk) ic ih ik) he
end
theorem co_none {C H K:Res} (hc:In C hI7) (hh:In H bigM) (hk:In K bigM):(Co.r33 C H K).e=0:=
 (co_part hI7_in (.refl Co.big.fh) (.refl Co.big.fk) hc hh hk co_box.e).1
end
section
open Go.RowKit
def Pa.lam (r:Res):Res:=valueR r
def Pa.oren (r s:Res) (A B:V3):Res:=Or.val r s (Or.slope A.z B.z (Pa.t A B))
def Pa.pl (a n:Res) (A B:V3):Res:=mulR (Mi.val (Mi.lean A B) A.z B.z a) (Di.out (Mi.half A B) n)
def Pa.me (a h k:Res) (A B:V3):Res:=mulR (Mi.val (Mi.lean A B) A.z B.z a) (Co.f (Mi.half A B) h k)
theorem dB_pdU {A:V3} (h:InV A dB):InV A pdU:=⟨h.x,h.y,⟨h.z.fit,Int.le_trans (by decide +kernel:val ouI.lo≤val zI7.lo) h.z.lo,h.z.hi⟩⟩
theorem dB_c8 {A:V3} (h:InV A dB):In A.z cI8:=⟨h.z.fit,Int.le_trans (by decide +kernel:val cI8.lo≤val zI7.lo) h.z.lo,h.z.hi⟩
theorem plam_box:Fit (valueR ouI)∧0≤val (valueR ouI).lo∧Fit (valueR zI7)∧Fit zI7:=⟨.of (by decide +kernel),by decide +kernel,.of (by decide +kernel),.of (by decide +kernel)⟩
theorem lam_leaf {r:Res} (hr:In r ouI):Fit (Pa.lam r)∧0≤val (Pa.lam r).lo:=by
 have i:In (valueR r) (valueR ouI):=div_in hr ou_fit (.refl big_fit.1) big_fit.1 plam_box.1.e
 have l:=i.lo
 have z:=plam_box.2.1
 exact ⟨i.fit,by unfold Pa.lam; omega⟩
theorem oren_fit {r s:Res} {A B:V3} (hr:In r ouI) (hs:In s ouI) (iA:InV A pdU) (iB:InV B pdU) (he:(Or.st A.z B.z (Pa.t A B)).e=0):In (Pa.oren r s A B) unitR:=
 clamp_unit (val_fits hr hs (edge_unit (st_fit (pa_dirs iA iB) he))).l.fit
section
variable {A B:V3} (iA:InV A dB) (iB:InV B dB)
include iA iB
theorem oren_leaf {r s:Res} (hr:In r ouI) (hs:In s ouI):(Or.st A.z B.z (Pa.t A B)).e=0∧Fit (Pa.oren r s A B)∧0≤val (Pa.oren r s A B).lo∧Pa.oren r s B A=Pa.oren r s A B:=by
 have jA:=dB_pdU iA
 have jB:=dB_pdU iB
 have e:=st_none8 (dB_c8 iA) (dB_c8 iB) (pa_dirs jA jB)
 have u:=oren_fit hr hs jA jB e
 have z:val unitR.lo=0:=by decide +kernel
 have l:=u.lo
 refine ⟨e,u.fit,by omega,?_⟩
 unfold Pa.oren
 rw [pt_turn jA jB,pslope_turn (pa_dirs jA jB)]
theorem mirror_leaf {a f:Res} (ha:In a aI) (hf:In f unitR) :
  (Fit (mulR (Mi.val (Mi.lean A B) A.z B.z a) f)∧Fit (mulR (Mi.val (Mi.lean A B) B.z A.z a) f))∧0≤val (mulR (Mi.val (Mi.lean A B) A.z B.z a) f).lo ∧
  (val (mulR (Mi.val (Mi.lean A B) A.z B.z a) f).lo≤val (mulR (Mi.val (Mi.lean A B) B.z A.z a) f).hi∧val (mulR (Mi.val (Mi.lean A B) B.z A.z a) f).lo≤val (mulR (Mi.val (Mi.lean A B) A.z B.z a) f).hi):=by
 have hl:=lean_c8 iA iB
 have i1:=sent_in hl (dB_c8 iA) (dB_c8 iB) ha hf
 have i2:=sent_in hl (dB_c8 iB) (dB_c8 iA) ha hf
 have l:=i1.lo
 have z:=share_boxes.2.1
 exact ⟨⟨i1.fit,i2.fit⟩,by omega,sent_meets hl (dB_c8 iA) (dB_c8 iB) ha hf⟩
theorem pl_leaf {a n:Res} (ha:In a aI) (hn:In n bigN):(Fit (Pa.pl a n A B)∧Fit (Pa.pl a n B A))∧0≤val (Pa.pl a n A B).lo∧(val (Pa.pl a n A B).lo≤val (Pa.pl a n B A).hi∧val (Pa.pl a n B A).lo≤val (Pa.pl a n A B).hi):=by
 obtain⟨e1,e2⟩:=half_swap iA iB
 have f:In (Di.out (Mi.half A B) n) unitR:=di_unit ((half_h7 iA iB).fit |> fun ff=>⟨ff,Int.le_trans hI7_in.lo (half_h7 iA iB).lo,Int.le_trans (half_h7 iA iB).hi hI7_in.hi⟩) hn
 unfold Pa.pl
 rw [e1,e2]
 exact mirror_leaf iA iB ha f
theorem me_leaf {a h k:Res} (ha:In a aI) (hh:In h bigM) (hk:In k bigM):(Co.r33 (Mi.half A B) h k).e=0∧(Fit (Pa.me a h k A B)∧Fit (Pa.me a h k B A))∧0≤val (Pa.me a h k A B).lo∧(val (Pa.me a h k A B).lo≤val (Pa.me a h k B A).hi∧val (Pa.me a h k B A).lo≤val (Pa.me a h k A B).hi):=by
 obtain⟨e1,e2⟩:=half_swap iA iB
 have hc:=half_h7 iA iB
 have e:=co_none hc hh hk
 have f:In (Co.f (Mi.half A B) h k) unitR:=co_unit ⟨hc.fit,Int.le_trans hI7_in.lo hc.lo,Int.le_trans hc.hi hI7_in.hi⟩ hh hk e
 refine ⟨e,?_⟩
 unfold Pa.me
 rw [e1,e2]
 exact mirror_leaf iA iB ha f
theorem den_leaf {a:Res} (ha:In a aI):Fit (Mi.den (Mi.lean A B) B.z a)∧0 < val (Mi.den (Mi.lean A B) B.z a).lo:=by
 have V:=vd_in (lean_c8 iA iB) (dB_c8 iA) (dB_c8 iB) ha
 have l:=V.den.lo
 have z:=share_boxes.2.2.1
 exact ⟨V.den.fit,by omega⟩
theorem mirror_less {a f:Res} (ha:In a aI) (hf:In f unitR):Fit (mulR (mulR (Mi.val (Mi.lean A B) A.z B.z a) f) A.z)∧val (mulR (mulR (Mi.val (Mi.lean A B) A.z B.z a) f) A.z).lo≤val (Mi.den (Mi.lean A B) B.z a).hi:=by
 have hl:=lean_c8 iA iB
 have i1:=sent_in hl (dB_c8 iA) (dB_c8 iB) ha hf
 have b:Fit (mulR (mulR (Mi.val cI8 cI8 cI8 aI) unitR) cI8):=.of (by decide +kernel)
 have i2:=mul_in i1 share_boxes.1 (dB_c8 iA) cI8_fit b.e
 exact ⟨i2.fit,sent_less hl (dB_c8 iA) (dB_c8 iB) ha hf i2.fit.e⟩
end
theorem pend_lo {a A:Res} (i:In a A):In (oneR a.lo) A:=⟨one_fit i.fit.lo i.fit.rlo,i.lo,Int.le_trans i.fit.le i.hi⟩
theorem flat_meets {r t:Res} (hr:In r ouI) (ht:In t oeI):val (Or.val r (oneR 0) t).lo≤val (valueR r).hi∧val (valueR r).lo≤val (Or.val r (oneR 0) t).hi:=by
 have hq:=HasQ.fst hr.fit
 have z0:In (oneR 0) ouI:=⟨Or.z_fit,by decide +kernel,by decide +kernel⟩
 have lam:HasQ (valueR r) (((val r.lo:Int):Rat) / ((SS:Int):Rat) / Qp):=HasQ.div hr.fit big_fit.1 hq pi_has two_pos.2.2 (lam_leaf hr).1.e
 have h0:HasQ (oneR 0) 0:=by have:=rv_has 0; rw [rv_0] at this; exact this
 have v:=val_has hr z0 ht hq h0 (HasQ.fst ht.fit)
 have x0:(0:Rat)≤((val r.lo:Int):Rat) / ((SS:Int):Rat)∧((val r.lo:Int):Rat) / ((SS:Int):Rat)≤1:=by
  have a:=pend_lo hr
  have k:0≤rv r.lo∧rv r.lo≤1:=by
   rw [←rv_0,←rv_1]
   exact ⟨rv_le.2 a.lo,rv_le.2 a.hi⟩
  exact k
 have e:valQ (((val r.lo:Int):Rat) / ((SS:Int):Rat)) 0 (((val t.lo:Int):Rat) / ((SS:Int):Rat))=((val r.lo:Int):Rat) / ((SS:Int):Rat) / Qp:=by
  generalize ((val r.lo:Int):Rat) / ((SS:Int):Rat)=x at *
  generalize ((val t.lo:Int):Rat) / ((SS:Int):Rat)=y at *
  have q3:=qp_3
  have qi:0 < Qp⁻¹:=Rat.inv_pos.2 (by grind)
  have e1:x*(aQ 0+bQ 0*y)=x / Qp:=by
   unfold aQ bQ
   rw [Rat.mul_zero,Rat.zero_mul,Rat.zero_mul,Rat.add_zero,Rat.add_zero,Rat.div_def,Rat.div_def,Rat.one_mul]
  unfold valQ
  rw [e1]
  have l0:0≤x / Qp:=by rw [Rat.div_def]; exact Rat.mul_nonneg x0.1 (Rat.le_of_lt qi)
  have l1:x / Qp≤1:=by
   refine Rat.le_of_mul_le_mul_right (c:=Qp) ?_ (by grind)
   have e2:x / Qp*Qp=x:=by grind
   rw [e2,Rat.one_mul]; grind
  unfold clampQ
  split
  ·grind
  ·split <;> grind
 rw [e] at v
 exact ⟨has_le v lam Rat.le_refl,has_le lam v Rat.le_refl⟩
end
end Go.Proofs.YtmkgfflebfpcdaaGreat
