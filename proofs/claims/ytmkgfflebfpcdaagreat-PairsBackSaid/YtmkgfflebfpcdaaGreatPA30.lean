/- What the claim stands on, part 31: MiS, GgM, GgH, MiM, MiN, MiO, MiQ, MiW, MiL. -/
import Derived.Test.YtmkgfflebfpcdaaGreatPA25
import Derived.Test.YtmkgfflebfpcdaaGreatPA26
import Derived.Test.YtmkgfflebfpcdaaGreatPA24
import Derived.Test.YtmkgfflebfpcdaaGreatPA15
import Derived.Deep.RegionHeld3
set_option maxHeartbeats 16000000
set_option maxRecDepth 100000
namespace Go.Proofs.YtmkgfflebfpcdaaGreat
section
open Go.RowKit
def capQ (x:Rat):Rat:=if x ≤ -1 then -1 else if 1≤x then 1 else x
theorem capQ_near {x y e:Rat} (h1:-e≤x - y) (h2:x - y≤e) (h3:-1 - e≤y) (h4:y≤1+e) (he:0≤e):-(2*e)≤capQ x - y∧capQ x - y≤2*e:=by
 unfold capQ
 split
 · constructor <;> grind
 · split <;> constructor <;> grind
theorem int_max (a b:Int):((max a b:Int):Rat)=(a:Rat)∧b≤a∨((max a b:Int):Rat)=(b:Rat)∧a≤b:=by
 rcases Int.le_total a b with h | h
 · exact Or.inr ⟨by rw [Int.max_eq_right h],h⟩
 · exact Or.inl ⟨by rw [Int.max_eq_left h],h⟩
theorem int_min (a b:Int):((min a b:Int):Rat)=(a:Rat)∧a≤b∨((min a b:Int):Rat)=(b:Rat)∧b≤a:=by
 rcases Int.le_total a b with h | h
 · exact Or.inl ⟨by rw [Int.min_eq_left h],h⟩
 · exact Or.inr ⟨by rw [Int.min_eq_right h],h⟩
theorem HasQ.boundW {r:Res} {x:Rat} (f:Fit r) (h:HasQ r x) (l:val r.lo≤SS) (g:-SS≤val r.hi):HasQ (boundR r) (capQ x):=by
 obtain⟨b1,b2⟩:=bound_ends f l g
 have S:=ssQ
 have h1:=h.low
 have h2:=h.high
 have l':((val r.lo:Int):Rat)≤((SS:Int):Rat):=Rat.intCast_le_intCast.2 l
 have g':-((SS:Int):Rat)≤((val r.hi:Int):Rat):=by rw [←Rat.intCast_neg]; exact Rat.intCast_le_intCast.2 g
 have n:((-SS:Int):Rat)=-((SS:Int):Rat):=Rat.intCast_neg _
 have m1:=int_max (val r.lo) (-SS)
 have m2:=int_min (val r.hi) SS
 rw [←b1] at m1
 rw [←b2] at m2
 generalize ((SS:Int):Rat)=s at *
 generalize ((val r.lo:Int):Rat)=a at *
 generalize ((val r.hi:Int):Rat)=b at *
 have k1:x ≤ -1→x*s ≤ -s:=fun q=>by have:=Rat.mul_nonneg (by grind:0 ≤ -1 - x) (by grind:0≤s); grind
 have k2:1≤x→s≤x*s:=fun q=>by have:=Rat.mul_nonneg (by grind:0≤x - 1) (by grind:0≤s); grind
 have k3:-1≤x → -s≤x*s:=fun q=>by have:=Rat.mul_nonneg (by grind:0≤x+1) (by grind:0≤s); grind
 have k4:x≤1→x*s≤s:=fun q=>by have:=Rat.mul_nonneg (by grind:0≤1 - x) (by grind:0≤s); grind
 have c:capQ x=-1∧x ≤ -1∨capQ x=1∧1≤x∨capQ x=x ∧ -1≤x∧x≤1:=by
   unfold capQ
   split
   · grind
   · split <;> grind
 constructor
 · rcases c with ⟨e,q⟩ | ⟨e,q⟩ | ⟨e,q,q'⟩ <;> rw [e] <;> rcases m1 with ⟨m,_⟩ | ⟨m,_⟩ <;> rw [m] <;> grind
 · rcases c with ⟨e,q⟩ | ⟨e,q⟩ | ⟨e,q,q'⟩ <;> rw [e] <;> rcases m2 with ⟨m,_⟩ | ⟨m,_⟩ <;> rw [m] <;> grind
def Cap1 (f:Nat→Rat):Prop:=∀ e:Rat,0 < e→∃ M:Nat,∀ m,M≤m → -1 - e≤f m∧f m≤1+e
theorem HasS.bound {r:Res} {f:Nat→Rat} (fr:Fit r) (h:HasS r f) (l:val r.lo≤SS) (g:-SS≤val r.hi) (b:Cap1 f):HasS (boundR r) f:=by
 obtain⟨f',a,k⟩:=h
 refine ⟨fun m=>capQ (f' m),fun m=>(a m).boundW fr l g,fun e he=>?_⟩
 obtain⟨M,hM⟩:=k (e / 2) (by grind)
 obtain⟨N,hN⟩:=b (e / 2) (by grind)
 refine ⟨M+N,fun m hm=>?_⟩
 have h1:=hM m (by omega)
 have h2:=hN m (by omega)
 have:=capQ_near (e:=e / 2) h1.1 h1.2 h2.1 h2.2 (by grind)
 grind
theorem cap_of {f g:Nat→Rat} (h:Eqv (fun m=>f m*f m+g m) fun _=>1) (h0:∀ m,0≤g m):Cap1 f:=fun e he=>by
 obtain⟨M,hM⟩:=h e he
 refine ⟨M,fun m hm=>?_⟩
 have k:=(hM m hm).2
 have k0:=h0 m
 simp only at k
 constructor
 · rcases Rat.le_total (a:=-1 - e) (b:=f m) with q | q
   · exact q
   · have:=Rat.mul_nonneg (by grind:0 ≤ -1 - e - f m) (by grind:0≤1+e - f m)
     have:=Rat.mul_nonneg (by grind:0≤e) (by grind:0≤e)
     grind
 · rcases Rat.le_total (a:=f m) (b:=1+e) with q | q
   · exact q
   · have:=Rat.mul_nonneg (by grind:0≤f m - (1+e)) (by grind:0≤f m+(1+e))
     have:=Rat.mul_nonneg (by grind:0≤e) (by grind:0≤e)
     grind
theorem sq_nn (a:Rat):0≤a*a:=by
 rcases Rat.le_total (a:=0) (b:=a) with g | g
 · exact Rat.mul_nonneg g g
 · have:=Rat.mul_nonneg (by grind:0 ≤ -a) (by grind:0 ≤ -a)
   grind
theorem unit_sum {y:Nat→Rat} {X Y Z d:Rat} (d0:0 < d) (a:Abv d y) (h:Eqv (fun m=>y m*y m) fun _=>X*X+Y*Y+Z*Z) :
   Eqv (fun m=>X / y m*(X / y m)+(Y / y m*(Y / y m)+Z / y m*(Z / y m))) fun _=>1:=by
 have b:=a.inv d0
 have k:=Nul.mul (b.mul b) h
 obtain⟨M,hM⟩:=a
 intro e he
 obtain⟨N,hN⟩:=k e he
 refine ⟨M+N,fun m hm=>?_⟩
 have h1:=hM m (by omega)
 have h2:=hN m (by omega)
 have n:y m≠0:=by grind
 have q:X / y m*(X / y m)+(Y / y m*(Y / y m)+Z / y m*(Z / y m)) - 1=-((y m)⁻¹*(y m)⁻¹*(y m*y m - (X*X+Y*Y+Z*Z))):=by
   have i:y m*(y m)⁻¹=1:=Rat.mul_inv_cancel _ n
   rw [Rat.div_def,Rat.div_def,Rat.div_def]
   grind
 simp only at h2 ⊢
 rw [q]
 grind
theorem div_ends {u:Nat} {n:Res} (ru:rightB u=true) (fn:Fit n) (n0:0 < val n.lo) (f:Fit (divR (oneR u) n)) (h1:val u≤val n.hi) (h2:-val u≤val n.hi):val (divR (oneR u) n).lo≤SS ∧ -SS≤val (divR (oneR u) n).hi:=by
 obtain⟨s,t,s0,t0,es,et,d,v⟩:=div_parts ru fn n0 f.e
 have S0:0≤SS:=ss_pos
 have sp:(0:Int) < s:=by omega
 have tp:(0:Int) < t:=by omega
 have c3:=d.ok.2.2.1
 have d3:=v.ok.2.2.1
 constructor
 · refine Int.le_of_mul_le_mul_right (Int.le_trans c3 ?_) sp
   by_cases q:0≤val u
   · rw [if_pos q] at es
     rw [es,Int.mul_comm SS]
     exact Int.mul_le_mul_of_nonneg_right h1 S0
   · have k1:=Int.mul_nonneg S0 (Int.le_of_lt sp)
     have k2:val u*SS≤0:=Int.mul_nonpos_of_nonpos_of_nonneg (by omega) S0
     omega
 · refine Int.le_of_mul_le_mul_right (Int.le_trans ?_ d3) tp
   by_cases q:0≤val u
   · have k1:=Int.mul_nonneg S0 (Int.le_of_lt tp)
     have k2:0≤val u*SS:=Int.mul_nonneg q S0
     rw [Int.neg_mul]
     omega
   · rw [if_neg q] at et
     rw [et,Int.neg_mul,Int.mul_comm SS,←Int.neg_mul]
     exact Int.mul_le_mul_of_nonneg_right (by omega) S0
theorem unit_seq {x y z:Nat} (lx:x < 18446744073709551616) (ly:y < 18446744073709551616) (lz:z < 18446744073709551616) (hU:hasU x y z=true) :
   ∃ f g h:Nat→Rat,HasS (unitV x y z).x f∧HasS (unitV x y z).y g∧HasS (unitV x y z).z h∧Eqv (fun m=>f m*f m+(g m*g m+h m*h m)) (fun _=>1)∧(0≤val z→∀ m,0≤h m):=by
 have hU':=hU
 unfold hasU leB at hU'
 simp only [Bool.and_eq_true,decide_eq_true_eq] at hU'
 obtain⟨⟨⟨h1,h2⟩,h3⟩,_⟩:=hU'
 obtain⟨fN,fx,fy,fz⟩:=unit_fits x y z lx ly lz hU
 obtain⟨n0,n1,n2,_⟩:=unit_norm x y z lx ly lz hU
 obtain⟨e1,e2,e3,e4,e5,e6,eN⟩:=norm_parts (A:=at3 x y z) fN.e
 have g1:=one_fit lx h1
 have g2:=one_fit ly h2
 have g3:=one_fit lz h3
 have q1:=(HasQ.one x).sqr g1 e1
 have q2:=(HasQ.one y).sqr g2 e2
 have q3:=(HasQ.one z).sqr g3 e3
 have f1:=sqr_fit g1 e1
 have f2:=sqr_fit g2 e2
 have f3:=sqr_fit g3 e3
 have f4:=add_fit f1 f2 e4
 have q4:=HasQ.add f1 f2 q1 q2 e4
 have q5:=HasQ.add f4 f3 q4 q3 e5
 have f5:=add_fit f4 f3 e5
 obtain⟨w,hw,w0,we⟩:=HasS.sqrt f5 (HasS.const q5) e6
 have hN:HasS (unitN x y z) w:=by
   show HasS (normV 0 (at3 x y z)) w
   rw [eN]; exact hw
 obtain⟨d,d0,aw⟩:=hN.abv n0
 have us:=unit_sum d0 aw we
 have s1:=self_nonneg (val x)
 have s2:=self_nonneg (val y)
 have s3:=self_nonneg (val z)
 have a1:=abs_le (a:=val x) (b:=val (unitN x y z).hi) (by have:=fN.le; omega) (by omega)
 have a2:=abs_le (a:=val y) (b:=val (unitN x y z).hi) (by have:=fN.le; omega) (by omega)
 have a3:=abs_le (a:=val z) (b:=val (unitN x y z).hi) (by have:=fN.le; omega) (by omega)
 obtain⟨b1,b1'⟩:=div_ends h1 fN n0 fx a1.1 a1.2
 obtain⟨b2,b2'⟩:=div_ends h2 fN n0 fy a2.1 a2.2
 obtain⟨b3,b3'⟩:=div_ends h3 fN n0 fz a3.1 a3.2
 have p1:=HasS.div g1 fN (HasS.const (HasQ.one x)) hN n0 fx.e
 have p2:=HasS.div g2 fN (HasS.const (HasQ.one y)) hN n0 fy.e
 have p3:=HasS.div g3 fN (HasS.const (HasQ.one z)) hN n0 fz.e
 have S:=ssQ
 obtain⟨X,hX⟩:∃ X:Rat,X=((val x:Int):Rat) / ((SS:Int):Rat):=⟨_,rfl⟩
 obtain⟨Y,hY⟩:∃ Y:Rat,Y=((val y:Int):Rat) / ((SS:Int):Rat):=⟨_,rfl⟩
 obtain⟨Z,hZ⟩:∃ Z:Rat,Z=((val z:Int):Rat) / ((SS:Int):Rat):=⟨_,rfl⟩
 rw [←hX,←hY,←hZ] at us
 rw [←hX] at p1
 rw [←hY] at p2
 rw [←hZ] at p3
 have nn:∀ a b:Rat,0≤a*a+b*b:=fun a b=>by
   have h1:=sq_nn a
   have h2:=sq_nn b
   grind
 have c1:Cap1 fun m=>X / w m:=cap_of (g:=fun m=>Y / w m*(Y / w m)+Z / w m*(Z / w m)) us fun m=>nn _ _
 have c2:Cap1 fun m=>Y / w m:=cap_of (g:=fun m=>X / w m*(X / w m)+Z / w m*(Z / w m)) (Nul.of us fun m=>by grind) fun m=>nn _ _
 have c3:Cap1 fun m=>Z / w m:=cap_of (g:=fun m=>X / w m*(X / w m)+Y / w m*(Y / w m)) (Nul.of us fun m=>by grind) fun m=>nn _ _
 refine ⟨fun m=>X / w m,fun m=>Y / w m,fun m=>Z / w m,p1.bound fx b1 b1' c1,p2.bound fy b2 b2' c2,p3.bound fz b3 b3' c3,us,fun hz m=>?_⟩
 have z0:0≤Z:=by
   rw [hZ,Rat.div_def]
   exact Rat.mul_nonneg (Rat.intCast_nonneg.2 hz) (by have:=Rat.inv_pos.2 S; grind)
 have wm:=w0 m
 show 0≤Z / w m
 by_cases q:w m=0
 · rw [q,Rat.div_def,Rat.inv_zero,Rat.mul_zero]; exact Rat.le_refl
 · have:=Rat.inv_pos.2 (by grind:0 < w m)
   rw [Rat.div_def]
   exact Rat.mul_nonneg z0 (by grind)
end
section
open Go.RowKit
def uh:Nat:=4602678819172646912
theorem uh_fit:Fit (oneR uh):=one_fit (by decide) (by decide)
def aI:Res:=⟨0,4584664420663164928,u1⟩
def cI8:Res:=⟨0,4571153621781053440,u1⟩
theorem aI_fit:Fit aI:=.of (by decide +kernel)
theorem cI8_fit:Fit cI8:=.of (by decide +kernel)
def nnR (r:Res):Res:=⟨r.e,maxW r.lo 0,maxW r.hi 0⟩
theorem nn_fit {a:Res} (h:Fit a):Fit (nnR a):=by
 obtain⟨l1,l2,l3⟩:=max_facts a.lo 0 h.lo (by decide) h.rlo (by decide)
 obtain⟨k1,k2,k3⟩:=max_facts a.hi 0 h.hi (by decide) h.rhi (by decide)
 have hle:=h.le
 refine ⟨h.e,l1,k1,?_⟩
 show ivR (maxW a.lo 0) (maxW a.hi 0)=true
 unfold ivR leB
 rw [l2,k2,decide_eq_true (show val (maxW a.lo 0)≤val (maxW a.hi 0) by rw [l3,k3]; omega)]; rfl
theorem nn_in {a A:Res} (h:In a A) (fA:Fit A):In (nnR a) (nnR A):=by
 obtain⟨_,_,l3⟩:=max_facts a.lo 0 h.fit.lo (by decide) h.fit.rlo (by decide)
 obtain⟨_,_,k3⟩:=max_facts a.hi 0 h.fit.hi (by decide) h.fit.rhi (by decide)
 obtain⟨_,_,m3⟩:=max_facts A.lo 0 fA.lo (by decide) fA.rlo (by decide)
 obtain⟨_,_,n3⟩:=max_facts A.hi 0 fA.hi (by decide) fA.rhi (by decide)
 have h1:=h.lo
 have h2:=h.hi
 refine ⟨nn_fit h.fit,?_,?_⟩
 · show val (maxW A.lo 0)≤val (maxW a.lo 0)
   rw [l3,m3]; omega
 · show val (maxW a.hi 0)≤val (maxW A.hi 0)
   rw [k3,n3]; omega
def Gx.a2 (a:Res):Res:=sqrR a
def Gx.s1 (a:Res):Res:=subR (Gx.a2 a) (oneR u1)
def Gx.c2 (c:Res):Res:=sqrR c
def Gx.pm (c a:Res):Res:=mulR (Gx.s1 a) (Gx.c2 c)
def Gx.sp (c a:Res):Res:=addR (Gx.pm c a) (oneR u1)
def Gx.sq (c a:Res):Res:=sqrR (Gx.sp c a)
def Gx.pq (c a:Res):Res:=mulR piR (Gx.sq c a)
def Gx.D (c a:Res):Res:=divR (Gx.a2 a) (Gx.pq c a)
def Gx.n (c:Res):Res:=subR (oneR u1) (Gx.c2 c)
def Gx.F (c a:Res):Res:=divR (Gx.n c) (Gx.sp c a)
def Gx.t (c:Res):Res:=divR (Gx.n c) (Gx.c2 c)
def Gx.m (c a:Res):Res:=mulR (Gx.a2 a) (Gx.t c)
def Gx.p (c a:Res):Res:=addR (oneR u1) (Gx.m c a)
def Gx.r (c a:Res):Res:=sqrtR (Gx.p c a)
def Gx.d (c a:Res):Res:=subR (Gx.r c a) (oneR u1)
def Gx.h (c a:Res):Res:=mulR (oneR uh) (Gx.d c a)
def Gx.l (c a:Res):Res:=nnR (Gx.h c a)
def Gx.q (c a:Res):Res:=addR (oneR u1) (Gx.l c a)
def Gx.v (c a:Res):Res:=divR (oneR u1) (Gx.q c a)
def Gx.q2 (i o a:Res):Res:=addR (Gx.q i a) (Gx.l o a)
def Gx.w (i o a:Res):Res:=divR (oneR u1) (Gx.q2 i o a)
structure GF (c a:Res):Prop where
 a2:Fit (Gx.a2 a)
 s1:Fit (Gx.s1 a)
 c2:Fit (Gx.c2 c)
 pm:Fit (Gx.pm c a)
 sp:Fit (Gx.sp c a)
 sq:Fit (Gx.sq c a)
 pq:Fit (Gx.pq c a)
 D:Fit (Gx.D c a)
 n:Fit (Gx.n c)
 F:Fit (Gx.F c a)
structure LF (c a:Res):Prop where
 t:Fit (Gx.t c)
 m:Fit (Gx.m c a)
 p:Fit (Gx.p c a)
 r:Fit (Gx.r c a)
 d:Fit (Gx.d c a)
 h:Fit (Gx.h c a)
 l:Fit (Gx.l c a)
 q:Fit (Gx.q c a)
 v:Fit (Gx.v c a)
structure GI (c a C A:Res):Prop where
 a2:In (Gx.a2 a) (Gx.a2 A)
 s1:In (Gx.s1 a) (Gx.s1 A)
 c2:In (Gx.c2 c) (Gx.c2 C)
 pm:In (Gx.pm c a) (Gx.pm C A)
 sp:In (Gx.sp c a) (Gx.sp C A)
 sq:In (Gx.sq c a) (Gx.sq C A)
 pq:In (Gx.pq c a) (Gx.pq C A)
 D:In (Gx.D c a) (Gx.D C A)
 n:In (Gx.n c) (Gx.n C)
 F:In (Gx.F c a) (Gx.F C A)
structure LI (c a C A:Res):Prop where
 t:In (Gx.t c) (Gx.t C)
 m:In (Gx.m c a) (Gx.m C A)
 p:In (Gx.p c a) (Gx.p C A)
 r:In (Gx.r c a) (Gx.r C A)
 d:In (Gx.d c a) (Gx.d C A)
 h:In (Gx.h c a) (Gx.h C A)
 l:In (Gx.l c a) (Gx.l C A)
 q:In (Gx.q c a) (Gx.q C A)
 v:In (Gx.v c a) (Gx.v C A)
section
variable {c a C A:Res}
theorem gi_of (K:GF C A) (fc:Fit C) (fa:Fit A) (hc:In c C) (ha:In a A):GI c a C A:=by
 have i_a2:In (Gx.a2 a) (Gx.a2 A):=sqr_in ha fa K.a2.e
 have i_s1:In (Gx.s1 a) (Gx.s1 A):=sub_in i_a2 K.a2 (.refl u1_fit) u1_fit K.s1.e
 have i_c2:In (Gx.c2 c) (Gx.c2 C):=sqr_in hc fc K.c2.e
 have i_pm:In (Gx.pm c a) (Gx.pm C A):=mul_in i_s1 K.s1 i_c2 K.c2 K.pm.e
 have i_sp:In (Gx.sp c a) (Gx.sp C A):=add_in i_pm K.pm (.refl u1_fit) u1_fit K.sp.e
 have i_sq:In (Gx.sq c a) (Gx.sq C A):=sqr_in i_sp K.sp K.sq.e
 have i_pq:In (Gx.pq c a) (Gx.pq C A):=mul_in (.refl big_fit.1) big_fit.1 i_sq K.sq K.pq.e
 have i_D:In (Gx.D c a) (Gx.D C A):=div_in i_a2 K.a2 i_pq K.pq K.D.e
 have i_n:In (Gx.n c) (Gx.n C):=sub_in (.refl u1_fit) u1_fit i_c2 K.c2 K.n.e
 have i_F:In (Gx.F c a) (Gx.F C A):=div_in i_n K.n i_sp K.sp K.F.e
 exact ⟨i_a2,i_s1,i_c2,i_pm,i_sp,i_sq,i_pq,i_D,i_n,i_F⟩
theorem li_of (K:GF C A) (L:LF C A) (fc:Fit C) (fa:Fit A) (hc:In c C) (ha:In a A):LI c a C A:=by
 have I:=gi_of K fc fa hc ha
 have i_t:In (Gx.t c) (Gx.t C):=div_in I.n K.n I.c2 K.c2 L.t.e
 have i_m:In (Gx.m c a) (Gx.m C A):=mul_in I.a2 K.a2 i_t L.t L.m.e
 have i_p:In (Gx.p c a) (Gx.p C A):=add_in (.refl u1_fit) u1_fit i_m L.m L.p.e
 have i_r:In (Gx.r c a) (Gx.r C A):=sqrt_in i_p L.p L.r.e
 have i_d:In (Gx.d c a) (Gx.d C A):=sub_in i_r L.r (.refl u1_fit) u1_fit L.d.e
 have i_h:In (Gx.h c a) (Gx.h C A):=mul_in (.refl uh_fit) uh_fit i_d L.d L.h.e
 have i_l:In (Gx.l c a) (Gx.l C A):=nn_in i_h L.h
 have i_q:In (Gx.q c a) (Gx.q C A):=add_in (.refl u1_fit) u1_fit i_l L.l L.q.e
 have i_v:In (Gx.v c a) (Gx.v C A):=div_in (.refl u1_fit) u1_fit i_q L.q L.v.e
 exact ⟨i_t,i_m,i_p,i_r,i_d,i_h,i_l,i_q,i_v⟩
theorem GI.fits (h:GI c a C A):GF c a:=⟨h.a2.fit,h.s1.fit,h.c2.fit,h.pm.fit,h.sp.fit,h.sq.fit,h.pq.fit,h.D.fit,h.n.fit,h.F.fit⟩
theorem LI.fits (h:LI c a C A):LF c a:=⟨h.t.fit,h.m.fit,h.p.fit,h.r.fit,h.d.fit,h.h.fit,h.l.fit,h.q.fit,h.v.fit⟩
def okG (C A:Res):Bool:=fitB (Gx.a2 A)&&fitB (Gx.s1 A)&&fitB (Gx.c2 C)&&fitB (Gx.pm C A)&&fitB (Gx.sp C A)&&fitB (Gx.sq C A)&&fitB (Gx.pq C A)&&fitB (Gx.D C A)&&fitB (Gx.n C)&&fitB (Gx.F C A)
def okL (C A:Res):Bool:=fitB (Gx.t C)&&fitB (Gx.m C A)&&fitB (Gx.p C A)&&fitB (Gx.r C A)&&fitB (Gx.d C A)&&fitB (Gx.h C A)&&fitB (Gx.l C A)&&fitB (Gx.q C A)&&fitB (Gx.v C A)
theorem gf_of (h:okG C A=true):GF C A:=by
 unfold okG at h
 simp only [Bool.and_eq_true] at h
 obtain⟨⟨⟨⟨⟨⟨⟨⟨⟨h_a2,h_s1⟩,h_c2⟩,h_pm⟩,h_sp⟩,h_sq⟩,h_pq⟩,h_D⟩,h_n⟩,h_F⟩:=h
 exact ⟨.of h_a2,.of h_s1,.of h_c2,.of h_pm,.of h_sp,.of h_sq,.of h_pq,.of h_D,.of h_n,.of h_F⟩
theorem lf_of (h:okL C A=true):LF C A:=by
 unfold okL at h
 simp only [Bool.and_eq_true] at h
 obtain⟨⟨⟨⟨⟨⟨⟨⟨h_t,h_m⟩,h_p⟩,h_r⟩,h_d⟩,h_h⟩,h_l⟩,h_q⟩,h_v⟩:=h
 exact ⟨.of h_t,.of h_m,.of h_p,.of h_r,.of h_d,.of h_h,.of h_l,.of h_q,.of h_v⟩
end
theorem gf_box:GF ouI aI:=gf_of (by decide +kernel)
theorem lf_box:LF cI8 aI:=lf_of (by decide +kernel)
theorem gf_box8:GF cI8 aI:=gf_of (by decide +kernel)
theorem gx_lows:0 < val (Gx.sp ouI aI).lo∧0 < val (Gx.pq ouI aI).lo∧0 < val (Gx.c2 cI8).lo∧0≤val (Gx.h cI8 aI).lo∧0 < val (Gx.q cI8 aI).lo:=by decide +kernel
theorem nil_in:In (oneR 0) ouI:=⟨Or.z_fit,by decide +kernel,by decide +kernel⟩
section
variable {c a:Res}
theorem g_in (hc:In c ouI) (ha:In a aI):GI c a ouI aI:=gi_of gf_box ou_fit aI_fit hc ha
theorem g8_in (hc:In c cI8) (ha:In a aI):GI c a cI8 aI:=gi_of gf_box8 cI8_fit aI_fit hc ha
theorem l8_in (hc:In c cI8) (ha:In a aI):LI c a cI8 aI:=li_of gf_box8 lf_box cI8_fit aI_fit hc ha
theorem one_has:HasQ (oneR u1) 1:=by have h:=rv_has u1; rw [rv_1] at h; exact h
section
variable {x y:Rat}
end
end
end
section
open Go.RowKit
theorem w_boxes:Fit (Gx.q2 cI8 cI8 aI)∧Fit (Gx.w cI8 cI8 aI):=⟨.of (by decide +kernel),.of (by decide +kernel)⟩
theorem w_ends:0 < val (Gx.q2 cI8 cI8 aI).lo∧0 < val (Gx.w cI8 cI8 aI).lo∧0 < val (Gx.v cI8 aI).lo∧val (Gx.v cI8 aI).hi=val u1∧0≤val (Gx.l cI8 aI).lo:=by decide +kernel
section
variable {i o a:Res} (hi:In i cI8) (ho:In o cI8) (ha:In a aI)
include hi ho ha
theorem q2_in:In (Gx.q2 i o a) (Gx.q2 cI8 cI8 aI):=add_in (l8_in hi ha).q lf_box.q (l8_in ho ha).l lf_box.l w_boxes.1.e
theorem w_in:In (Gx.w i o a) (Gx.w cI8 cI8 aI):=div_in (.refl u1_fit) u1_fit (q2_in hi ho ha) w_boxes.1 w_boxes.2.e
end
def lq (c a:Res):Rat:=((val (Gx.l c a).lo:Int):Rat) / ((SS:Int):Rat)
section
variable {i o a:Res} (hi:In i cI8) (ha:In a aI)
include hi ha
theorem lq_has:HasQ (Gx.l i a) (lq i a):=HasQ.fst (l8_in hi ha).l.fit
theorem q_has:HasQ (Gx.q i a) (1+lq i a):=HasQ.add u1_fit (l8_in hi ha).l.fit one_has (lq_has hi ha) (l8_in hi ha).q.fit.e
theorem v_has:HasQ (Gx.v i a) (1 / (1+lq i a)):=
 HasQ.div u1_fit (l8_in hi ha).q.fit one_has (q_has hi ha) (by have:=(l8_in hi ha).q.lo; have:=gx_lows.2.2.2.2; omega) (l8_in hi ha).v.fit.e
theorem w_has (ho:In o cI8):HasQ (Gx.w i o a) (1 / (1+lq i a+lq o a)):=
 HasQ.div u1_fit (q2_in hi ho ha).fit one_has (HasQ.add (l8_in hi ha).q.fit (l8_in ho ha).l.fit (q_has hi ha) (lq_has ho ha) (q2_in hi ho ha).fit.e) (by have:=(q2_in hi ho ha).lo; have:=w_ends.1; omega) (w_in hi ho ha).fit.e
end
def wc (i:Nat):Nat:=4571153621781053440+i*4503599627370496
def cb (i:Nat):Res:=⟨0,wc i,wc (i+1)⟩
end
section
open Go.RowKit
def Mi.sx (A B:V3):Res:=addR A.x B.x
def Mi.sy (A B:V3):Res:=addR A.y B.y
def Mi.sz (A B:V3):Res:=addR A.z B.z
def Mi.n1 (A B:V3):Res:=sqrR (Mi.sx A B)
def Mi.n2 (A B:V3):Res:=sqrR (Mi.sy A B)
def Mi.n3 (A B:V3):Res:=addR (Mi.n1 A B) (Mi.n2 A B)
def Mi.n4 (A B:V3):Res:=sqrR (Mi.sz A B)
def Mi.n5 (A B:V3):Res:=addR (Mi.n3 A B) (Mi.n4 A B)
def Mi.n (A B:V3):Res:=sqrtR (Mi.n5 A B)
def Mi.h (A B:V3):Res:=mulR (oneR uh) (Mi.n A B)
def Mi.half (A B:V3):Res:=clampR (Mi.h A B)
def Mi.l (A B:V3):Res:=divR (Mi.sz A B) (Mi.n A B)
def Mi.lean (A B:V3):Res:=clampR (Mi.l A B)
structure MF (A B:V3):Prop where
 sx:Fit (Mi.sx A B)
 sy:Fit (Mi.sy A B)
 sz:Fit (Mi.sz A B)
 n1:Fit (Mi.n1 A B)
 n2:Fit (Mi.n2 A B)
 n3:Fit (Mi.n3 A B)
 n4:Fit (Mi.n4 A B)
 n5:Fit (Mi.n5 A B)
 n:Fit (Mi.n A B)
 h:Fit (Mi.h A B)
 l:Fit (Mi.l A B)
structure MI (a b A B:V3):Prop where
 sx:In (Mi.sx a b) (Mi.sx A B)
 sy:In (Mi.sy a b) (Mi.sy A B)
 sz:In (Mi.sz a b) (Mi.sz A B)
 n1:In (Mi.n1 a b) (Mi.n1 A B)
 n2:In (Mi.n2 a b) (Mi.n2 A B)
 n3:In (Mi.n3 a b) (Mi.n3 A B)
 n4:In (Mi.n4 a b) (Mi.n4 A B)
 n5:In (Mi.n5 a b) (Mi.n5 A B)
 n:In (Mi.n a b) (Mi.n A B)
 h:In (Mi.h a b) (Mi.h A B)
 l:In (Mi.l a b) (Mi.l A B)
theorem MI.fits {a b A B:V3} (h:MI a b A B):MF a b:=⟨h.sx.fit,h.sy.fit,h.sz.fit,h.n1.fit,h.n2.fit,h.n3.fit,h.n4.fit,h.n5.fit,h.n.fit,h.h.fit,h.l.fit⟩
theorem mi_of {a b A B:V3} (K:MF A B) (fA:FitV A) (fB:FitV B) (ia:InV a A) (ib:InV b B):MI a b A B:=by
 have sx:In (Mi.sx a b) (Mi.sx A B):=add_in ia.x fA.x ib.x fB.x K.sx.e
 have sy:In (Mi.sy a b) (Mi.sy A B):=add_in ia.y fA.y ib.y fB.y K.sy.e
 have sz:In (Mi.sz a b) (Mi.sz A B):=add_in ia.z fA.z ib.z fB.z K.sz.e
 have n1:In (Mi.n1 a b) (Mi.n1 A B):=sqr_in sx K.sx K.n1.e
 have n2:In (Mi.n2 a b) (Mi.n2 A B):=sqr_in sy K.sy K.n2.e
 have n3:In (Mi.n3 a b) (Mi.n3 A B):=add_in n1 K.n1 n2 K.n2 K.n3.e
 have n4:In (Mi.n4 a b) (Mi.n4 A B):=sqr_in sz K.sz K.n4.e
 have n5:In (Mi.n5 a b) (Mi.n5 A B):=add_in n3 K.n3 n4 K.n4 K.n5.e
 have n:In (Mi.n a b) (Mi.n A B):=root_in n5 K.n5 K.n.e
 exact ⟨sx,sy,sz,n1,n2,n3,n4,n5,n,mul_in (.refl uh_fit) uh_fit n K.n K.h.e,div_in sz K.sz n K.n K.l.e⟩
def okM (A B:V3):Bool:=fitB (Mi.sx A B)&&fitB (Mi.sy A B)&&fitB (Mi.sz A B)&&fitB (Mi.n1 A B)&&fitB (Mi.n2 A B)&&fitB (Mi.n3 A B)&&fitB (Mi.n4 A B)&&fitB (Mi.n5 A B)&&fitB (Mi.n A B)&&fitB (Mi.h A B)&&fitB (Mi.l A B)
theorem mf_of {A B:V3} (h:okM A B=true):MF A B:=by
 unfold okM at h
 simp only [Bool.and_eq_true] at h
 obtain⟨⟨⟨⟨⟨⟨⟨⟨⟨⟨h1,h2⟩,h3⟩,h4⟩,h5⟩,h6⟩,h7⟩,h8⟩,h9⟩,h10⟩,h11⟩:=h
 exact ⟨.of h1,.of h2,.of h3,.of h4,.of h5,.of h6,.of h7,.of h8,.of h9,.of h10,.of h11⟩
def zI7:Res:=⟨0,4575657221408423936,u1⟩
def dB:V3:=⟨⟨0,m1,u1⟩,⟨0,m1,u1⟩,zI7⟩
theorem dB_fit:FitV dB:=⟨.of (by decide +kernel),.of (by decide +kernel),.of (by decide +kernel)⟩
theorem mf_box:MF dB dB:=mf_of (by decide +kernel)
theorem mi_lows:0 < val (Mi.n dB dB).lo∧val cI8.lo≤val (Mi.lean dB dB).lo∧val (Mi.lean dB dB).hi≤val cI8.hi∧val cI8.lo≤val zI7.lo:=by decide +kernel
section
variable {A B:V3} (iA:InV A dB) (iB:InV B dB)
include iA iB
theorem md_in:MI A B dB dB:=mi_of mf_box dB_fit dB_fit iA iB
theorem lean_c8:In (Mi.lean A B) cI8:=by
 have h:=clamp_in (md_in iA iB).l mf_box.l
 obtain⟨_,h1,h2,_⟩:=mi_lows
 exact ⟨h.fit,Int.le_trans h1 h.lo,Int.le_trans h.hi h2⟩
end
section
variable {A B:V3} {f g h f' g' h':Nat→Rat} (K:MF A B) (FA:FitV A) (FB:FitV B) (n0:0 < val (Mi.n A B).lo)
 (a1:HasS A.x f) (a2:HasS A.y g) (a3:HasS A.z h) (b1:HasS B.x f') (b2:HasS B.y g') (b3:HasS B.z h')
 (uA:Eqv (fun m=>f m*f m+(g m*g m+h m*h m)) fun _=>1) (uB:Eqv (fun m=>f' m*f' m+(g' m*g' m+h' m*h' m)) fun _=>1) (pA:∀ m,0≤h m) (pB:∀ m,0≤h' m)
include K FA FB n0 a1 a2 a3 b1 b2 b3 uA uB pA pB
end
end
section
open Go.RowKit
def w4:Nat:=4616189618054758400
theorem w4_fit:Fit (oneR w4):=one_fit (by decide) (by decide)
theorem w24_val:val w2=2*SS∧val w4=4*SS:=by decide +kernel
theorem four_has:HasQ (oneR w4) 4:=HasQ.lit w24_val.2 rfl
def Mi.t (A B:V3):Res:=mulR (oneR w2) (Mi.half A B)
def Mi.u (A B:V3):Res:=mulR (Mi.t A B) (Mi.lean A B)
def Mi.d1 (A B:V3):Res:=mulR A.x B.x
def Mi.d2 (A B:V3):Res:=mulR A.y B.y
def Mi.d3 (A B:V3):Res:=addR (Mi.d1 A B) (Mi.d2 A B)
def Mi.d4 (A B:V3):Res:=mulR A.z B.z
def Mi.d5 (A B:V3):Res:=addR (Mi.d3 A B) (Mi.d4 A B)
def Mi.q (A B:V3):Res:=addR (oneR u1) (Mi.d5 A B)
def Mi.r (A B:V3):Res:=divR (Mi.q A B) (oneR w2)
def Mi.w (A B:V3):Res:=sqrR (Mi.half A B)
structure NI (a b A B:V3):Prop where
 t:In (Mi.t a b) (Mi.t A B)
 u:In (Mi.u a b) (Mi.u A B)
 d1:In (Mi.d1 a b) (Mi.d1 A B)
 d2:In (Mi.d2 a b) (Mi.d2 A B)
 d3:In (Mi.d3 a b) (Mi.d3 A B)
 d4:In (Mi.d4 a b) (Mi.d4 A B)
 d5:In (Mi.d5 a b) (Mi.d5 A B)
 q:In (Mi.q a b) (Mi.q A B)
 r:In (Mi.r a b) (Mi.r A B)
 w:In (Mi.w a b) (Mi.w A B)
section
variable {A B:V3} (iA:InV A dB) (iB:InV B dB)
include iA iB
end
def Mi.v1 (l i o a:Res):Res:=mulR (Gx.D l a) (Gx.w i o a)
def Mi.v2 (i:Res):Res:=mulR (oneR w4) i
def Mi.v3 (i o:Res):Res:=mulR (Mi.v2 i) o
def Mi.val (l i o a:Res):Res:=divR (Mi.v1 l i o a) (Mi.v3 i o)
def Mi.p1 (l o a:Res):Res:=mulR (Gx.v o a) (Gx.D l a)
def Mi.den (l o a:Res):Res:=divR (Mi.p1 l o a) (Mi.v2 o)
def Mi.s1 (l i o a:Res):Res:=mulR (Mi.val l i o a) i
def Mi.s2 (l i o a:Res):Res:=mulR (Mi.s1 l i o a) (Gx.v o a)
def Mi.s3 (l i o a:Res):Res:=mulR (Mi.den l o a) (Gx.w i o a)
structure VI (l i o a L I O A:Res):Prop where
 v1:In (Mi.v1 l i o a) (Mi.v1 L I O A)
 v2:In (Mi.v2 i) (Mi.v2 I)
 v2':In (Mi.v2 o) (Mi.v2 O)
 v3:In (Mi.v3 i o) (Mi.v3 I O)
 val:In (Mi.val l i o a) (Mi.val L I O A)
 p1:In (Mi.p1 l o a) (Mi.p1 L O A)
 den:In (Mi.den l o a) (Mi.den L O A)
 s1:In (Mi.s1 l i o a) (Mi.s1 L I O A)
 s2:In (Mi.s2 l i o a) (Mi.s2 L I O A)
 s3:In (Mi.s3 l i o a) (Mi.s3 L I O A)
theorem v_boxes:(fitB (Mi.v1 cI8 cI8 cI8 aI)&&fitB (Mi.v2 cI8)&&fitB (Mi.v3 cI8 cI8)&&fitB (Mi.val cI8 cI8 cI8 aI)&&fitB (Mi.p1 cI8 cI8 aI)&&fitB (Mi.den cI8 cI8 aI)&&fitB (Mi.s1 cI8 cI8 cI8 aI)&&fitB (Mi.s2 cI8 cI8 cI8 aI)&&fitB (Mi.s3 cI8 cI8 cI8 aI))=true:=by decide +kernel
theorem v_lows:0 < val (Mi.v2 cI8).lo∧0 < val (Mi.v3 cI8 cI8).lo∧0≤val (Mi.val cI8 cI8 cI8 aI).lo∧0≤val (Mi.den cI8 cI8 aI).lo∧0 < val cI8.lo:=by decide +kernel
theorem fst_pos {c:Res} (hc:In c cI8):∃ x:Rat,HasQ c x∧x≠0:=by
 refine ⟨_,HasQ.fst hc.fit,?_⟩
 have h:=hc.lo
 have p:=v_lows.2.2.2.2
 have n:(0:Rat) < ((val c.lo:Int):Rat):=Rat.intCast_pos.2 (by omega)
 have:=Rat.mul_pos n (Rat.inv_pos.2 ssQ)
 rw [Rat.div_def]
 grind
section
variable {l i o a:Res} (hl:In l cI8) (hi:In i cI8) (ho:In o cI8) (ha:In a aI)
include hl hi ho ha
theorem vd_in:VI l i o a cI8 cI8 cI8 aI:=by
 have h:=v_boxes
 simp only [Bool.and_eq_true] at h
 obtain⟨⟨⟨⟨⟨⟨⟨⟨h1,h2⟩,h3⟩,h4⟩,h5⟩,h6⟩,h7⟩,h8⟩,h9⟩:=h
 have D:=(g8_in hl ha).D
 have W:=w_in hi ho ha
 have V:=(l8_in ho ha).v
 have v1:In (Mi.v1 l i o a) (Mi.v1 cI8 cI8 cI8 aI):=mul_in D gf_box8.D W w_boxes.2 (Fit.of h1).e
 have v2:In (Mi.v2 i) (Mi.v2 cI8):=mul_in (.refl w4_fit) w4_fit hi cI8_fit (Fit.of h2).e
 have v2':In (Mi.v2 o) (Mi.v2 cI8):=mul_in (.refl w4_fit) w4_fit ho cI8_fit (Fit.of h2).e
 have v3:In (Mi.v3 i o) (Mi.v3 cI8 cI8):=mul_in v2 (.of h2) ho cI8_fit (Fit.of h3).e
 have vl:In (Mi.val l i o a) (Mi.val cI8 cI8 cI8 aI):=div_in v1 (.of h1) v3 (.of h3) (Fit.of h4).e
 have p1:In (Mi.p1 l o a) (Mi.p1 cI8 cI8 aI):=mul_in V lf_box.v D gf_box8.D (Fit.of h5).e
 have dn:In (Mi.den l o a) (Mi.den cI8 cI8 aI):=div_in p1 (.of h5) v2' (.of h2) (Fit.of h6).e
 have s1:In (Mi.s1 l i o a) (Mi.s1 cI8 cI8 cI8 aI):=mul_in vl (.of h4) hi cI8_fit (Fit.of h7).e
 exact ⟨v1,v2,v2',v3,vl,p1,dn,s1,mul_in s1 (.of h7) V lf_box.v (Fit.of h8).e,mul_in dn (.of h6) W w_boxes.2 (Fit.of h9).e⟩
theorem value_has {x y d:Rat} (hx:HasQ i x) (hy:HasQ o y) (hd:HasQ (Gx.D l a) d):HasQ (Mi.val l i o a) (d*(1 / (1+lq i a+lq o a)) / (4*x*y))∧HasQ (Mi.den l o a) (1 / (1+lq o a)*d / (4*y)):=by
 have V:=vd_in hl hi ho ha
 have D:=(g8_in hl ha).D.fit
 have W:=(w_in hi ho ha).fit
 obtain⟨p1,p2,_⟩:=v_lows
 have v1:=HasQ.mul D W hd (w_has hi ha ho) V.v1.fit.e
 have v2:=HasQ.mul w4_fit hi.fit four_has hx V.v2.fit.e
 have v2':=HasQ.mul w4_fit ho.fit four_has hy V.v2'.fit.e
 have v3:=HasQ.mul V.v2.fit ho.fit v2 hy V.v3.fit.e
 have q1:=HasQ.mul (l8_in ho ha).v.fit D (v_has ho ha) hd V.p1.fit.e
 exact ⟨HasQ.div V.v1.fit V.v3.fit v1 v3 (by have:=V.v3.lo; omega) V.val.fit.e,HasQ.div V.p1.fit V.v2'.fit q1 v2' (by have:=V.v2'.lo; omega) V.den.fit.e⟩
end
end
section
open Go.RowKit
theorem word_down {s:Nat} {T:Int} {c c':Nat} (h:Down s T c 0) (h':Down s T c' 0):c=c':=by
 obtain⟨c1,c2,c3,c4⟩:=h.ok
 obtain⟨d1,d2,d3,d4⟩:=h'.ok
 exact val_inj c1 d1 c2 d2 (Int.le_antisymm (d4 c c1 c2 c3) (c4 c' d1 d2 d3))
theorem word_up {s:Nat} {T:Int} {c c':Nat} (h:Up s T c 0) (h':Up s T c' 0):c=c':=by
 obtain⟨c1,c2,c3,c4⟩:=h.ok
 obtain⟨d1,d2,d3,d4⟩:=h'.ok
 exact val_inj c1 d1 c2 d2 (Int.le_antisymm (c4 c' d1 d2 d3) (d4 c c1 c2 c3))
theorem res_one {r s:Res} (h:r.e=s.e) (h1:r.lo=s.lo) (h2:r.hi=s.hi):r=s:=by
 obtain⟨e,lo,hi⟩:=r
 obtain⟨e',lo',hi'⟩:=s
 simp only at h h1 h2
 rw [h,h1,h2]
theorem add_swap {a b:Res} (fa:Fit a) (fb:Fit b) (h:(addR a b).e=0) (h':(addR b a).e=0):addR b a=addR a b:=by
 obtain⟨d,u⟩:=add_parts fa fb h
 obtain⟨d',u'⟩:=add_parts fb fa h'
 rw [Int.add_comm] at d' u'
 exact res_one (by rw [h,h']) (word_down d' d) (word_up u' u)
section
variable {A B:V3} (iA:InV A dB) (iB:InV B dB)
include iA iB
theorem half_swap:Mi.half B A=Mi.half A B∧Mi.lean B A=Mi.lean A B:=by
 have K:=(md_in iA iB).fits
 have K':=(md_in iB iA).fits
 have e1:Mi.sx B A=Mi.sx A B:=add_swap iA.x.fit iB.x.fit K.sx.e K'.sx.e
 have e2:Mi.sy B A=Mi.sy A B:=add_swap iA.y.fit iB.y.fit K.sy.e K'.sy.e
 have e3:Mi.sz B A=Mi.sz A B:=add_swap iA.z.fit iB.z.fit K.sz.e K'.sz.e
 have e4:Mi.n B A=Mi.n A B:=by
   unfold Mi.n Mi.n5 Mi.n4 Mi.n3 Mi.n2 Mi.n1
   rw [e1,e2,e3]
 constructor
 · unfold Mi.half Mi.h; rw [e4]
 · unfold Mi.lean Mi.l; rw [e3,e4]
end
theorem z_ends:val zI7.lo=35184372088832*DD∧val 4580160821035794432=70368744177664*DD∧val u1=4503599627370496*DD∧val m1=-(4503599627370496*DD):=by decide +kernel
section
variable {x y z:Nat} (lx:x < 18446744073709551616) (ly:y < 18446744073709551616) (lz:z < 18446744073709551616) (rx:rightB x=true) (ry:rightB y=true) (rz:rightB z=true)
 (x1:val m1≤val x) (x2:val x≤val u1) (y1:val m1≤val y) (y2:val y≤val u1) (z1:val 4580160821035794432≤val z) (z2:val z≤val u1)
include rx ry rz x1 x2 y1 y2 z1 z2
theorem dir_has:hasU x y z=true:=by
 obtain⟨_,e2,e3,e4⟩:=z_ends
 have d0:=dd_pos
 have p1:val 4318952042648305664≤val 4580160821035794432∧val u1≤val 4895412794951729152:=by decide +kernel
 obtain⟨a1,a2⟩:=val_side rx
 obtain⟨b1,b2⟩:=val_side ry
 obtain⟨c1,c2⟩:=val_side rz
 obtain⟨_,_,mv⟩:=most_val rx ry rz
 unfold hasU leB
 simp only [Bool.and_eq_true,decide_eq_true_eq]
 rw [mv]
 exact ⟨⟨⟨rx,ry⟩,rz⟩,by omega,by omega⟩
include lx ly lz
theorem dir_in:InV (unitV x y z) dB∧∃ f g h:Nat→Rat,HasS (unitV x y z).x f∧HasS (unitV x y z).y g∧HasS (unitV x y z).z h∧Eqv (fun m=>f m*f m+(g m*g m+h m*h m)) (fun _=>1)∧∀ m,0≤h m:=by
 have hU:=dir_has rx ry rz x1 x2 y1 y2 z1 z2
 obtain⟨e1,e2,e3,e4⟩:=z_ends
 have d0:=dd_pos
 have hS:=ss_dd
 obtain⟨F,_,_,_,⟨mx,Mx,px⟩,⟨my,My,py⟩,⟨m,M,pz⟩⟩:=unit_all x y z lx ly lz hU
 obtain⟨n0,n1,n2,_⟩:=unit_norm x y z lx ly lz hU
 have ix:=one_part px F.x
 have iy:=one_part py F.y
 have iz:=one_part pz F.z
 have z0:0≤val z:=by omega
 obtain⟨f,g,h,s1,s2,s3,us,nn⟩:=unit_seq lx ly lz hU
 refine ⟨⟨ix,iy,?_⟩,f,g,h,s1,s2,s3,us,nn z0⟩
 have q:∀ v:Int,-(4503599627370496*DD)≤v→v≤4503599627370496*DD→v*v≤4503599627370496*DD*(4503599627370496*DD):=fun v h1 h2=>by
   rcases Int.le_total 0 v with t | t
   · exact mul_self_le t h2
   · rw [←Int.neg_mul_neg]; exact mul_self_le (by omega) (by omega)
 have kx:=q (val x) (by omega) (by omega)
 have ky:=q (val y) (by omega) (by omega)
 have kz:=q (val z) (by omega) (by omega)
 -- the length is below 7 by 4
 have nl:4*val (unitN x y z).lo≤7*(4503599627370496*DD):=by
   refine le_of_self (by omega) ?_
   have t1:4*val (unitN x y z).lo*(4*val (unitN x y z).lo)=16*(val (unitN x y z).lo*val (unitN x y z).lo):=by grind
   have t2:7*(4503599627370496*DD)*(7*(4503599627370496*DD))=49*(4503599627370496*DD*(4503599627370496*DD)):=by grind
   have t3:=self_nonneg (4503599627370496*DD)
   rw [t1,t2]; omega
 have low:35184372088832*DD≤m:=by
   have w:=pz.wide
   obtain⟨a,a1,a0,_,a3⟩:=pz.under
   rcases a3 with t | t
   · rw [hS] at t; omega
   · have l:=pz.low
     have le:=pz.le
     have ea:70368744177664*DD≤a:=by omega
     -- a SS by n.lo is no more than M
     have t1:4*(a*SS)≤7*M*SS:=by
       have u1:4*(M*val (unitN x y z).lo)≤M*(7*(4503599627370496*DD)):=by
         have:=Int.mul_le_mul_of_nonneg_left nl (show 0≤M by omega)
         have e:M*(4*val (unitN x y z).lo)=4*(M*val (unitN x y z).lo):=by grind
         omega
       rw [←hS] at u1
       have e:M*(7*SS)=7*M*SS:=by grind
       omega
     have t2:4*a≤7*M:=by
       refine Int.le_of_mul_le_mul_right (a:=SS) ?_ (by rw [hS]; omega)
       have e:4*a*SS=4*(a*SS):=by grind
       omega
     omega
 have s:=pz.side
 refine ⟨F.z,?_,iz.hi⟩
 show val zI7.lo≤_
 rw [e1]
 have zp:0 < val z:=by omega
 rcases s with ⟨_,t,_⟩ | ⟨t,_,_⟩
 · rw [t]; exact low
 · omega
end
end
section
open Go.RowKit
section
variable {V:V3} {f g h:Nat→Rat} (iV:InV V dB) (a1:HasS V.x f) (a2:HasS V.y g) (a3:HasS V.z h)
 (us:Eqv (fun m=>f m*f m+(g m*g m+h m*h m)) fun _=>1) (nn:∀ m,0≤h m)
include iV a1 a2 a3 us nn
end
theorem part_width {x:Nat} {n p:Res} {m M:Int} (h:PartOf x n p m M):val p.hi - val p.lo≤16*DD:=by
 have w:=h.wide
 rcases h.side with ⟨_,a,b⟩ | ⟨_,a,b⟩ <;> rw [a,b] <;> omega
end
section
open Go.RowKit
theorem lean_u {A B:V3} (K:MF A B):In (Mi.lean A B) ouI∧In (Mi.half A B) ouI:=by
 have z0:val 0=0:=by decide +kernel
 have us:val u1=SS:=by decide +kernel
 have o1:val ouI.lo=0∧val ouI.hi=val u1:=by decide +kernel
 have s0:=SS0
 have key:∀ r:Res,Fit r→In (clampR r) ouI:=fun r f=>by
   obtain⟨_,_,c3⟩:=clamp_facts f.lo f.rlo
   obtain⟨_,_,d3⟩:=clamp_facts f.hi f.rhi
   refine ⟨clamp_fit f,?_,?_⟩
   · rw [o1.1,show (clampR r).lo=clampW r.lo by simp only [clampR]]; omega
   · rw [o1.2,show (clampR r).hi=clampW r.hi by simp only [clampR]]; omega
 exact ⟨key _ K.l,key _ K.h⟩
structure VF (l i o a:Res):Prop where
 D:Fit (Gx.D l a)
 w:Fit (Gx.w i o a)
 v:Fit (Gx.v o a)
 v1:Fit (Mi.v1 l i o a)
 v2:Fit (Mi.v2 i)
 v2':Fit (Mi.v2 o)
 v3:Fit (Mi.v3 i o)
 val:Fit (Mi.val l i o a)
 p1:Fit (Mi.p1 l o a)
 den:Fit (Mi.den l o a)
end
section
open Go.RowKit
attribute [local go_sem] run_store_float
theorem dir_walk {u0 u1 u2 x y z:Nat} (w:World)
   (c1:Hid (∀ w,Calls Tryz.prog 23 #[(13830554455654793216:Nat),(4607182418800017408:Nat),.int .u32 u0] w fun r w'=>r = .returned (.float .f64 x)∧w=w'))
   (c2:Hid (∀ w,Calls Tryz.prog 23 #[(13830554455654793216:Nat),(4607182418800017408:Nat),.int .u32 u1] w fun r w'=>r = .returned (.float .f64 y)∧w=w'))
   (c3:Hid (∀ w,Calls Tryz.prog 23 #[(4580160821035794432:Nat),(4607182418800017408:Nat),.int .u32 u2] w fun r w'=>r = .returned (.float .f64 z)∧w=w')) :
   Calls Tryz.prog 25 #[.int .u32 u0,.int .u32 u1,.int .u32 u2] w (Rt (.agg #[x,y,z]) w):=by
 have M:=Lib.hid ((Own.nil w).made #[x,y,z] 61)
 have eqF:=eq_floats
 go_enter Tryz.func25,Tryz.ntmps25
 go_wp2_with fail
 refine (c1.out _).mono ?_
 rintro r w1_ ⟨rfl,rfl⟩
 go_wp2_with fail
 refine (c2.out _).mono ?_
 rintro r w2_ ⟨rfl,rfl⟩
 go_wp2_with fail
 refine (c3.out _).mono ?_
 rintro r w3_ ⟨rfl,rfl⟩
 go_wp2
 exact bodyPost_ret (v:=.agg #[.float .f64 x,.float .f64 y,.float .f64 z]) (by simp [results,Tryz.results25,go_sem]) rfl ⟨rfl,M.out.base⟩
theorem two10_walk {u0 u1 u2 u3 u4 u5 x y z a0 a1 a2 a3 a4 a5 p q s b0 b1 b2 b3 b4 b5:Nat} (w:World)
   (c1:Hid (∀ w,Calls Tryz.prog 25 #[.int .u32 u0,.int .u32 u1,.int .u32 u2] w (Rt (.agg #[x,y,z]) w)))
   (c2:Hid (∀ w,Calls Tryz.prog 24 #[.agg #[x,y,z]] w (Rt (.tuple #[.agg #[a0,a1,a2,a3,a4,a5],true]) w)))
   (c3:Hid (∀ w,Calls Tryz.prog 25 #[.int .u32 u3,.int .u32 u4,.int .u32 u5] w (Rt (.agg #[p,q,s]) w)))
   (c4:Hid (∀ w,Calls Tryz.prog 24 #[.agg #[p,q,s]] w (Rt (.tuple #[.agg #[b0,b1,b2,b3,b4,b5],true]) w)))
   (o_gtra4_0:((FloatKind.f64.format.order a4 0 == some Ordering.gt)=true))
   (o_gtrb4_0:((FloatKind.f64.format.order b4 0 == some Ordering.gt)=true)) :
   Calls Tryz.prog 7 #[.agg #[.int .u32 u0,.int .u32 u1,.int .u32 u2,.int .u32 u3,.int .u32 u4,.int .u32 u5]] w (Rt (.tuple #[.agg #[a0,a1,a2,a3,a4,a5],.agg #[b0,b1,b2,b3,b4,b5],.bool true]) w):=by
 have M:=Lib.hid ((((Own.nil w).made #[.int .u32 u0,.int .u32 u1,.int .u32 u2,.int .u32 u3,.int .u32 u4,.int .u32 u5] 24).made #[(),(),(),(),(),()] 33).made #[(),(),(),(),(),()] 33)
 simp only [World.size_alloc] at M
 have eqF:=eq_floats
 go_enter Tryz.func7,Tryz.ntmps7
 obtain⟨k1,k2,k3,k4,k5,k6⟩:=(M.out.nth 2 rfl).six
 go_wp2_with fail
 refine (c1.out _).mono ?_
 rintro r w1_ ⟨rfl,hb⟩
 replace M:=Lib.hid (M.out.below hb)
 clear hb
 clear k1 k2 k3 k4 k5 k6
 go_wp2_with fail
 refine (c2.out _).mono ?_
 rintro r w2_ ⟨rfl,hb⟩
 replace M:=Lib.hid (M.out.below hb)
 clear hb
 replace M:=Lib.hid (M.out.made #[a0,a1,a2,a3,a4,a5] 33)
 obtain⟨k1,k2,k3,k4,k5,k6⟩:=(M.out.nth 3 rfl).six
 go_wp2_with fail
 refine (c3.out _).mono ?_
 rintro r w3_ ⟨rfl,hb⟩
 replace M:=Lib.hid (M.out.below hb)
 clear hb
 clear k1 k2 k3 k4 k5 k6
 go_wp2_with fail
 refine (c4.out _).mono ?_
 rintro r w4_ ⟨rfl,hb⟩
 replace M:=Lib.hid (M.out.below hb)
 clear hb
 replace M:=Lib.hid (M.out.made #[b0,b1,b2,b3,b4,b5] 33)
 go_upto_region 3 with fail
 replace M:=Lib.hid M.out.drew
 revert M
 generalize (w4_.alloc (.cells #[b0,b1,b2,b3,b4,b5] 33))=W5_
 intro M
 refine wp_region_noPanic ?_
 refine tails_region (S:=fun w'=>(w'.cell? ⟨w2_.heap.size,0,none⟩=some (.float .f64 a0)∧w'.cell? ⟨w2_.heap.size,1,none⟩=some (.float .f64 a1)∧w'.cell? ⟨w2_.heap.size,2,none⟩=some (.float .f64 a2)∧w'.cell? ⟨w2_.heap.size,3,none⟩=some (.float .f64 a3)∧w'.cell? ⟨w2_.heap.size,4,none⟩=some (.float .f64 a4)∧w'.cell? ⟨w2_.heap.size,5,none⟩=some (.float .f64 a5))∧(w'.cell? ⟨w4_.heap.size,0,none⟩=some (.float .f64 b0)∧w'.cell? ⟨w4_.heap.size,1,none⟩=some (.float .f64 b1)∧w'.cell? ⟨w4_.heap.size,2,none⟩=some (.float .f64 b2)∧w'.cell? ⟨w4_.heap.size,3,none⟩=some (.float .f64 b3)∧w'.cell? ⟨w4_.heap.size,4,none⟩=some (.float .f64 b4)∧w'.cell? ⟨w4_.heap.size,5,none⟩=some (.float .f64 b5))) [] (by kernel_rfl) ?_ (fun hS=>?_)
 · exact ⟨(M.out.nth 1 rfl).six,(M.out.nth 0 rfl).six⟩
 revert hS M
 generalize W5_.drew=V_
 intro M hS
 refine tq 0 hS ?_
 refine tq 1 hS ?_
 conv=>arg 9; simp only [Act.put,go_sem]
 refine tq 2 hS ?_
 refine tq 3 hS ?_
 conv=>arg 9; simp only [Act.put,go_sem]
 refine tq 4 hS ?_
 refine tq 5 hS ?_
 conv=>arg 9; simp only [Act.put,go_sem]
 refine tq 6 hS ?_
 refine tq 7 hS ?_
 conv=>arg 9; simp only [Act.put,go_sem]
 refine tq 8 hS ?_
 refine tq 9 hS ?_
 conv=>arg 9; simp only [Act.put,go_sem]
 refine tq 10 hS ?_
 refine tq 11 hS ?_
 conv=>arg 9; simp only [Act.put,go_sem]
 refine tq 12 hS ?_
 refine tq 13 hS ?_
 conv=>arg 9; simp only [Act.put,go_sem]
 refine tq 14 hS ?_
 refine tq 15 hS ?_
 conv=>arg 9; simp only [Act.put,go_sem]
 refine tq 16 hS ?_
 refine tq 17 hS ?_
 conv=>arg 9; simp only [Act.put,go_sem]
 refine tq 18 hS ?_
 refine tq 19 hS ?_
 conv=>arg 9; simp only [Act.put,go_sem]
 refine tails_one (T:=[]) (i:=20) (o:=_) rfl (by kernel_rfl) (fun K hK=>?_)
 have kc:=(M.out.nth 3 rfl).2.1
 have kf:=(M.out.nth 3 rfl).2.2
 replace M:=Lib.hid (M.out.set6 3 rfl (.float .f64 a0) (.float .f64 a1) (.float .f64 a2) (.float .f64 a3) (.float .f64 a4) (.float .f64 a5))
 dsimp only [List.set] at M
 go_simp
 refine hK.out _ _ (Or.inr ⟨(M.out.nth 1 rfl).six,(M.out.nth 0 rfl).six⟩) (fun hHeld=>?_)
 clear hK K hHeld kc kf
 refine tails_one (T:=[]) (i:=21) (o:=_) rfl (by kernel_rfl) (fun K hK=>?_)
 have kc:=(M.out.nth 2 rfl).2.1
 have kf:=(M.out.nth 2 rfl).2.2
 replace M:=Lib.hid (M.out.set6 2 rfl (.float .f64 b0) (.float .f64 b1) (.float .f64 b2) (.float .f64 b3) (.float .f64 b4) (.float .f64 b5))
 dsimp only [List.set] at M
 go_simp
 refine hK.out _ _ (Or.inr ⟨(M.out.nth 1 rfl).six,(M.out.nth 0 rfl).six⟩) (fun hHeld=>?_)
 clear hK K hHeld kc kf
 refine tails_one (T:=[]) (i:=22) (o:=_) rfl (by kernel_rfl) (fun K hK=>?_)
 go_simp
 refine hK.out _ _ (Or.inr ⟨(M.out.nth 1 rfl).six,(M.out.nth 0 rfl).six⟩) (fun hHeld=>?_)
 clear hK K hHeld
 refine tails_done (by kernel_rfl) ?_ _
 refine NoPanic.normal ?_
 clear hS
 revert M
 generalize ((((((((((((V_.setCell ⟨(w.heap.size+1),0,none⟩ (.float .f64 a0)).setCell ⟨(w.heap.size+1),1,none⟩ (.float .f64 a1)).setCell ⟨(w.heap.size+1),2,none⟩ (.float .f64 a2)).setCell ⟨(w.heap.size+1),3,none⟩ (.float .f64 a3)).setCell ⟨(w.heap.size+1),4,none⟩ (.float .f64 a4)).setCell ⟨(w.heap.size+1),5,none⟩ (.float .f64 a5)).setCell ⟨(w.heap.size+1+1),0,none⟩ (.float .f64 b0)).setCell ⟨(w.heap.size+1+1),1,none⟩ (.float .f64 b1)).setCell ⟨(w.heap.size+1+1),2,none⟩ (.float .f64 b2)).setCell ⟨(w.heap.size+1+1),3,none⟩ (.float .f64 b3)).setCell ⟨(w.heap.size+1+1),4,none⟩ (.float .f64 b4)).setCell ⟨(w.heap.size+1+1),5,none⟩ (.float .f64 b5))=W6_
 intro M
 go_wp2
 obtain⟨f1,f2,f3,f4,f5,f6⟩:=(M.out.nth 3 rfl).six
 obtain⟨f7,f8,f9,f10,f11,f12⟩:=(M.out.nth 2 rfl).six
 exact bodyPost_ret (v:=.tuple #[.agg #[.float .f64 a0,.float .f64 a1,.float .f64 a2,.float .f64 a3,.float .f64 a4,.float .f64 a5],.agg #[.float .f64 b0,.float .f64 b1,.float .f64 b2,.float .f64 b3,.float .f64 b4,.float .f64 b5],.bool true]) (by simp [results,Tryz.results7,go_sem,f1,f2,f3,f4,f5,f6,f7,f8,f9,f10,f11,f12]) rfl ⟨rfl,M.out.base⟩
end
end Go.Proofs.YtmkgfflebfpcdaaGreat
