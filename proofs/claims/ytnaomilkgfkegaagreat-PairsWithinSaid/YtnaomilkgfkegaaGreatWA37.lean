/- What the claim stands on, part 38: PaI, PaBD, PaWE. -/
import Derived.Test.YtnaomilkgfkegaaGreatWA34
import Derived.Test.YtnaomilkgfkegaaGreatWA36
import Derived.Deep.RegionHeld3
import Derived.Test.YtnaomilkgfkegaaGreatWA35
import Derived.Test.YtnaomilkgfkegaaGreatWA18
import Derived.Test.YtnaomilkgfkegaaGreatWA26
import Derived.Test.YtnaomilkgfkegaaGreatWA33
set_option maxHeartbeats 4000000
set_option maxRecDepth 100000
namespace Go.Proofs.YtnaomilkgfkegaaGreat
section
open Go.RowKit
def w16:Nat:=4625196817309499392
def w32:Nat:=4629700416936869888
theorem between16_any (lo hi n:Nat) (hl:lo < 18446744073709551616) (hh:hi < 18446744073709551616) (rl:rightB lo=true) (rh:rightB hi=true) (h0:0≤val lo) (hle:val lo≤val hi) (hs:val hi≤val w16) (hn:n < 4294967296) :
  ∃ x,Amid lo hi x∧∀ w,Calls Tryz.prog 19 #[lo,hi,.int .u32 n] w fun r w'=>r = .returned (x:Value)∧w=w':=by
 have v2:val w32=val w16+val w16:=by decide +kernel
 obtain⟨f,f1,f2,f3,f4,f5⟩:=frac_word n hn;obtain⟨d,d1,d2,d3,d4,d5⟩:=sub_all hh hl rh rl hle (y0:=w16) (by decide) (by decide) (by omega)
 have eU:val u1=((2 ^ sq:Nat):Int):=by decide +kernel
 obtain⟨m,m1',m2,m3,m4,m5⟩:=mul_near d2 f2 d3 f3 d4 f4 d2 d3 (by rw [←eU]; exact Int.mul_le_mul_of_nonneg_left f5 d4);obtain⟨x,x1,x2,x3,x4,x5⟩:=add_all hl m2 rl m3 m4 (y0:=w32) (by decide) (by decide) (by rw [v2]; omega)
 have o1:(FloatKind.f64.format.order x lo == some Ordering.lt)=false:=by
  rw [order_lt x lo x2 hl x3 rl]; exact decide_eq_false (by omega)
 have cw:=fun w=>between6_walk lo hi n f d m x _ w (Hd fun w=>frac_walk n f w (fun w=>run_float_arith w .quo 25 .f64 _ _ _ f1)) (fun w=>run_float_arith w .sub 25 .f64 _ _ _ d1) (fun w=>run_float_arith w .mul 25 .f64 _ _ _ m1') (fun w=>run_float_arith w .add 25 .f64 _ _ _ x1) o1 rfl
 refine ⟨_,?_,cw⟩;rw [order_gt x hi x2 hh x3 rh]
 by_cases g:val hi < val x
 ·rw [decide_eq_true g,if_pos rfl]; exact ⟨hh,rh,hle,Int.le_refl _⟩
 ·rw [decide_eq_false g,if_neg Bool.false_ne_true]; exact ⟨x2,x3,x4,by omega⟩
theorem amid_in {A:Res} (fA:Fit A) (h0:0≤val A.lo) (h1:val A.hi≤val w16) (n:Nat) (hn:n < 4294967296):∃ x,In (oneR x) A∧∀ w,Calls Tryz.prog 19 #[A.lo,A.hi,.int .u32 n] w fun r w'=>r = .returned (x:Value)∧w=w':=by
 obtain⟨x,h,c⟩:=between16_any A.lo A.hi n fA.lo fA.hi fA.rlo fA.rhi h0 fA.le h1 hn;exact ⟨x,⟨one_fit h.lt h.right,h.lo,h.hi⟩,c⟩
theorem amid_below {lo hi n x:Nat} (c:∀ w,Calls Tryz.prog 19 #[lo,hi,.int .u32 n] w fun r w'=>r = .returned (x:Value)∧w=w') (w:World) :
  Calls Tryz.prog 19 #[lo,hi,.int .u32 n] w (Rt (x:Value) w):=
 (c w).mono fun _ _ ⟨h,e⟩=>⟨h,e ▸ Below.refl _ _⟩
theorem lim_fits:(Fit ouI∧0≤val ouI.lo∧val ouI.hi≤val w16)∧(Fit aI∧0≤val aI.lo∧val aI.hi≤val w16)∧(Fit bigN∧0≤val bigN.lo∧val bigN.hi≤val w16)∧(Fit bigM∧0≤val bigM.lo∧val bigM.hi≤val w16):=
 ⟨⟨.of (by decide +kernel),by decide +kernel,by decide +kernel⟩,⟨.of (by decide +kernel),by decide +kernel,by decide +kernel⟩,⟨.of (by decide +kernel),by decide +kernel,by decide +kernel⟩,⟨.of (by decide +kernel),by decide +kernel,by decide +kernel⟩⟩
abbrev LeafC (u0 u1' u2 u3 u4 u5 u6 u7:Nat) (n:Value):Prop:=∀ w,Calls Tryz.prog 5 #[.agg #[.int .u32 u0,.int .u32 u1',.int .u32 u2,.int .u32 u3,.int .u32 u4,.int .u32 u5,.int .u32 u6,.int .u32 u7]] w fun r w'=>r = .returned n∧Below w.heap.size w w'
section
variable (u0 u1' u2 u3 u4 u5 u6 u7:Nat) (g0:u0 < 4294967296) (g1:u1' < 4294967296) (g2:u2 < 4294967296) (g3:u3 < 4294967296) (g4:u4 < 4294967296) (g5:u5 < 4294967296) (g6:u6 < 4294967296) (g7:u7 < 4294967296)
include g1 g2 g3 in
theorem leafL_any (h:(u0:Int).tmod 4=0):∃ a b c,In (oneR a) ouI∧In (oneR b) ouI∧In (oneR c) ouI∧LeafC u0 u1' u2 u3 u4 u5 u6 u7 (ndL a b c):=by
 obtain⟨⟨fo,l,k⟩,_⟩:=lim_fits;obtain⟨a,ia,ca⟩:=amid_in fo l k u1' g1;obtain⟨b,ib,cb⟩:=amid_in fo l k u2 g2;obtain⟨c,ic,cc⟩:=amid_in fo l k u3 g3;exact ⟨a,b,c,ia,ib,ic,fun w=>leafL_walk w h (Hd fun q w hq=>three1_walk w q (Hd hq) (Hd (amid_below ca)) (Hd (amid_below cb)) (Hd (amid_below cc)))⟩
include g1 g2 g3 g4 in
theorem leafO_any (h:(u0:Int).tmod 4=1):∃ a b c s,In (oneR a) ouI∧In (oneR b) ouI∧In (oneR c) ouI∧In (oneR s) ouI∧LeafC u0 u1' u2 u3 u4 u5 u6 u7 (ndO a b c s):=by
 obtain⟨⟨fo,l,k⟩,_⟩:=lim_fits;obtain⟨a,ia,ca⟩:=amid_in fo l k u1' g1;obtain⟨b,ib,cb⟩:=amid_in fo l k u2 g2;obtain⟨c,ic,cc⟩:=amid_in fo l k u3 g3;obtain⟨s,is,cs⟩:=amid_in fo l k u4 g4;exact ⟨a,b,c,s,ia,ib,ic,is,fun w=>leafO_walk w h (Hd fun q w hq=>three1_walk w q (Hd hq) (Hd (amid_below ca)) (Hd (amid_below cb)) (Hd (amid_below cc))) (Hd cs)⟩
include g1 g2 in
theorem leafP_any (h:(u0:Int).tmod 4=2):∃ a n,In (oneR a) aI∧In (oneR n) bigN∧LeafC u0 u1' u2 u3 u4 u5 u6 u7 (ndP a n):=by
 obtain⟨_,⟨fa,l,k⟩,⟨fn,ln,kn⟩,_⟩:=lim_fits;obtain⟨a,ia,ca⟩:=amid_in fa l k u1' g1;obtain⟨n,jn,cn⟩:=amid_in fn ln kn u2 g2;exact ⟨a,n,ia,jn,fun w=>leafP_walk w h (Hd ca) (Hd cn)⟩
include g1 g2 g3 g4 g5 g6 g7 in
theorem leafM_any (h:(u0:Int).tmod 4=3):∃ a p q r s t u,In (oneR a) aI∧In (oneR p) bigM∧In (oneR q) bigM∧In (oneR r) bigM∧In (oneR s) bigM∧In (oneR t) bigM∧In (oneR u) bigM∧LeafC u0 u1' u2 u3 u4 u5 u6 u7 (ndM a p q r s t u):=by
 obtain⟨_,⟨fa,l,k⟩,_,⟨fm,lm,km⟩⟩:=lim_fits;obtain⟨a,ia,ca⟩:=amid_in fa l k u1' g1;obtain⟨p,ip,cp⟩:=amid_in fm lm km u2 g2;obtain⟨q,iq,cq⟩:=amid_in fm lm km u3 g3;obtain⟨r,ir,cr⟩:=amid_in fm lm km u4 g4;obtain⟨s,is,cs⟩:=amid_in fm lm km u5 g5;obtain⟨t,it,ct⟩:=amid_in fm lm km u6 g6;obtain⟨u,iu,cu⟩:=amid_in fm lm km u7 g7
 exact ⟨a,p,q,r,s,t,u,ia,ip,iq,ir,is,it,iu,fun w=>leafM_walk w h (Hd ca)
  (Hd fun x w hx=>three2_walk w x (Hd hx) (Hd (amid_below cp)) (Hd (amid_below cq)) (Hd (amid_below cr)))
  (Hd fun x w hx=>three5_walk w x (Hd hx) (Hd (amid_below cs)) (Hd (amid_below ct)) (Hd (amid_below cu)))⟩
end
theorem four_ways (u:Nat):(u:Int).tmod 4=0∨(u:Int).tmod 4=1∨(u:Int).tmod 4=2∨(u:Int).tmod 4=3:=by
 have e:(u:Int).tmod 4=((u % 4:Nat):Int):=rfl;omega
theorem chan_of (c:Nat):∃ k:Nat,k < 3∧(c:Int).tmod 3=(k:Int)∧IntKind.i64.wrap (k:Int)=(k:Int):=by
 have e:(c:Int).tmod 3=((c % 3:Nat):Int):=rfl;refine ⟨c % 3,by omega,e,?_⟩
 have h:c % 3=0∨c % 3=1∨c % 3=2:=by omega
 rcases h with h | h | h <;> rw [h] <;> decide
end
section
open Go.RowKit
theorem near11_any {a:Res} {l g:Nat} (fa:Fit a) (hl:l < 18446744073709551616) (hg:g < 18446744073709551616) (rl:rightB l=true) (rg:rightB g=true) (h1:val l≤val a.lo) (h2:val a.hi≤val g) (w:World) :
  Calls Tryz.prog 26 #[.agg #[a.lo,a.hi],l,g] w (Rt (.bool true) w):=by
 refine near11_walk w ?_ ?_ ?_
 ·rw [order_gt _ _ fa.lo hl fa.rlo rl,order_eq _ _ fa.lo hl fa.rlo rl]
  by_cases e:val a.lo=val l
  ·rw [decide_eq_true e,Bool.or_true]
  ·rw [decide_eq_true (by omega:val l < val a.lo),Bool.true_or]
 ·exact (order_le _ _ fa.hi hg fa.rhi rg).trans (decide_eq_true h2)
 ·exact (order_le _ _ fa.lo fa.hi fa.rlo fa.rhi).trans (decide_eq_true fa.le)
def w15:Nat:=4609434218613702656
theorem ex11_in:In (oneR u1) ouI∧In (oneR wf) ouI∧In (oneR 0) ouI∧In (oneR w15) bigN:=
 ⟨⟨.of (by decide +kernel),by decide +kernel,by decide +kernel⟩,⟨.of (by decide +kernel),by decide +kernel,by decide +kernel⟩,⟨.of (by decide +kernel),by decide +kernel,by decide +kernel⟩,⟨.of (by decide +kernel),by decide +kernel,by decide +kernel⟩⟩
theorem ex11_zero:(valueR (oneR 0)).lo=0∧(valueR (oneR 0)).hi=0:=by decide +kernel
theorem ex11_near:(val 4599405781053817700≤val (valueR (oneR u1)).lo∧val (valueR (oneR u1)).hi≤val 4599405781071832099)∧(val 4594902181426447204≤val (valueR (oneR wf)).lo∧val (valueR (oneR wf)).hi≤val 4594902181462476001)∧(val 4578493347781377788≤val (Pa.pl (oneR wf) (oneR w15) upV upV).lo∧val (Pa.pl (oneR wf) (oneR w15) upV upV).hi≤val 4578493348357838540) ∧
  val 4599405781053817700≤val (Mi.den (Mi.lean upV upV) upV.z (oneR wf)).lo∧val (Mi.den (Mi.lean upV upV) upV.z (oneR wf)).hi≤val 4599405781071832099:=by decide +kernel
theorem awake11_any (w:World):Calls Tryz.prog 12 #[] w (Rt (.bool true) w):=by
 obtain⟨i1,i2,i3,i4⟩:=ex11_in;obtain⟨z1,z2⟩:=ex11_zero;obtain⟨⟨n1,n2⟩,⟨n3,n4⟩,⟨n5,n6⟩,n7,n8⟩:=ex11_near;have iU:=dB_dU upV_in
 have cU:=fun w=>point_walk u1 w (fun w=>run_float_arith w .add 25 .f64 _ _ _ (add_self0 (by decide:u1 < 18446744073709551616) (by decide)))
 have c2:=ValL0_ok i1 i2 i3 iU iU;have c3:=ValL1_ok i1 i2 i3 iU iU;have c4:=ValL2_ok i1 i2 i3 iU iU;unfold ValC at c4;rw [z1,z2] at c4;have c5:=ValL3_ok i1 i2 i3 iU iU;have K:=kf_dirs upV_in upV_in wf_in;have c6:=ValP0_of wf_in i4 iU iU (ValP_all wf_in i4 iU iU K 0);have fp:=(pl_leaf upV_in upV_in wf_in i4).1.1;rw [fp.e] at c6;have c7:=DenP_ok wf_in i4 iU iU (look_dirs upV_in upV_in wf_in);have fd:=(den_leaf upV_in upV_in wf_in).1;have f1:=(lam_leaf i1).1;have f2:=(lam_leaf i2).1;have c12:=RightL_ok i1 i2 i3;unfold Pa.lam at f1 f2;clear K z1 z2 iU i1 i2 i3 i4;generalize valueR (oneR u1)=X1 at *;generalize valueR (oneR wf)=X2 at *;generalize Pa.pl (oneR wf) (oneR w15) upV upV=X3 at *;generalize Mi.den (Mi.lean upV upV) upV.z (oneR wf)=X4 at *
 exact awake11_walk w (c1:=Hd cU) (c2:=Hd c2) (c3:=Hd c3) (c4:=Hd c4) (c5:=Hd c5) (c6:=Hd c6) (c7:=Hd c7)
  (c8:=Hd (near11_any f1 (by decide) (by decide) (by decide) (by decide) n1 n2)) (c9:=Hd (near11_any f2 (by decide) (by decide) (by decide) (by decide) n3 n4)) (e_0_0:=by decide +kernel)
  (c10:=Hd (near11_any fp (by decide) (by decide) (by decide) (by decide) n5 n6)) (c11:=Hd (near11_any fd (by decide) (by decide) (by decide) (by decide) n7 n8)) (c12:=Hd c12) (c13:=Hd fun w=>RightN_walk w (Hd fun w=>kindOfN_walk w))
abbrev nd (n0 n1 n2 n3 n4 n5 n6 n7 n8 n9 n10 n11 n12 n13 n14 n15 n16:Nat) (n17 n18:Int):Value:=.agg #[.int .u8 n0,n1,n2,n3,n4,n5,n6,n7,n8,n9,n10,n11,n12,n13,n14,n15,n16,.int .i64 n17,.int .i64 n18]
end
section
open Go.RowKit
theorem within_core {u0 u1' u2 u3 u4 u5 u6 u7 t0 t1 t2 t3 t4 t5 s0 s1 s2 s3 s4 s5 m0 m1' m2 m3 m4 m5 bw ch cm f n0 n1 n2 n3 n4 n5 n6 n7 n8 n9 n10 n11 n12 n13 n14 n15 n16:Nat} {n17 n18:Int} {A B P Q R T:V3} {x y d g:Res} {ex ey ed eg:Int} (w:World) (q1:(ch:Int).tmod 3=(cm:Int)) (q2:IntKind.i64.wrap (cm:Int)=(cm:Int))
  (h2:∀ w,Calls Tryz.prog 6 #[.agg #[.int .u32 t0,.int .u32 t1,.int .u32 t2,.int .u32 t3,.int .u32 t4,.int .u32 t5]] w (Rt (.tuple #[agV A,agV B,.bool true]) w))
  (qf:∀ w,(binOp .quo 25 (.float .f64 (floatOfInt .f64 (bw))) (.float .f64 4643211215818981376)).run Tryz.prog w = .ok (f:Value) w) (h3:∀ w,Calls Tryz.prog 7 #[agV A,f] w (Rt (agV P) w)) (h4:∀ w,Calls Tryz.prog 7 #[agV B,f] w (Rt (agV Q) w))
  (h5:∀ w,Calls Tryz.prog 8 #[agV P,.agg #[.int .u32 s0,.int .u32 s1,.int .u32 s2,.int .u32 s3,.int .u32 s4,.int .u32 s5]] w (Rt (agV R) w)) (h6:∀ w,Calls Tryz.prog 8 #[agV Q,.agg #[.int .u32 m0,.int .u32 m1',.int .u32 m2,.int .u32 m3,.int .u32 m4,.int .u32 m5]] w (Rt (agV T) w))
  (hl:LeafC u0 u1' u2 u3 u4 u5 u6 u7 (nd n0 n1 n2 n3 n4 n5 n6 n7 n8 n9 n10 n11 n12 n13 n14 n15 n16 n17 n18)) (hv:ValC (nd n0 n1 n2 n3 n4 n5 n6 n7 n8 n9 n10 n11 n12 n13 n14 n15 n16 n17 n18) cm P Q x ex) (hv':ValC (nd n0 n1 n2 n3 n4 n5 n6 n7 n8 n9 n10 n11 n12 n13 n14 n15 n16 n17 n18) cm R T y ey) (hd:DenC (nd n0 n1 n2 n3 n4 n5 n6 n7 n8 n9 n10 n11 n12 n13 n14 n15 n16 n17 n18) P Q d ed) (hd':DenC (nd n0 n1 n2 n3 n4 n5 n6 n7 n8 n9 n10 n11 n12 n13 n14 n15 n16 n17 n18) R T g eg)
  (kv:ex=0→ey=0∧In y x∧Fit x) (kd:ed=0→eg=0∧In g d∧Fit d) :
  Calls Tryz.prog 3 #[.agg #[.int .u32 u0,.int .u32 u1',.int .u32 u2,.int .u32 u3,.int .u32 u4,.int .u32 u5,.int .u32 u6,.int .u32 u7],.agg #[.int .u32 t0,.int .u32 t1,.int .u32 t2,.int .u32 t3,.int .u32 t4,.int .u32 t5],.int .u8 bw,.int .u8 ch,.agg #[.int .u32 s0,.int .u32 s1,.int .u32 s2,.int .u32 s3,.int .u32 s4,.int .u32 s5],.agg #[.int .u32 m0,.int .u32 m1',.int .u32 m2,.int .u32 m3,.int .u32 m4,.int .u32 m5]] w (Rt (.bool true) w):=by
 by_cases e1:ex=0
 ·obtain⟨rfl,i1,f1⟩:=kv e1
  subst e1
  by_cases e2:ed=0
  ·obtain⟨rfl,i2,f2⟩:=kd e2
   subst e2;exact pwithin w (c1:=Hd hl) (q_rem:=q1) (hwc:=q2) (c2:=Hd h2) (q_f:=qf) (c3:=Hd h3) (c4:=Hd h4) (c5:=Hd h5) (c6:=Hd h6) (c7:=Hd hv) (c8:=Hd hv') (c9:=Hd hd) (c10:=Hd hd') (c13:=Hd awake11_any) (hq:=Hd (.inl ⟨rfl,rfl,rfl,rfl,Hd (in8 i1 f1),Hd (in8 i2 f2)⟩))
  ·exact pwithin w (c1:=Hd hl) (q_rem:=q1) (hwc:=q2) (c2:=Hd h2) (q_f:=qf) (c3:=Hd h3) (c4:=Hd h4) (c5:=Hd h5) (c6:=Hd h6) (c7:=Hd hv) (c8:=Hd hv') (c9:=Hd hd) (c10:=Hd hd') (c13:=Hd awake11_any) (hq:=Hd (.inr (.inr (.inl ⟨rfl,rfl,by simpa using e2,Hd (in8 i1 f1)⟩))))
 ·by_cases e2:ed=0
  ·obtain⟨rfl,i2,f2⟩:=kd e2
   subst e2;exact pwithin w (c1:=Hd hl) (q_rem:=q1) (hwc:=q2) (c2:=Hd h2) (q_f:=qf) (c3:=Hd h3) (c4:=Hd h4) (c5:=Hd h5) (c6:=Hd h6) (c7:=Hd hv) (c8:=Hd hv') (c9:=Hd hd) (c10:=Hd hd') (c13:=Hd awake11_any) (hq:=Hd (.inr (.inl ⟨rfl,rfl,by simpa using e1,Hd (in8 i2 f2)⟩)))
  ·exact pwithin w (c1:=Hd hl) (q_rem:=q1) (hwc:=q2) (c2:=Hd h2) (q_f:=qf) (c3:=Hd h3) (c4:=Hd h4) (c5:=Hd h5) (c6:=Hd h6) (c7:=Hd hv) (c8:=Hd hv') (c9:=Hd hd) (c10:=Hd hd') (c13:=Hd awake11_any) (hq:=Hd (.inr (.inr (.inr ⟨by simpa using e1,by simpa using e2⟩))))
theorem val_part {a A:Res} (i:In a A) (j:In A ouI):In (valueR a) (valueR A)∧Fit (valueR A):=by
 have h:In (valueR A) (valueR ouI):=div_in j ou_fit (.refl big_fit.1) big_fit.1 plam_box.1.e;exact ⟨div_in i j.fit (.refl big_fit.1) big_fit.1 h.fit.e,h.fit⟩
section
variable {P Q R T:V3} {a V' W':Res} (iP:InV P dU) (iQ:InV Q dU) (jR:InV R P) (jT:InV T Q)
include iP iQ jR jT
theorem den_part (ha:In a aI):∃ p q v d e p' q' v' d' e',LookC P Q a p q v d e∧LookC R T a p' q' v' d' e'∧(e=0→e'=0∧In d' d∧Fit d):=by
 rcases look_cases iP iQ ha with k | ⟨e,ne,c⟩
 ·obtain⟨k',_,_,_,i4⟩:=kf_in iP iQ ha jR jT (.refl ha.fit) k
  exact ⟨_,_,_,_,_,_,_,_,_,_,look_good iP iQ ha k,look_good (jR.via iP) (jT.via iQ) ha k',fun _=>⟨rfl,i4,k.K.den⟩⟩
 ·rcases look_cases (jR.via iP) (jT.via iQ) ha with k' | ⟨e',_,c'⟩
  ·exact ⟨_,_,_,_,_,_,_,_,_,_,c,look_good (jR.via iP) (jT.via iQ) ha k',fun h=>absurd h ne⟩
  ·exact ⟨_,_,_,_,_,_,_,_,_,_,c,c',fun h=>absurd h ne⟩
end
section
variable {P Q R T:V3} (iP:InV P dU) (iQ:InV Q dU) (jR:InV R P) (jT:InV T Q)
include iP iQ jR jT
theorem partO0 {a b c s:Nat} (ia:In (oneR a) ouI) (ib:In (oneR b) ouI) (ic:In (oneR c) ouI) (is:In (oneR s) ouI):∃ x e y e',ValC (ndO a b c s) 0 P Q x e∧ValC (ndO a b c s) 0 R T y e'∧(e=0→e'=0∧In y x∧Fit x):=by
 have iR:=jR.via iP;have iT:=jT.via iQ
 by_cases he:(Or.st P.z Q.z (Pa.t P Q)).e=0
 ·obtain⟨he',i⟩:=oren_part ia is iP iQ jR jT he
  exact ⟨_,_,_,_,ValO0_ok ia ib ic is iP iQ he,ValO0_ok ia ib ic is iR iT he',fun _=>⟨rfl,i,(oren_fit ia is iP iQ he).fit⟩⟩
 ·by_cases he':(Or.st R.z T.z (Pa.t R T)).e=0
  ·exact ⟨_,_,_,_,ValO0_bad ia ib ic is iP iQ he,ValO0_ok ia ib ic is iR iT he',fun h=>absurd h he⟩
  ·exact ⟨_,_,_,_,ValO0_bad ia ib ic is iP iQ he,ValO0_bad ia ib ic is iR iT he',fun h=>absurd h he⟩
theorem partP0 {a n:Nat} (ia:In (oneR a) aI) (jn:In (oneR n) bigN):∃ x e y e',ValC (ndP a n) 0 P Q x e∧ValC (ndP a n) 0 R T y e'∧(e=0→e'=0∧In y x∧Fit x):=by
 have iR:=jR.via iP;have iT:=jT.via iQ
 rcases look_cases iP iQ ia with k | ⟨e,ne,g⟩
 ·obtain⟨k',_,i2,i3,_⟩:=kf_in iP iQ ia jR jT (.refl ia.fit) k
  have hc:In (Mi.half P Q) bigC:=(lean_u k.M).2;refine ⟨_,_,_,_,ValP0_of ia jn iP iQ (ValP_all ia jn iP iQ k 0),ValP0_of ia jn iR iT (ValP_all ia jn iR iT k' 0),fun h=>?_⟩;have fo:=(di_unit hc jn).fit;have j:In (Pa.pl (oneR a) (oneR n) R T) (Pa.pl (oneR a) (oneR n) P Q):=mul_in i3 k.K.val (di_part hc jn i2 (.refl jn.fit)) fo h;exact ⟨j.fit.e,j,ask_fit _ _ 2 (by decide) k.K.val fo h⟩
 ·have v:=ValP0_of (z:=oneR 0) ia jn iP iQ (ValP_arg ne g 0)
  rcases look_cases iR iT ia with k' | ⟨e',ne',g'⟩
  ·exact ⟨_,_,_,_,v,ValP0_of ia jn iR iT (ValP_all ia jn iR iT k' 0),fun h=>absurd h ne⟩
  ·exact ⟨_,_,_,_,v,ValP0_of (z:=oneR 0) ia jn iR iT (ValP_arg ne' g' 0),fun h=>absurd h ne⟩
theorem totM0 {a p q j s t u:Nat} (ia:In (oneR a) aI) (ip:In (oneR p) bigM) (iq:In (oneR q) bigM) (ij:In (oneR j) bigM) (is:In (oneR s) bigM) (it:In (oneR t) bigM) (iu:In (oneR u) bigM):∃ x e,ValC (ndM a p q j s t u) 0 R T x e:=by
 have iR:=jR.via iP;have iT:=jT.via iQ
 rcases look_cases iR iT ia with k | ⟨e,ne,g⟩
 ·by_cases he:(Co.r33 (Mi.half R T) (oneR p) (oneR s)).e=0
  ·exact ⟨_,_,ValM0_of ia ip iq ij is it iu iR iT (ValM0_all ia ip is iR iT k he)⟩
  ·exact ⟨oneR 0,_,ValM0_of ia ip iq ij is it iu iR iT (ValM0_bad ia ip is iR iT k he)⟩
 ·exact ⟨oneR 0,_,ValM0_of ia ip iq ij is it iu iR iT (ValM0_arg ne g)⟩
theorem partM0 {a p q j s t u:Nat} (ia:In (oneR a) aI) (ip:In (oneR p) bigM) (iq:In (oneR q) bigM) (ij:In (oneR j) bigM) (is:In (oneR s) bigM) (it:In (oneR t) bigM) (iu:In (oneR u) bigM):∃ x e y e',ValC (ndM a p q j s t u) 0 P Q x e∧ValC (ndM a p q j s t u) 0 R T y e'∧(e=0→e'=0∧In y x∧Fit x):=by
 have iR:=jR.via iP;have iT:=jT.via iQ;obtain⟨y,e',vy⟩:=totM0 iP iQ jR jT ia ip iq ij is it iu
 rcases look_cases iP iQ ia with k | ⟨e,ne,g⟩
 ·have hc:In (Mi.half P Q) bigC:=(lean_u k.M).2
  by_cases he:(Co.r33 (Mi.half P Q) (oneR p) (oneR s)).e=0
  ·obtain⟨k',_,i2,i3,_⟩:=kf_in iP iQ ia jR jT (.refl ia.fit) k
   obtain⟨he',i5⟩:=co_part hc ip is i2 (.refl ip.fit) (.refl is.fit) he;refine ⟨_,_,_,_,ValM0_of ia ip iq ij is it iu iP iQ (ValM0_all ia ip is iP iQ k he),ValM0_of ia ip iq ij is it iu iR iT (ValM0_all ia ip is iR iT k' he'),fun h=>?_⟩;have fo:=(co_unit hc ip is he).fit;have j:In (Pa.me (oneR a) (oneR p) (oneR s) R T) (Pa.me (oneR a) (oneR p) (oneR s) P Q):=mul_in i3 k.K.val i5 fo h;exact ⟨j.fit.e,j,ask_fit _ _ 2 (by decide) k.K.val fo h⟩
  ·exact ⟨oneR 0,_,_,_,ValM0_of ia ip iq ij is it iu iP iQ (ValM0_bad ia ip is iP iQ k he),vy,fun h=>absurd h he⟩
 ·exact ⟨oneR 0,_,_,_,ValM0_of ia ip iq ij is it iu iP iQ (ValM0_arg ne g),vy,fun h=>absurd h ne⟩
theorem partO1 {a b c s:Nat} (ia:In (oneR a) ouI) (ib:In (oneR b) ouI) (ic:In (oneR c) ouI) (is:In (oneR s) ouI):∃ x e y e',ValC (ndO a b c s) 1 P Q x e∧ValC (ndO a b c s) 1 R T y e'∧(e=0→e'=0∧In y x∧Fit x):=by
 have iR:=jR.via iP;have iT:=jT.via iQ
 by_cases he:(Or.st P.z Q.z (Pa.t P Q)).e=0
 ·obtain⟨he',i⟩:=oren_part ib is iP iQ jR jT he
  exact ⟨_,_,_,_,ValO1_ok ia ib ic is iP iQ he,ValO1_ok ia ib ic is iR iT he',fun _=>⟨rfl,i,(oren_fit ib is iP iQ he).fit⟩⟩
 ·by_cases he':(Or.st R.z T.z (Pa.t R T)).e=0
  ·exact ⟨_,_,_,_,ValO1_bad ia ib ic is iP iQ he,ValO1_ok ia ib ic is iR iT he',fun h=>absurd h he⟩
  ·exact ⟨_,_,_,_,ValO1_bad ia ib ic is iP iQ he,ValO1_bad ia ib ic is iR iT he',fun h=>absurd h he⟩
theorem partP1 {a n:Nat} (ia:In (oneR a) aI) (jn:In (oneR n) bigN):∃ x e y e',ValC (ndP a n) 1 P Q x e∧ValC (ndP a n) 1 R T y e'∧(e=0→e'=0∧In y x∧Fit x):=by
 have iR:=jR.via iP;have iT:=jT.via iQ
 rcases look_cases iP iQ ia with k | ⟨e,ne,g⟩
 ·obtain⟨k',_,i2,i3,_⟩:=kf_in iP iQ ia jR jT (.refl ia.fit) k
  have hc:In (Mi.half P Q) bigC:=(lean_u k.M).2;refine ⟨_,_,_,_,ValP1_of ia jn iP iQ (ValP_all ia jn iP iQ k 1),ValP1_of ia jn iR iT (ValP_all ia jn iR iT k' 1),fun h=>?_⟩;have fo:=(di_unit hc jn).fit;have j:In (Pa.pl (oneR a) (oneR n) R T) (Pa.pl (oneR a) (oneR n) P Q):=mul_in i3 k.K.val (di_part hc jn i2 (.refl jn.fit)) fo h;exact ⟨j.fit.e,j,ask_fit _ _ 2 (by decide) k.K.val fo h⟩
 ·have v:=ValP1_of (z:=oneR 0) ia jn iP iQ (ValP_arg ne g 1)
  rcases look_cases iR iT ia with k' | ⟨e',ne',g'⟩
  ·exact ⟨_,_,_,_,v,ValP1_of ia jn iR iT (ValP_all ia jn iR iT k' 1),fun h=>absurd h ne⟩
  ·exact ⟨_,_,_,_,v,ValP1_of (z:=oneR 0) ia jn iR iT (ValP_arg ne' g' 1),fun h=>absurd h ne⟩
theorem totM1 {a p q j s t u:Nat} (ia:In (oneR a) aI) (ip:In (oneR p) bigM) (iq:In (oneR q) bigM) (ij:In (oneR j) bigM) (is:In (oneR s) bigM) (it:In (oneR t) bigM) (iu:In (oneR u) bigM):∃ x e,ValC (ndM a p q j s t u) 1 R T x e:=by
 have iR:=jR.via iP;have iT:=jT.via iQ
 rcases look_cases iR iT ia with k | ⟨e,ne,g⟩
 ·by_cases he:(Co.r33 (Mi.half R T) (oneR q) (oneR t)).e=0
  ·exact ⟨_,_,ValM1_of ia ip iq ij is it iu iR iT (ValM1_all ia iq it iR iT k he)⟩
  ·exact ⟨oneR 0,_,ValM1_of ia ip iq ij is it iu iR iT (ValM1_bad ia iq it iR iT k he)⟩
 ·exact ⟨oneR 0,_,ValM1_of ia ip iq ij is it iu iR iT (ValM1_arg ne g)⟩
theorem partM1 {a p q j s t u:Nat} (ia:In (oneR a) aI) (ip:In (oneR p) bigM) (iq:In (oneR q) bigM) (ij:In (oneR j) bigM) (is:In (oneR s) bigM) (it:In (oneR t) bigM) (iu:In (oneR u) bigM):∃ x e y e',ValC (ndM a p q j s t u) 1 P Q x e∧ValC (ndM a p q j s t u) 1 R T y e'∧(e=0→e'=0∧In y x∧Fit x):=by
 have iR:=jR.via iP;have iT:=jT.via iQ;obtain⟨y,e',vy⟩:=totM1 iP iQ jR jT ia ip iq ij is it iu
 rcases look_cases iP iQ ia with k | ⟨e,ne,g⟩
 ·have hc:In (Mi.half P Q) bigC:=(lean_u k.M).2
  by_cases he:(Co.r33 (Mi.half P Q) (oneR q) (oneR t)).e=0
  ·obtain⟨k',_,i2,i3,_⟩:=kf_in iP iQ ia jR jT (.refl ia.fit) k
   obtain⟨he',i5⟩:=co_part hc iq it i2 (.refl iq.fit) (.refl it.fit) he;refine ⟨_,_,_,_,ValM1_of ia ip iq ij is it iu iP iQ (ValM1_all ia iq it iP iQ k he),ValM1_of ia ip iq ij is it iu iR iT (ValM1_all ia iq it iR iT k' he'),fun h=>?_⟩;have fo:=(co_unit hc iq it he).fit;have j:In (Pa.me (oneR a) (oneR q) (oneR t) R T) (Pa.me (oneR a) (oneR q) (oneR t) P Q):=mul_in i3 k.K.val i5 fo h;exact ⟨j.fit.e,j,ask_fit _ _ 2 (by decide) k.K.val fo h⟩
  ·exact ⟨oneR 0,_,_,_,ValM1_of ia ip iq ij is it iu iP iQ (ValM1_bad ia iq it iP iQ k he),vy,fun h=>absurd h he⟩
 ·exact ⟨oneR 0,_,_,_,ValM1_of ia ip iq ij is it iu iP iQ (ValM1_arg ne g),vy,fun h=>absurd h ne⟩
theorem partO2 {a b c s:Nat} (ia:In (oneR a) ouI) (ib:In (oneR b) ouI) (ic:In (oneR c) ouI) (is:In (oneR s) ouI):∃ x e y e',ValC (ndO a b c s) 2 P Q x e∧ValC (ndO a b c s) 2 R T y e'∧(e=0→e'=0∧In y x∧Fit x):=by
 have iR:=jR.via iP;have iT:=jT.via iQ
 by_cases he:(Or.st P.z Q.z (Pa.t P Q)).e=0
 ·obtain⟨he',i⟩:=oren_part ic is iP iQ jR jT he
  exact ⟨_,_,_,_,ValO2_ok ia ib ic is iP iQ he,ValO2_ok ia ib ic is iR iT he',fun _=>⟨rfl,i,(oren_fit ic is iP iQ he).fit⟩⟩
 ·by_cases he':(Or.st R.z T.z (Pa.t R T)).e=0
  ·exact ⟨_,_,_,_,ValO2_bad ia ib ic is iP iQ he,ValO2_ok ia ib ic is iR iT he',fun h=>absurd h he⟩
  ·exact ⟨_,_,_,_,ValO2_bad ia ib ic is iP iQ he,ValO2_bad ia ib ic is iR iT he',fun h=>absurd h he⟩
theorem partP2 {a n:Nat} (ia:In (oneR a) aI) (jn:In (oneR n) bigN):∃ x e y e',ValC (ndP a n) 2 P Q x e∧ValC (ndP a n) 2 R T y e'∧(e=0→e'=0∧In y x∧Fit x):=by
 have iR:=jR.via iP;have iT:=jT.via iQ
 rcases look_cases iP iQ ia with k | ⟨e,ne,g⟩
 ·obtain⟨k',_,i2,i3,_⟩:=kf_in iP iQ ia jR jT (.refl ia.fit) k
  have hc:In (Mi.half P Q) bigC:=(lean_u k.M).2;refine ⟨_,_,_,_,ValP2_of ia jn iP iQ (ValP_all ia jn iP iQ k 2),ValP2_of ia jn iR iT (ValP_all ia jn iR iT k' 2),fun h=>?_⟩;have fo:=(di_unit hc jn).fit;have j:In (Pa.pl (oneR a) (oneR n) R T) (Pa.pl (oneR a) (oneR n) P Q):=mul_in i3 k.K.val (di_part hc jn i2 (.refl jn.fit)) fo h;exact ⟨j.fit.e,j,ask_fit _ _ 2 (by decide) k.K.val fo h⟩
 ·have v:=ValP2_of (z:=oneR 0) ia jn iP iQ (ValP_arg ne g 2)
  rcases look_cases iR iT ia with k' | ⟨e',ne',g'⟩
  ·exact ⟨_,_,_,_,v,ValP2_of ia jn iR iT (ValP_all ia jn iR iT k' 2),fun h=>absurd h ne⟩
  ·exact ⟨_,_,_,_,v,ValP2_of (z:=oneR 0) ia jn iR iT (ValP_arg ne' g' 2),fun h=>absurd h ne⟩
theorem totM2 {a p q j s t u:Nat} (ia:In (oneR a) aI) (ip:In (oneR p) bigM) (iq:In (oneR q) bigM) (ij:In (oneR j) bigM) (is:In (oneR s) bigM) (it:In (oneR t) bigM) (iu:In (oneR u) bigM):∃ x e,ValC (ndM a p q j s t u) 2 R T x e:=by
 have iR:=jR.via iP;have iT:=jT.via iQ
 rcases look_cases iR iT ia with k | ⟨e,ne,g⟩
 ·by_cases he:(Co.r33 (Mi.half R T) (oneR j) (oneR u)).e=0
  ·exact ⟨_,_,ValM2_of ia ip iq ij is it iu iR iT (ValM2_all ia ij iu iR iT k he)⟩
  ·exact ⟨oneR 0,_,ValM2_of ia ip iq ij is it iu iR iT (ValM2_bad ia ij iu iR iT k he)⟩
 ·exact ⟨oneR 0,_,ValM2_of ia ip iq ij is it iu iR iT (ValM2_arg ne g)⟩
theorem partM2 {a p q j s t u:Nat} (ia:In (oneR a) aI) (ip:In (oneR p) bigM) (iq:In (oneR q) bigM) (ij:In (oneR j) bigM) (is:In (oneR s) bigM) (it:In (oneR t) bigM) (iu:In (oneR u) bigM):∃ x e y e',ValC (ndM a p q j s t u) 2 P Q x e∧ValC (ndM a p q j s t u) 2 R T y e'∧(e=0→e'=0∧In y x∧Fit x):=by
 have iR:=jR.via iP;have iT:=jT.via iQ;obtain⟨y,e',vy⟩:=totM2 iP iQ jR jT ia ip iq ij is it iu
 rcases look_cases iP iQ ia with k | ⟨e,ne,g⟩
 ·have hc:In (Mi.half P Q) bigC:=(lean_u k.M).2
  by_cases he:(Co.r33 (Mi.half P Q) (oneR j) (oneR u)).e=0
  ·obtain⟨k',_,i2,i3,_⟩:=kf_in iP iQ ia jR jT (.refl ia.fit) k
   obtain⟨he',i5⟩:=co_part hc ij iu i2 (.refl ij.fit) (.refl iu.fit) he;refine ⟨_,_,_,_,ValM2_of ia ip iq ij is it iu iP iQ (ValM2_all ia ij iu iP iQ k he),ValM2_of ia ip iq ij is it iu iR iT (ValM2_all ia ij iu iR iT k' he'),fun h=>?_⟩;have fo:=(co_unit hc ij iu he).fit;have j:In (Pa.me (oneR a) (oneR j) (oneR u) R T) (Pa.me (oneR a) (oneR j) (oneR u) P Q):=mul_in i3 k.K.val i5 fo h;exact ⟨j.fit.e,j,ask_fit _ _ 2 (by decide) k.K.val fo h⟩
  ·exact ⟨oneR 0,_,_,_,ValM2_of ia ip iq ij is it iu iP iQ (ValM2_bad ia ij iu iP iQ k he),vy,fun h=>absurd h he⟩
 ·exact ⟨oneR 0,_,_,_,ValM2_of ia ip iq ij is it iu iP iQ (ValM2_arg ne g),vy,fun h=>absurd h ne⟩
end
theorem pairswithin_any (u0 u1' u2 u3 u4 u5 u6 u7 t0 t1 t2 t3 t4 t5 bw ch s0 s1 s2 s3 s4 s5 m0 m1' m2 m3 m4 m5:Nat) (w:World) (_g0:u0 < 4294967296) (g1:u1' < 4294967296) (g2:u2 < 4294967296) (g3:u3 < 4294967296) (g4:u4 < 4294967296) (g5:u5 < 4294967296) (g6:u6 < 4294967296) (g7:u7 < 4294967296) (j0:t0 < 4294967296) (j1:t1 < 4294967296) (j2:t2 < 4294967296) (j3:t3 < 4294967296) (j4:t4 < 4294967296) (j5:t5 < 4294967296) (hb:bw < 256) (_hc:ch < 256) (k0:s0 < 4294967296) (k1:s1 < 4294967296) (k2:s2 < 4294967296) (k3:s3 < 4294967296) (k4:s4 < 4294967296) (k5:s5 < 4294967296) (l0:m0 < 4294967296) (l1:m1' < 4294967296) (l2:m2 < 4294967296) (l3:m3 < 4294967296) (l4:m4 < 4294967296) (l5:m5 < 4294967296) :
  Calls Tryz.prog 3 #[.agg #[.int .u32 u0,.int .u32 u1',.int .u32 u2,.int .u32 u3,.int .u32 u4,.int .u32 u5,.int .u32 u6,.int .u32 u7],.agg #[.int .u32 t0,.int .u32 t1,.int .u32 t2,.int .u32 t3,.int .u32 t4,.int .u32 t5],.int .u8 bw,.int .u8 ch,.agg #[.int .u32 s0,.int .u32 s1,.int .u32 s2,.int .u32 s3,.int .u32 s4,.int .u32 s5],.agg #[.int .u32 m0,.int .u32 m1',.int .u32 m2,.int .u32 m3,.int .u32 m4,.int .u32 m5]] w (Rt (.bool true) w):=by
 obtain⟨A,B,dA,dB',h2⟩:=two_any t0 t1 t2 t3 t4 t5 j0 j1 j2 j3 j4 j5;obtain⟨k,hk,q1,q2⟩:=chan_of ch
 have k3':k=0∨k=1∨k=2:=by omega
 clear hk;obtain⟨b1,b2,b3,b4,b5⟩:=by_word hb;have us:val u1=SS:=unit_ends.1
 have z0:val 0=0:=by decide +kernel
 obtain⟨P,iP,_,h3⟩:=wide_any (dB_dU dA.b) b2 b3 (by omega) (by omega);obtain⟨Q,iQ,_,h4⟩:=wide_any (dB_dU dB'.b) b2 b3 (by omega) (by omega);obtain⟨R,jR,h5⟩:=inner_any iP s0 s1 s2 s3 s4 s5 k0 k1 k2 k3 k4 k5;obtain⟨T,jT,h6⟩:=inner_any iQ m0 m1' m2 m3 m4 m5 l0 l1 l2 l3 l4 l5
 have qf:=fun w=>run_float_arith (P:=Tryz.prog) (w:=w) .quo 25 .f64 (floatOfInt .f64 (bw:Int)) 4643211215818981376 _ b1
 have iR:=jR.via iP;have iT:=jT.via iQ;clear dA dB' b1 b2 b3 b4 b5 us z0
 rcases four_ways u0 with h | h | h | h
 ·obtain⟨a,b,c,ia,ib,ic,hl⟩:=leafL_any u0 u1' u2 u3 u4 u5 u6 u7 g1 g2 g3 h
  have D:=DenL_ok ia ib ic iP iQ;have D':=DenL_ok ia ib ic iR iT;obtain⟨i,f⟩:=val_part jR.z iP.z
  rcases k3' with rfl | rfl | rfl
  ·exact within_core (n0:=1) (cm:=0) w q1 q2 h2 qf h3 h4 h5 h6 hl (ValL0_ok ia ib ic iP iQ) (ValL0_ok ia ib ic iR iT) D D' (fun _=>⟨rfl,.refl (lam_leaf ia).1,(lam_leaf ia).1⟩) (fun _=>⟨rfl,i,f⟩)
  ·exact within_core (n0:=1) (cm:=1) w q1 q2 h2 qf h3 h4 h5 h6 hl (ValL1_ok ia ib ic iP iQ) (ValL1_ok ia ib ic iR iT) D D' (fun _=>⟨rfl,.refl (lam_leaf ib).1,(lam_leaf ib).1⟩) (fun _=>⟨rfl,i,f⟩)
  ·exact within_core (n0:=1) (cm:=2) w q1 q2 h2 qf h3 h4 h5 h6 hl (ValL2_ok ia ib ic iP iQ) (ValL2_ok ia ib ic iR iT) D D' (fun _=>⟨rfl,.refl (lam_leaf ic).1,(lam_leaf ic).1⟩) (fun _=>⟨rfl,i,f⟩)
 ·obtain⟨a,b,c,s,ia,ib,ic,is,hl⟩:=leafO_any u0 u1' u2 u3 u4 u5 u6 u7 g1 g2 g3 g4 h
  have D:=DenO_ok ia ib ic is iP iQ;have D':=DenO_ok ia ib ic is iR iT;obtain⟨i,f⟩:=val_part jR.z iP.z
  rcases k3' with rfl | rfl | rfl
  ·obtain⟨x,e,y,e',v,v',hh⟩:=partO0 iP iQ jR jT ia ib ic is
   exact within_core (n0:=2) (cm:=0) w q1 q2 h2 qf h3 h4 h5 h6 hl v v' D D' hh (fun _=>⟨rfl,i,f⟩)
  ·obtain⟨x,e,y,e',v,v',hh⟩:=partO1 iP iQ jR jT ia ib ic is
   exact within_core (n0:=2) (cm:=1) w q1 q2 h2 qf h3 h4 h5 h6 hl v v' D D' hh (fun _=>⟨rfl,i,f⟩)
  ·obtain⟨x,e,y,e',v,v',hh⟩:=partO2 iP iQ jR jT ia ib ic is
   exact within_core (n0:=2) (cm:=2) w q1 q2 h2 qf h3 h4 h5 h6 hl v v' D D' hh (fun _=>⟨rfl,i,f⟩)
 ·obtain⟨a,n,ia,jn,hl⟩:=leafP_any u0 u1' u2 u3 u4 u5 u6 u7 g1 g2 h
  obtain⟨_,_,_,d,ed,_,_,_,d',ed',L,L',hd⟩:=den_part iP iQ jR jT ia;have D:=DenP_ok ia jn iP iQ L;have D':=DenP_ok ia jn iR iT L'
  rcases k3' with rfl | rfl | rfl
  ·obtain⟨x,e,y,e',v,v',hh⟩:=partP0 iP iQ jR jT ia jn
   exact within_core (n0:=3) (cm:=0) w q1 q2 h2 qf h3 h4 h5 h6 hl v v' D D' hh hd
  ·obtain⟨x,e,y,e',v,v',hh⟩:=partP1 iP iQ jR jT ia jn
   exact within_core (n0:=3) (cm:=1) w q1 q2 h2 qf h3 h4 h5 h6 hl v v' D D' hh hd
  ·obtain⟨x,e,y,e',v,v',hh⟩:=partP2 iP iQ jR jT ia jn
   exact within_core (n0:=3) (cm:=2) w q1 q2 h2 qf h3 h4 h5 h6 hl v v' D D' hh hd
 ·obtain⟨a,p,q,j,s,t,u,ia,ip,iq,ij,is,it,iu,hl⟩:=leafM_any u0 u1' u2 u3 u4 u5 u6 u7 g1 g2 g3 g4 g5 g6 g7 h
  obtain⟨_,_,_,d,ed,_,_,_,d',ed',L,L',hd⟩:=den_part iP iQ jR jT ia;have D:=DenM_ok ia ip iq ij is it iu iP iQ L;have D':=DenM_ok ia ip iq ij is it iu iR iT L'
  rcases k3' with rfl | rfl | rfl
  ·obtain⟨x,e,y,e',v,v',hh⟩:=partM0 iP iQ jR jT ia ip iq ij is it iu
   exact within_core (n0:=4) (cm:=0) w q1 q2 h2 qf h3 h4 h5 h6 hl v v' D D' hh hd
  ·obtain⟨x,e,y,e',v,v',hh⟩:=partM1 iP iQ jR jT ia ip iq ij is it iu
   exact within_core (n0:=4) (cm:=1) w q1 q2 h2 qf h3 h4 h5 h6 hl v v' D D' hh hd
  ·obtain⟨x,e,y,e',v,v',hh⟩:=partM2 iP iQ jR jT ia ip iq ij is it iu
   exact within_core (n0:=4) (cm:=2) w q1 q2 h2 qf h3 h4 h5 h6 hl v v' D D' hh hd
end
end Go.Proofs.YtnaomilkgfkegaaGreat
