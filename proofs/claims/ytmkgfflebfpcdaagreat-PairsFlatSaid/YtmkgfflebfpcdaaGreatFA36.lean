/- What the claim stands on, part 37: PaI, PaBD, PaFD. -/
import Derived.Test.YtmkgfflebfpcdaaGreatFA34
import Derived.Test.YtmkgfflebfpcdaaGreatFA35
import Derived.Deep.RegionHeld3
import Derived.Test.YtmkgfflebfpcdaaGreatPA17
import Derived.Test.YtmkgfflebfpcdaaGreatFA26
import Derived.Test.YtmkgfflebfpcdaaGreatFA33
set_option maxHeartbeats 4000000
set_option maxRecDepth 100000
namespace Go.Proofs.YtmkgfflebfpcdaaGreat
section
open Go.RowKit
def w16:Nat:=4625196817309499392
def w32:Nat:=4629700416936869888
theorem between16_any (lo hi n:Nat) (hl:lo < 18446744073709551616) (hh:hi < 18446744073709551616) (rl:rightB lo=true) (rh:rightB hi=true) (h0:0≤val lo) (hle:val lo≤val hi) (hs:val hi≤val w16) (hn:n < 4294967296) :
  ∃ x,Amid lo hi x∧∀ w,Calls Tryz.prog 23 #[lo,hi,.int .u32 n] w fun r w'=>r = .returned (x:Value)∧w=w':=by
 have v2:val w32=val w16+val w16:=by decide +kernel
 obtain⟨f,f1,f2,f3,f4,f5⟩:=frac_word n hn
 obtain⟨d,d1,d2,d3,d4,d5⟩:=sub_all hh hl rh rl hle (y0:=w16) (by decide) (by decide) (by omega)
 have eU:val u1=((2 ^ sq:Nat):Int):=by decide +kernel
 obtain⟨m,m1',m2,m3,m4,m5⟩:=mul_near d2 f2 d3 f3 d4 f4 d2 d3 (by rw [←eU]; exact Int.mul_le_mul_of_nonneg_left f5 d4)
 obtain⟨x,x1,x2,x3,x4,x5⟩:=add_all hl m2 rl m3 m4 (y0:=w32) (by decide) (by decide) (by rw [v2]; omega)
 have o1:(FloatKind.f64.format.order x lo == some Ordering.lt)=false:=by
  rw [order_lt x lo x2 hl x3 rl]; exact decide_eq_false (by omega)
 have cw:=fun w=>between6_walk lo hi n f d m x _ w (Lib.hid fun w=>frac_walk n f w (fun w=>run_float_arith w .quo 25 .f64 _ _ _ f1)) (fun w=>run_float_arith w .sub 25 .f64 _ _ _ d1) (fun w=>run_float_arith w .mul 25 .f64 _ _ _ m1') (fun w=>run_float_arith w .add 25 .f64 _ _ _ x1) o1 rfl
 refine ⟨_,?_,cw⟩
 rw [order_gt x hi x2 hh x3 rh]
 by_cases g:val hi < val x
 ·rw [decide_eq_true g,if_pos rfl]; exact ⟨hh,rh,hle,Int.le_refl _⟩
 ·rw [decide_eq_false g,if_neg Bool.false_ne_true]; exact ⟨x2,x3,x4,by omega⟩
theorem amid_in {A:Res} (fA:Fit A) (h0:0≤val A.lo) (h1:val A.hi≤val w16) (n:Nat) (hn:n < 4294967296):∃ x,In (oneR x) A∧∀ w,Calls Tryz.prog 23 #[A.lo,A.hi,.int .u32 n] w fun r w'=>r = .returned (x:Value)∧w=w':=by
 obtain⟨x,h,c⟩:=between16_any A.lo A.hi n fA.lo fA.hi fA.rlo fA.rhi h0 fA.le h1 hn
 exact ⟨x,⟨one_fit h.lt h.right,h.lo,h.hi⟩,c⟩
theorem amid_below {lo hi n x:Nat} (c:∀ w,Calls Tryz.prog 23 #[lo,hi,.int .u32 n] w fun r w'=>r = .returned (x:Value)∧w=w') (w:World) :
  Calls Tryz.prog 23 #[lo,hi,.int .u32 n] w (Rt (x:Value) w):=
 (c w).mono fun _ _ ⟨h,e⟩=>⟨h,e ▸ Below.refl _ _⟩
theorem lim_fits:(Fit ouI∧0≤val ouI.lo∧val ouI.hi≤val w16)∧(Fit aI∧0≤val aI.lo∧val aI.hi≤val w16)∧(Fit bigN∧0≤val bigN.lo∧val bigN.hi≤val w16)∧(Fit bigM∧0≤val bigM.lo∧val bigM.hi≤val w16):=
 ⟨⟨.of (by decide +kernel),by decide +kernel,by decide +kernel⟩,⟨.of (by decide +kernel),by decide +kernel,by decide +kernel⟩,⟨.of (by decide +kernel),by decide +kernel,by decide +kernel⟩,⟨.of (by decide +kernel),by decide +kernel,by decide +kernel⟩⟩
abbrev LeafC (u0 u1' u2 u3 u4 u5 u6 u7:Nat) (n:Value):Prop:=∀ w,Calls Tryz.prog 6 #[.agg #[.int .u32 u0,.int .u32 u1',.int .u32 u2,.int .u32 u3,.int .u32 u4,.int .u32 u5,.int .u32 u6,.int .u32 u7]] w fun r w'=>r = .returned n∧Below w.heap.size w w'
section
variable (u0 u1' u2 u3 u4 u5 u6 u7:Nat) (g0:u0 < 4294967296) (g1:u1' < 4294967296) (g2:u2 < 4294967296) (g3:u3 < 4294967296) (g4:u4 < 4294967296) (g5:u5 < 4294967296) (g6:u6 < 4294967296) (g7:u7 < 4294967296)
include g1 g2 g3 in
theorem leafL_any (h:(u0:Int).tmod 4=0):∃ a b c,In (oneR a) ouI∧In (oneR b) ouI∧In (oneR c) ouI∧LeafC u0 u1' u2 u3 u4 u5 u6 u7 (ndL a b c):=by
 obtain⟨⟨fo,l,k⟩,_⟩:=lim_fits
 obtain⟨a,ia,ca⟩:=amid_in fo l k u1' g1
 obtain⟨b,ib,cb⟩:=amid_in fo l k u2 g2
 obtain⟨c,ic,cc⟩:=amid_in fo l k u3 g3
 exact ⟨a,b,c,ia,ib,ic,fun w=>leafL_walk w h (Lib.hid fun q w hq=>three1_walk w q (Lib.hid hq) (Lib.hid (amid_below ca)) (Lib.hid (amid_below cb)) (Lib.hid (amid_below cc)))⟩
include g1 g2 g3 g4 in
theorem leafO_any (h:(u0:Int).tmod 4=1):∃ a b c s,In (oneR a) ouI∧In (oneR b) ouI∧In (oneR c) ouI∧In (oneR s) ouI∧LeafC u0 u1' u2 u3 u4 u5 u6 u7 (ndO a b c s):=by
 obtain⟨⟨fo,l,k⟩,_⟩:=lim_fits
 obtain⟨a,ia,ca⟩:=amid_in fo l k u1' g1
 obtain⟨b,ib,cb⟩:=amid_in fo l k u2 g2
 obtain⟨c,ic,cc⟩:=amid_in fo l k u3 g3
 obtain⟨s,is,cs⟩:=amid_in fo l k u4 g4
 exact ⟨a,b,c,s,ia,ib,ic,is,fun w=>leafO_walk w h (Lib.hid fun q w hq=>three1_walk w q (Lib.hid hq) (Lib.hid (amid_below ca)) (Lib.hid (amid_below cb)) (Lib.hid (amid_below cc))) (Lib.hid cs)⟩
include g1 g2 in
theorem leafP_any (h:(u0:Int).tmod 4=2):∃ a n,In (oneR a) aI∧In (oneR n) bigN∧LeafC u0 u1' u2 u3 u4 u5 u6 u7 (ndP a n):=by
 obtain⟨_,⟨fa,l,k⟩,⟨fn,ln,kn⟩,_⟩:=lim_fits
 obtain⟨a,ia,ca⟩:=amid_in fa l k u1' g1
 obtain⟨n,jn,cn⟩:=amid_in fn ln kn u2 g2
 exact ⟨a,n,ia,jn,fun w=>leafP_walk w h (Lib.hid ca) (Lib.hid cn)⟩
include g1 g2 g3 g4 g5 g6 g7 in
theorem leafM_any (h:(u0:Int).tmod 4=3):∃ a p q r s t u,In (oneR a) aI∧In (oneR p) bigM∧In (oneR q) bigM∧In (oneR r) bigM∧In (oneR s) bigM∧In (oneR t) bigM∧In (oneR u) bigM∧LeafC u0 u1' u2 u3 u4 u5 u6 u7 (ndM a p q r s t u):=by
 obtain⟨_,⟨fa,l,k⟩,_,⟨fm,lm,km⟩⟩:=lim_fits
 obtain⟨a,ia,ca⟩:=amid_in fa l k u1' g1
 obtain⟨p,ip,cp⟩:=amid_in fm lm km u2 g2
 obtain⟨q,iq,cq⟩:=amid_in fm lm km u3 g3
 obtain⟨r,ir,cr⟩:=amid_in fm lm km u4 g4
 obtain⟨s,is,cs⟩:=amid_in fm lm km u5 g5
 obtain⟨t,it,ct⟩:=amid_in fm lm km u6 g6
 obtain⟨u,iu,cu⟩:=amid_in fm lm km u7 g7
 exact ⟨a,p,q,r,s,t,u,ia,ip,iq,ir,is,it,iu,fun w=>leafM_walk w h (Lib.hid ca)
  (Lib.hid fun x w hx=>three2_walk w x (Lib.hid hx) (Lib.hid (amid_below cp)) (Lib.hid (amid_below cq)) (Lib.hid (amid_below cr)))
  (Lib.hid fun x w hx=>three5_walk w x (Lib.hid hx) (Lib.hid (amid_below cs)) (Lib.hid (amid_below ct)) (Lib.hid (amid_below cu)))⟩
end
theorem four_ways (u:Nat):(u:Int).tmod 4=0∨(u:Int).tmod 4=1∨(u:Int).tmod 4=2∨(u:Int).tmod 4=3:=by
 have e:(u:Int).tmod 4=((u % 4:Nat):Int):=rfl
 omega
theorem chan_of (c:Nat):∃ k:Nat,k < 3∧(c:Int).tmod 3=(k:Int)∧IntKind.i64.wrap (k:Int)=(k:Int):=by
 have e:(c:Int).tmod 3=((c % 3:Nat):Int):=rfl
 refine ⟨c % 3,by omega,e,?_⟩
 have h:c % 3=0∨c % 3=1∨c % 3=2:=by omega
 rcases h with h | h | h <;> rw [h] <;> decide
end
section
open Go.RowKit
theorem near11_any {a:Res} {l g:Nat} (fa:Fit a) (hl:l < 18446744073709551616) (hg:g < 18446744073709551616) (rl:rightB l=true) (rg:rightB g=true) (h1:val l≤val a.lo) (h2:val a.hi≤val g) (w:World) :
  Calls Tryz.prog 29 #[.agg #[a.lo,a.hi],l,g] w (Rt (.bool true) w):=by
 refine near11_walk w ?_ ?_ ?_
 ·rw [order_gt _ _ fa.lo hl fa.rlo rl,order_eq _ _ fa.lo hl fa.rlo rl]
  by_cases e:val a.lo=val l
  ·rw [decide_eq_true e,Bool.or_true]
  ·rw [decide_eq_true (by omega:val l < val a.lo),Bool.true_or]
 ·exact (order_le _ _ fa.hi hg fa.rhi rg).trans (decide_eq_true h2)
 ·exact (order_le _ _ fa.lo fa.hi fa.rlo fa.rhi).trans (decide_eq_true fa.le)
def w15:Nat:=4609434218613702656
theorem ex11_in:In (oneR u1) ouI∧In (oneR wf) ouI∧In (oneR 0) ouI∧In (oneR w15) bigN:=
 ⟨⟨.of (by decide +kernel),by decide +kernel,by decide +kernel⟩,⟨.of (by decide +kernel),by decide +kernel,by decide +kernel⟩,⟨.of (by decide +kernel),by decide +kernel,by decide +kernel⟩,⟨.of (by decide +kernel),by decide +kernel,by decide +kernel⟩⟩
theorem ex11_zero:(valueR (oneR 0)).lo=0∧(valueR (oneR 0)).hi=0:=by decide +kernel
theorem ex11_near:(val 4599405781053817700≤val (valueR (oneR u1)).lo∧val (valueR (oneR u1)).hi≤val 4599405781071832099)∧(val 4594902181426447204≤val (valueR (oneR wf)).lo∧val (valueR (oneR wf)).hi≤val 4594902181462476001)∧(val 4578493347781377788≤val (Pa.pl (oneR wf) (oneR w15) upV upV).lo∧val (Pa.pl (oneR wf) (oneR w15) upV upV).hi≤val 4578493348357838540) ∧
  val 4599405781053817700≤val (Mi.den (Mi.lean upV upV) upV.z (oneR wf)).lo∧val (Mi.den (Mi.lean upV upV) upV.z (oneR wf)).hi≤val 4599405781071832099:=by decide +kernel
theorem awake11_any (w:World):Calls Tryz.prog 12 #[] w (Rt (.bool true) w):=by
 obtain⟨i1,i2,i3,i4⟩:=ex11_in
 obtain⟨z1,z2⟩:=ex11_zero
 obtain⟨⟨n1,n2⟩,⟨n3,n4⟩,⟨n5,n6⟩,n7,n8⟩:=ex11_near
 have iU:=dB_dU upV_in
 have cU:=fun w=>point_walk u1 w (fun w=>run_float_arith w .add 25 .f64 _ _ _ (add_self0 (by decide:u1 < 18446744073709551616) (by decide)))
 have c2:=ValL0_ok i1 i2 i3 iU iU
 have c3:=ValL1_ok i1 i2 i3 iU iU
 have c4:=ValL2_ok i1 i2 i3 iU iU
 unfold ValC at c4
 rw [z1,z2] at c4
 have c5:=ValL3_ok i1 i2 i3 iU iU
 have K:=kf_dirs upV_in upV_in wf_in
 have c6:=ValP0_of wf_in i4 iU iU (ValP_all wf_in i4 iU iU K 0)
 have fp:=(pl_leaf upV_in upV_in wf_in i4).1.1
 rw [fp.e] at c6
 have c7:=DenP_ok wf_in i4 iU iU (look_dirs upV_in upV_in wf_in)
 have fd:=(den_leaf upV_in upV_in wf_in).1
 have f1:=(lam_leaf i1).1
 have f2:=(lam_leaf i2).1
 have c12:=RightL_ok i1 i2 i3
 unfold Pa.lam at f1 f2
 clear K z1 z2 iU i1 i2 i3 i4
 generalize valueR (oneR u1)=X1 at *
 generalize valueR (oneR wf)=X2 at *
 generalize Pa.pl (oneR wf) (oneR w15) upV upV=X3 at *
 generalize Mi.den (Mi.lean upV upV) upV.z (oneR wf)=X4 at *
 exact awake11_walk w (c1:=Lib.hid cU) (c2:=Lib.hid c2) (c3:=Lib.hid c3) (c4:=Lib.hid c4) (c5:=Lib.hid c5) (c6:=Lib.hid c6) (c7:=Lib.hid c7)
  (c8:=Lib.hid (near11_any f1 (by decide) (by decide) (by decide) (by decide) n1 n2)) (c9:=Lib.hid (near11_any f2 (by decide) (by decide) (by decide) (by decide) n3 n4)) (e_0_0:=by decide +kernel)
  (c10:=Lib.hid (near11_any fp (by decide) (by decide) (by decide) (by decide) n5 n6)) (c11:=Lib.hid (near11_any fd (by decide) (by decide) (by decide) (by decide) n7 n8)) (c12:=Lib.hid c12) (c13:=Lib.hid fun w=>RightN_walk w (Lib.hid fun w=>kindOfN_walk w))
abbrev nd (n0 n1 n2 n3 n4 n5 n6 n7 n8 n9 n10 n11 n12 n13 n14 n15 n16:Nat) (n17 n18:Int):Value:=.agg #[.int .u8 n0,n1,n2,n3,n4,n5,n6,n7,n8,n9,n10,n11,n12,n13,n14,n15,n16,.int .i64 n17,.int .i64 n18]
end
section
open Go.RowKit
theorem frac_below (n:Nat) (hn:n < 4294967296):∃ f,In (oneR f) ouI∧∀ w,Calls Tryz.prog 16 #[.int .u32 n] w (Rt (f:Value) w):=by
 obtain⟨f,f1,f2,f3,f4,f5⟩:=frac_word n hn
 have z0:val ouI.lo=0:=by decide +kernel
 exact ⟨f,⟨one_fit f2 f3,by rw [z0]; exact f4,f5⟩,fun w=>(frac_walk n f w (fun w=>run_float_arith w .quo 25 .f64 _ _ _ f1)).mono fun _ _ ⟨h,e⟩=>⟨h,e ▸ Below.refl _ _⟩⟩
theorem flat_core12 {u0 u1' u2 u3 u4 u5 u6 u7 t0 t1 t2 t3 t4 t5 ch vv cm rh n0 n1 n2 n3 n4 n5 n6 n7 n8 n9 n10 n11 n12 n13 n14 n15 n16:Nat} {n17 n18:Int} {A B:V3} {x y:Res} (w:World) (q1:(ch:Int).tmod 3=(cm:Int)) (q2:IntKind.i64.wrap (cm:Int)=(cm:Int))
  (h2:∀ w,Calls Tryz.prog 7 #[.agg #[.int .u32 t0,.int .u32 t1,.int .u32 t2,.int .u32 t3,.int .u32 t4,.int .u32 t5]] w (Rt (.tuple #[agV A,agV B,.bool true]) w)) (h3:∀ w,Calls Tryz.prog 16 #[.int .u32 vv] w (Rt (rh:Value) w))
  (hx:ValC (ndL rh rh rh) cm A B x 0) (hy:ValC (ndO rh rh rh 0) cm A B y 0) (hN:Fit (oneR rh)) (hP:K2 17 0 0 rh rh piR.lo piR.hi x.lo x.hi)
  (fx:Fit x) (fy:Fit y) (m:val x.lo≤val y.hi∧val y.lo≤val x.hi) (hl:LeafC u0 u1' u2 u3 u4 u5 u6 u7 (nd n0 n1 n2 n3 n4 n5 n6 n7 n8 n9 n10 n11 n12 n13 n14 n15 n16 n17 n18))
  (hk:decide ((n0:Int) < 3)=true) :
  Calls Tryz.prog 5 #[.agg #[.int .u32 u0,.int .u32 u1',.int .u32 u2,.int .u32 u3,.int .u32 u4,.int .u32 u5,.int .u32 u6,.int .u32 u7],.agg #[.int .u32 t0,.int .u32 t1,.int .u32 t2,.int .u32 t3,.int .u32 t4,.int .u32 t5],.int .u8 ch,.int .u32 vv] w (Rt (.bool true) w):=
 pflat_12 w (c1:=Lib.hid hl) (q_rem:=q1) (hwc:=q2) (c2:=Lib.hid h2) (c3:=Lib.hid h3) (c4:=Lib.hid hx) (c5:=Lib.hid hy) (d6:=Lib.hid fun pb=>calc_num hN pb) (c7:=Lib.hid pi_any) (d8:=Lib.hid hP) (e_xl_xl:=eq_of_val8 fx.lo fx.lo fx.rlo fx.rlo rfl) (e_xh_xh:=eq_of_val8 fx.hi fx.hi fx.rhi fx.rhi rfl) (c10:=Lib.hid (meets8 fx fy m)) (c11:=Lib.hid awake11_any) (hk:=hk)
theorem flat_core34 {u0 u1' u2 u3 u4 u5 u6 u7 t0 t1 t2 t3 t4 t5 ch vv cm rh n0 n1 n2 n3 n4 n5 n6 n7 n8 n9 n10 n11 n12 n13 n14 n15 n16:Nat} {n17 n18:Int} {A B:V3} {x y z d:Res} (w:World) (q1:(ch:Int).tmod 3=(cm:Int)) (q2:IntKind.i64.wrap (cm:Int)=(cm:Int))
  (h2:∀ w,Calls Tryz.prog 7 #[.agg #[.int .u32 t0,.int .u32 t1,.int .u32 t2,.int .u32 t3,.int .u32 t4,.int .u32 t5]] w (Rt (.tuple #[agV A,agV B,.bool true]) w)) (h3:∀ w,Calls Tryz.prog 16 #[.int .u32 vv] w (Rt (rh:Value) w))
  (hx:ValC (ndL rh rh rh) cm A B x 0) (hy:ValC (ndO rh rh rh 0) cm A B y 0) (hN:Fit (oneR rh)) (hP:K2 17 0 0 rh rh piR.lo piR.hi x.lo x.hi)
  (fx:Fit x) (fy:Fit y) (m:val x.lo≤val y.hi∧val y.lo≤val x.hi) (hl:LeafC u0 u1' u2 u3 u4 u5 u6 u7 (nd n0 n1 n2 n3 n4 n5 n6 n7 n8 n9 n10 n11 n12 n13 n14 n15 n16 n17 n18))
  (hz:ValC (nd n0 n1 n2 n3 n4 n5 n6 n7 n8 n9 n10 n11 n12 n13 n14 n15 n16 n17 n18) cm A B z 0) (hd:DenC (nd n0 n1 n2 n3 n4 n5 n6 n7 n8 n9 n10 n11 n12 n13 n14 n15 n16 n17 n18) A B d 0) (fA:Fit A.z) (fz:Fit z) (fd:Fit d) (fm:Fit (mulR z A.z)) (le:val (mulR z A.z).lo≤val d.hi)
  (hk:decide ((n0:Int) < 3)=false) :
  Calls Tryz.prog 5 #[.agg #[.int .u32 u0,.int .u32 u1',.int .u32 u2,.int .u32 u3,.int .u32 u4,.int .u32 u5,.int .u32 u6,.int .u32 u7],.agg #[.int .u32 t0,.int .u32 t1,.int .u32 t2,.int .u32 t3,.int .u32 t4,.int .u32 t5],.int .u8 ch,.int .u32 vv] w (Rt (.bool true) w):=
 pflat_34 w (c1:=Lib.hid hl) (q_rem:=q1) (hwc:=q2) (c2:=Lib.hid h2) (c3:=Lib.hid h3) (c4:=Lib.hid hx) (c5:=Lib.hid hy) (d6:=Lib.hid fun pb=>calc_num hN pb) (c7:=Lib.hid pi_any) (d8:=Lib.hid hP) (e_xl_xl:=eq_of_val8 fx.lo fx.lo fx.rlo fx.rlo rfl) (e_xh_xh:=eq_of_val8 fx.hi fx.hi fx.rhi fx.rhi rfl) (c10:=Lib.hid (meets8 fx fy m)) (c11:=Lib.hid hz) (c12:=Lib.hid hd) (d13:=Lib.hid fun pb=>calc_mul fz fA fm pb) (o_leqml_dh:=(order_le _ _ fm.lo fd.hi fm.rlo fd.rhi).trans (decide_eq_true le)) (c15:=Lib.hid awake11_any) (hk:=hk)
theorem pairsflat_any (u0 u1' u2 u3 u4 u5 u6 u7 t0 t1 t2 t3 t4 t5 ch vv:Nat) (w:World) (_g0:u0 < 4294967296) (g1:u1' < 4294967296) (g2:u2 < 4294967296) (g3:u3 < 4294967296) (g4:u4 < 4294967296) (g5:u5 < 4294967296) (g6:u6 < 4294967296) (g7:u7 < 4294967296) (j0:t0 < 4294967296) (j1:t1 < 4294967296) (j2:t2 < 4294967296) (j3:t3 < 4294967296) (j4:t4 < 4294967296) (j5:t5 < 4294967296) (_hc:ch < 256) (hv:vv < 4294967296) :
  Calls Tryz.prog 5 #[.agg #[.int .u32 u0,.int .u32 u1',.int .u32 u2,.int .u32 u3,.int .u32 u4,.int .u32 u5,.int .u32 u6,.int .u32 u7],.agg #[.int .u32 t0,.int .u32 t1,.int .u32 t2,.int .u32 t3,.int .u32 t4,.int .u32 t5],.int .u8 ch,.int .u32 vv] w (Rt (.bool true) w):=by
 obtain⟨A,B,dA,dB',h2⟩:=two_any t0 t1 t2 t3 t4 t5 j0 j1 j2 j3 j4 j5
 obtain⟨k,hk,q1,q2⟩:=chan_of ch
 have k3:k=0∨k=1∨k=2:=by omega
 clear hk
 obtain⟨rh,iv,h3⟩:=frac_below vv hv
 have bA:=dA.b
 have bB:=dB'.b
 have iA:=dB_dU bA
 have iB:=dB_dU bB
 clear dA dB'
 have iz:In (oneR 0) ouI:=ex11_in.2.2.1
 obtain⟨fx,_⟩:=lam_leaf iv
 obtain⟨eo,fy,_,_⟩:=oren_leaf bA bB iv iz
 have m:val (valueR (oneR rh)).lo≤val (Pa.oren (oneR rh) (oneR 0) A B).hi∧val (Pa.oren (oneR rh) (oneR 0) A B).lo≤val (valueR (oneR rh)).hi:=by
  have t:=edge_unit (st_fit (pa_dirs (dB_pdU bA) (dB_pdU bB)) eo)
  have f:=flat_meets iv (t:=Or.slope A.z B.z (Pa.t A B)) t
  exact ⟨f.2,f.1⟩
 have hP:K2 17 0 0 rh rh piR.lo piR.hi (valueR (oneR rh)).lo (valueR (oneR rh)).hi:=fun pb=>calc_div iv.fit big_fit.1 fx pb
 rcases four_ways u0 with h | h | h | h
 ·obtain⟨a,b,c,ia,ib,ic,hl⟩:=leafL_any u0 u1' u2 u3 u4 u5 u6 u7 g1 g2 g3 h
  rcases k3 with rfl | rfl | rfl
  ·exact flat_core12 (n0:=1) (cm:=0) w q1 q2 h2 h3 (ValL0_ok iv iv iv iA iB) (ValO0_ok iv iv iv iz iA iB eo) iv.fit hP fx fy m hl (by decide)
  ·exact flat_core12 (n0:=1) (cm:=1) w q1 q2 h2 h3 (ValL1_ok iv iv iv iA iB) (ValO1_ok iv iv iv iz iA iB eo) iv.fit hP fx fy m hl (by decide)
  ·exact flat_core12 (n0:=1) (cm:=2) w q1 q2 h2 h3 (ValL2_ok iv iv iv iA iB) (ValO2_ok iv iv iv iz iA iB eo) iv.fit hP fx fy m hl (by decide)
 ·obtain⟨a,b,c,s,ia,ib,ic,is,hl⟩:=leafO_any u0 u1' u2 u3 u4 u5 u6 u7 g1 g2 g3 g4 h
  rcases k3 with rfl | rfl | rfl
  ·exact flat_core12 (n0:=2) (cm:=0) w q1 q2 h2 h3 (ValL0_ok iv iv iv iA iB) (ValO0_ok iv iv iv iz iA iB eo) iv.fit hP fx fy m hl (by decide)
  ·exact flat_core12 (n0:=2) (cm:=1) w q1 q2 h2 h3 (ValL1_ok iv iv iv iA iB) (ValO1_ok iv iv iv iz iA iB eo) iv.fit hP fx fy m hl (by decide)
  ·exact flat_core12 (n0:=2) (cm:=2) w q1 q2 h2 h3 (ValL2_ok iv iv iv iA iB) (ValO2_ok iv iv iv iz iA iB eo) iv.fit hP fx fy m hl (by decide)
 ·obtain⟨a,n,ia,jn,hl⟩:=leafP_any u0 u1' u2 u3 u4 u5 u6 u7 g1 g2 h
  have D:=DenP_ok ia jn iA iB (look_dirs bA bB ia)
  obtain⟨fd,_⟩:=den_leaf bA bB ia
  obtain⟨⟨f,_⟩,_,_⟩:=pl_leaf bA bB ia jn
  have K:=kf_dirs bA bB ia
  have u:In (Di.out (Mi.half A B) (oneR n)) unitR:=di_unit (lean_u K.M).2 jn
  obtain⟨fm,le⟩:=mirror_less bA bB ia u
  rcases k3 with rfl | rfl | rfl
  ·have v:=ValP0_of ia jn iA iB (ValP_all ia jn iA iB K 0)
   rw [f.e] at v
   exact flat_core34 (n0:=3) (cm:=0) w q1 q2 h2 h3 (ValL0_ok iv iv iv iA iB) (ValO0_ok iv iv iv iz iA iB eo) iv.fit hP fx fy m hl v D iA.z.fit f fd fm le (by decide)
  ·have v:=ValP1_of ia jn iA iB (ValP_all ia jn iA iB K 1)
   rw [f.e] at v
   exact flat_core34 (n0:=3) (cm:=1) w q1 q2 h2 h3 (ValL1_ok iv iv iv iA iB) (ValO1_ok iv iv iv iz iA iB eo) iv.fit hP fx fy m hl v D iA.z.fit f fd fm le (by decide)
  ·have v:=ValP2_of ia jn iA iB (ValP_all ia jn iA iB K 2)
   rw [f.e] at v
   exact flat_core34 (n0:=3) (cm:=2) w q1 q2 h2 h3 (ValL2_ok iv iv iv iA iB) (ValO2_ok iv iv iv iz iA iB eo) iv.fit hP fx fy m hl v D iA.z.fit f fd fm le (by decide)
 ·obtain⟨a,p,q,j,s,t,u,ia,ip,iq,ij,is,it,iu,hl⟩:=leafM_any u0 u1' u2 u3 u4 u5 u6 u7 g1 g2 g3 g4 g5 g6 g7 h
  have D:=DenM_ok ia ip iq ij is it iu iA iB (look_dirs bA bB ia)
  obtain⟨fd,_⟩:=den_leaf bA bB ia
  have K:=kf_dirs bA bB ia
  rcases k3 with rfl | rfl | rfl
  ·obtain⟨e,⟨f,_⟩,_,_⟩:=me_leaf bA bB ia ip is
   have v:=ValM0_of ia ip iq ij is it iu iA iB (ValM0_all ia ip is iA iB K e)
   rw [f.e] at v
   obtain⟨fm,le⟩:=mirror_less bA bB ia (co_unit (lean_u K.M).2 ip is e)
   exact flat_core34 (n0:=4) (cm:=0) w q1 q2 h2 h3 (ValL0_ok iv iv iv iA iB) (ValO0_ok iv iv iv iz iA iB eo) iv.fit hP fx fy m hl v D iA.z.fit f fd fm le (by decide)
  ·obtain⟨e,⟨f,_⟩,_,_⟩:=me_leaf bA bB ia iq it
   have v:=ValM1_of ia ip iq ij is it iu iA iB (ValM1_all ia iq it iA iB K e)
   rw [f.e] at v
   obtain⟨fm,le⟩:=mirror_less bA bB ia (co_unit (lean_u K.M).2 iq it e)
   exact flat_core34 (n0:=4) (cm:=1) w q1 q2 h2 h3 (ValL1_ok iv iv iv iA iB) (ValO1_ok iv iv iv iz iA iB eo) iv.fit hP fx fy m hl v D iA.z.fit f fd fm le (by decide)
  ·obtain⟨e,⟨f,_⟩,_,_⟩:=me_leaf bA bB ia ij iu
   have v:=ValM2_of ia ip iq ij is it iu iA iB (ValM2_all ia ij iu iA iB K e)
   rw [f.e] at v
   obtain⟨fm,le⟩:=mirror_less bA bB ia (co_unit (lean_u K.M).2 ij iu e)
   exact flat_core34 (n0:=4) (cm:=2) w q1 q2 h2 h3 (ValL2_ok iv iv iv iA iB) (ValO2_ok iv iv iv iz iA iB eo) iv.fit hP fx fy m hl v D iA.z.fit f fd fm le (by decide)
end
end Go.Proofs.YtmkgfflebfpcdaaGreat
