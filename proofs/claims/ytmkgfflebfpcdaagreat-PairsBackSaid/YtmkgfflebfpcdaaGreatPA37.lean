/- What the claim stands on, part 38: PaBD. -/
import Derived.Test.YtmkgfflebfpcdaaGreatPA33
import Derived.Test.YtmkgfflebfpcdaaGreatPA35
import Derived.Test.YtmkgfflebfpcdaaGreatPA36
set_option maxHeartbeats 2000000
set_option maxRecDepth 100000
namespace Go.Proofs.YtmkgfflebfpcdaaGreat
section
open Go.RowKit
theorem near11_any {a:Res} {l g:Nat} (fa:Fit a) (hl:l < 18446744073709551616) (hg:g < 18446744073709551616) (rl:rightB l=true) (rg:rightB g=true) (h1:val l≤val a.lo) (h2:val a.hi≤val g) (w:World) :
   Calls Tryz.prog 29 #[.agg #[a.lo,a.hi],l,g] w (Rt (.bool true) w):=by
 refine near11_walk w ?_ ?_ ?_
 · rw [order_gt _ _ fa.lo hl fa.rlo rl,order_eq _ _ fa.lo hl fa.rlo rl]
   by_cases e:val a.lo=val l
   · rw [decide_eq_true e,Bool.or_true]
   · rw [decide_eq_true (by omega:val l < val a.lo),Bool.true_or]
 · exact (order_le _ _ fa.hi hg fa.rhi rg).trans (decide_eq_true h2)
 · exact (order_le _ _ fa.lo fa.hi fa.rlo fa.rhi).trans (decide_eq_true fa.le)
def w15:Nat:=4609434218613702656
theorem ex11_in:In (oneR u1) ouI∧In (oneR wf) ouI∧In (oneR 0) ouI∧In (oneR w15) bigN:=
 ⟨⟨.of (by decide +kernel),by decide +kernel,by decide +kernel⟩,⟨.of (by decide +kernel),by decide +kernel,by decide +kernel⟩,⟨.of (by decide +kernel),by decide +kernel,by decide +kernel⟩,⟨.of (by decide +kernel),by decide +kernel,by decide +kernel⟩⟩
theorem ex11_zero:(valueR (oneR 0)).lo=0∧(valueR (oneR 0)).hi=0:=by decide +kernel
theorem ex11_near:(val 4599405781053817700≤val (valueR (oneR u1)).lo∧val (valueR (oneR u1)).hi≤val 4599405781071832099)∧(val 4594902181426447204≤val (valueR (oneR wf)).lo∧val (valueR (oneR wf)).hi≤val 4594902181462476001)∧(val 4578493347781377788≤val (Pa.pl (oneR wf) (oneR w15) upV upV).lo∧val (Pa.pl (oneR wf) (oneR w15) upV upV).hi≤val 4578493348357838540) ∧
   val 4599405781053817700≤val (Mi.den (Mi.lean upV upV) upV.z (oneR wf)).lo∧val (Mi.den (Mi.lean upV upV) upV.z (oneR wf)).hi≤val 4599405781071832099:=by decide +kernel
theorem awake11_any (w:World):Calls Tryz.prog 12 #[] w (Rt (.bool true) w):=by
 obtain⟨i1,i2,i3,i4⟩:=ex11_in
 obtain⟨z1,z2⟩:=ex11_zero
 obtain⟨⟨n1,n2⟩,⟨n3,n4⟩,⟨n5,n6⟩,n7,n8⟩:=ex11_near
 have iU:=dB_dU upV_in
 have cU:=fun w=>point_walk u1 w (fun w=>run_float_arith w .add 25 .f64 _ _ _ (add_self0 (by decide:u1 < 18446744073709551616) (by decide)))
 have c2:=ValL0_ok i1 i2 i3 iU iU
 have c3:=ValL1_ok i1 i2 i3 iU iU
 have c4:=ValL2_ok i1 i2 i3 iU iU
 unfold ValC at c4
 rw [z1,z2] at c4
 have c5:=ValL3_ok i1 i2 i3 iU iU
 have K:=kf_dirs upV_in upV_in wf_in
 have c6:=ValP0_of wf_in i4 iU iU (ValP_all wf_in i4 iU iU K 0)
 have fp:=(pl_leaf upV_in upV_in wf_in i4).1.1
 rw [fp.e] at c6
 have c7:=DenP_ok wf_in i4 iU iU (look_dirs upV_in upV_in wf_in)
 have fd:=(den_leaf upV_in upV_in wf_in).1
 have f1:=(lam_leaf i1).1
 have f2:=(lam_leaf i2).1
 have c12:=RightL_ok i1 i2 i3
 unfold Pa.lam at f1 f2
 clear K z1 z2 iU i1 i2 i3 i4
 generalize valueR (oneR u1)=X1 at *
 generalize valueR (oneR wf)=X2 at *
 generalize Pa.pl (oneR wf) (oneR w15) upV upV=X3 at *
 generalize Mi.den (Mi.lean upV upV) upV.z (oneR wf)=X4 at *
 exact awake11_walk w (c1:=Lib.hid cU) (c2:=Lib.hid c2) (c3:=Lib.hid c3) (c4:=Lib.hid c4) (c5:=Lib.hid c5) (c6:=Lib.hid c6) (c7:=Lib.hid c7)
   (c8:=Lib.hid (near11_any f1 (by decide) (by decide) (by decide) (by decide) n1 n2)) (c9:=Lib.hid (near11_any f2 (by decide) (by decide) (by decide) (by decide) n3 n4)) (e_0_0:=by decide +kernel)
   (c10:=Lib.hid (near11_any fp (by decide) (by decide) (by decide) (by decide) n5 n6)) (c11:=Lib.hid (near11_any fd (by decide) (by decide) (by decide) (by decide) n7 n8)) (c12:=Lib.hid c12) (c13:=Lib.hid fun w=>RightN_walk w (Lib.hid fun w=>kindOfN_walk w))
abbrev nd (n0 n1 n2 n3 n4 n5 n6 n7 n8 n9 n10 n11 n12 n13 n14 n15 n16:Nat) (n17 n18:Int):Value:=.agg #[.int .u8 n0,n1,n2,n3,n4,n5,n6,n7,n8,n9,n10,n11,n12,n13,n14,n15,n16,.int .i64 n17,.int .i64 n18]
theorem back_core {u0 u1' u2 u3 u4 u5 u6 u7 t0 t1 t2 t3 t4 t5 ch cm n0 n1 n2 n3 n4 n5 n6 n7 n8 n9 n10 n11 n12 n13 n14 n15 n16:Nat} {n17 n18:Int} {A B:V3} {a b d:Res} (w:World) (hl:LeafC u0 u1' u2 u3 u4 u5 u6 u7 (nd n0 n1 n2 n3 n4 n5 n6 n7 n8 n9 n10 n11 n12 n13 n14 n15 n16 n17 n18)) (q1:(ch:Int).tmod 3=(cm:Int)) (q2:IntKind.i64.wrap (cm:Int)=(cm:Int))
   (h2:∀ w,Calls Tryz.prog 7 #[.agg #[.int .u32 t0,.int .u32 t1,.int .u32 t2,.int .u32 t3,.int .u32 t4,.int .u32 t5]] w (Rt (.tuple #[agV A,agV B,.bool true]) w))
   (hR:RigC (nd n0 n1 n2 n3 n4 n5 n6 n7 n8 n9 n10 n11 n12 n13 n14 n15 n16 n17 n18)) (hv:ValC (nd n0 n1 n2 n3 n4 n5 n6 n7 n8 n9 n10 n11 n12 n13 n14 n15 n16 n17 n18) cm A B a 0) (hv':ValC (nd n0 n1 n2 n3 n4 n5 n6 n7 n8 n9 n10 n11 n12 n13 n14 n15 n16 n17 n18) cm B A b 0) (hd:DenC (nd n0 n1 n2 n3 n4 n5 n6 n7 n8 n9 n10 n11 n12 n13 n14 n15 n16 n17 n18) A B d 0)
   (fa:Fit a) (fb:Fit b) (fd:Fit d) (a0:0≤val a.lo) (d0:0 < val d.lo) (m:val a.lo≤val b.hi∧val b.lo≤val a.hi) :
   Calls Tryz.prog 3 #[.agg #[.int .u32 u0,.int .u32 u1',.int .u32 u2,.int .u32 u3,.int .u32 u4,.int .u32 u5,.int .u32 u6,.int .u32 u7],.agg #[.int .u32 t0,.int .u32 t1,.int .u32 t2,.int .u32 t3,.int .u32 t4,.int .u32 t5],.int .u8 ch] w (Rt (.bool true) w):=by
 have z0:val 0=0:=by decide +kernel
 have dl:=fd.le
 have al:=fa.le
 have gd:(FloatKind.f64.format.order d.lo 0 == some Ordering.gt)=true:=(order_gt _ _ fd.lo (by decide) fd.rlo (by decide)).trans (decide_eq_true (by omega))
 have gh:(FloatKind.f64.format.order d.hi 0 == some Ordering.gt)=true:=(order_gt _ _ fd.hi (by decide) fd.rhi (by decide)).trans (decide_eq_true (by omega))
 have ql:=order_eq a.lo 0 fa.lo (by decide) fa.rlo (by decide)
 have qh:=order_eq a.hi 0 fa.hi (by decide) fa.rhi (by decide)
 by_cases e1:val a.lo=0
 · have ql':=ql.trans (decide_eq_true (by omega))
   by_cases e2:val a.hi=0
   · exact pback_3 w (c1:=Lib.hid hl) (q_rem:=q1) (hwc:=q2) (c2:=Lib.hid h2) (c3:=Lib.hid hR) (c4:=Lib.hid hv) (c5:=Lib.hid hv') (c6:=Lib.hid hd) (c7:=Lib.hid (meets8 fa fb m)) (c8:=Lib.hid awake11_any) (o_geqdl_0:=(geq_0 fd.lo fd.rlo).trans (decide_eq_true (by omega))) (o_eqlxh_0:=qh.trans (decide_eq_true (by omega))) (o_eqlxl_0:=ql')
   · exact pback_2 w (c1:=Lib.hid hl) (q_rem:=q1) (hwc:=q2) (c2:=Lib.hid h2) (c3:=Lib.hid hR) (c4:=Lib.hid hv) (c5:=Lib.hid hv') (c6:=Lib.hid hd) (c7:=Lib.hid (meets8 fa fb m)) (c8:=Lib.hid awake11_any) (o_geqdl_0:=(geq_0 fd.lo fd.rlo).trans (decide_eq_true (by omega))) (o_eqlxh_0:=qh.trans (decide_eq_false (by omega))) (o_gtrdh_0:=gh) (o_eqlxl_0:=ql')
 · exact pback_0 w (c1:=Lib.hid hl) (q_rem:=q1) (hwc:=q2) (c2:=Lib.hid h2) (c3:=Lib.hid hR) (c4:=Lib.hid hv) (c5:=Lib.hid hv') (c6:=Lib.hid hd) (c7:=Lib.hid (meets8 fa fb m)) (c8:=Lib.hid awake11_any) (o_gtrxl_0:=(order_gt _ _ fa.lo (by decide) fa.rlo (by decide)).trans (decide_eq_true (by omega))) (o_gtrdl_0:=gd) (o_eqlxh_0:=qh.trans (decide_eq_false (by omega))) (o_gtrdh_0:=gh) (o_eqlxl_0:=ql.trans (decide_eq_false (by omega)))
theorem pairsback_any (u0 u1' u2 u3 u4 u5 u6 u7 t0 t1 t2 t3 t4 t5 ch:Nat) (w:World) (_g0:u0 < 4294967296) (g1:u1' < 4294967296) (g2:u2 < 4294967296) (g3:u3 < 4294967296) (g4:u4 < 4294967296) (g5:u5 < 4294967296) (g6:u6 < 4294967296) (g7:u7 < 4294967296) (j0:t0 < 4294967296) (j1:t1 < 4294967296) (j2:t2 < 4294967296) (j3:t3 < 4294967296) (j4:t4 < 4294967296) (j5:t5 < 4294967296) (_hc:ch < 256) :
   Calls Tryz.prog 3 #[.agg #[.int .u32 u0,.int .u32 u1',.int .u32 u2,.int .u32 u3,.int .u32 u4,.int .u32 u5,.int .u32 u6,.int .u32 u7],.agg #[.int .u32 t0,.int .u32 t1,.int .u32 t2,.int .u32 t3,.int .u32 t4,.int .u32 t5],.int .u8 ch] w (Rt (.bool true) w):=by
 obtain⟨A,B,dA,dB',h2⟩:=two_any t0 t1 t2 t3 t4 t5 j0 j1 j2 j3 j4 j5
 obtain⟨k,hk,q1,q2⟩:=chan_of ch
 have k3:k=0∨k=1∨k=2:=by omega
 clear hk
 have bA:=dA.b
 have bB:=dB'.b
 have iA:=dB_dU bA
 have iB:=dB_dU bB
 clear dA dB'
 rcases four_ways u0 with h | h | h | h
 · obtain⟨a,b,c,ia,ib,ic,hl⟩:=leafL_any u0 u1' u2 u3 u4 u5 u6 u7 g1 g2 g3 h
   have R:=RightL_ok ia ib ic
   have D:=DenL_ok ia ib ic iA iB
   obtain⟨fd,d0⟩:=lam_den bA
   rcases k3 with rfl | rfl | rfl
   · exact back_core (n0:=1) (cm:=0) w hl q1 q2 h2 R (ValL0_ok ia ib ic iA iB) (ValL0_ok ia ib ic iB iA) D (lam_leaf ia).1 (lam_leaf ia).1 fd (lam_leaf ia).2 d0 ⟨(lam_leaf ia).1.le,(lam_leaf ia).1.le⟩
   · exact back_core (n0:=1) (cm:=1) w hl q1 q2 h2 R (ValL1_ok ia ib ic iA iB) (ValL1_ok ia ib ic iB iA) D (lam_leaf ib).1 (lam_leaf ib).1 fd (lam_leaf ib).2 d0 ⟨(lam_leaf ib).1.le,(lam_leaf ib).1.le⟩
   · exact back_core (n0:=1) (cm:=2) w hl q1 q2 h2 R (ValL2_ok ia ib ic iA iB) (ValL2_ok ia ib ic iB iA) D (lam_leaf ic).1 (lam_leaf ic).1 fd (lam_leaf ic).2 d0 ⟨(lam_leaf ic).1.le,(lam_leaf ic).1.le⟩
 · obtain⟨a,b,c,s,ia,ib,ic,is,hl⟩:=leafO_any u0 u1' u2 u3 u4 u5 u6 u7 g1 g2 g3 g4 h
   have R:=RightO_ok ia ib ic is
   have D:=DenO_ok ia ib ic is iA iB
   obtain⟨fd,d0⟩:=lam_den bA
   rcases k3 with rfl | rfl | rfl
   · obtain⟨e,f,p,t⟩:=oren_leaf bA bB ia is
     obtain⟨e',f',_,_⟩:=oren_leaf bB bA ia is
     exact back_core (n0:=2) (cm:=0) w hl q1 q2 h2 R (ValO0_ok ia ib ic is iA iB e) (ValO0_ok ia ib ic is iB iA e') D f f' fd p d0 (by rw [t]; exact ⟨f.le,f.le⟩)
   · obtain⟨e,f,p,t⟩:=oren_leaf bA bB ib is
     obtain⟨e',f',_,_⟩:=oren_leaf bB bA ib is
     exact back_core (n0:=2) (cm:=1) w hl q1 q2 h2 R (ValO1_ok ia ib ic is iA iB e) (ValO1_ok ia ib ic is iB iA e') D f f' fd p d0 (by rw [t]; exact ⟨f.le,f.le⟩)
   · obtain⟨e,f,p,t⟩:=oren_leaf bA bB ic is
     obtain⟨e',f',_,_⟩:=oren_leaf bB bA ic is
     exact back_core (n0:=2) (cm:=2) w hl q1 q2 h2 R (ValO2_ok ia ib ic is iA iB e) (ValO2_ok ia ib ic is iB iA e') D f f' fd p d0 (by rw [t]; exact ⟨f.le,f.le⟩)
 · obtain⟨a,n,ia,jn,hl⟩:=leafP_any u0 u1' u2 u3 u4 u5 u6 u7 g1 g2 h
   have R:=RightP_ok ia jn
   have D:=DenP_ok ia jn iA iB (look_dirs bA bB ia)
   obtain⟨fd,d0⟩:=den_leaf bA bB ia
   obtain⟨⟨f,f'⟩,p,m⟩:=pl_leaf bA bB ia jn
   have K:=kf_dirs bA bB ia
   have K':=kf_dirs bB bA ia
   rcases k3 with rfl | rfl | rfl
   · have v:=ValP0_of ia jn iA iB (ValP_all ia jn iA iB K 0)
     have v':=ValP0_of ia jn iB iA (ValP_all ia jn iB iA K' 0)
     rw [f.e] at v
     rw [f'.e] at v'
     exact back_core (n0:=3) (cm:=0) w hl q1 q2 h2 R v v' D f f' fd p d0 m
   · have v:=ValP1_of ia jn iA iB (ValP_all ia jn iA iB K 1)
     have v':=ValP1_of ia jn iB iA (ValP_all ia jn iB iA K' 1)
     rw [f.e] at v
     rw [f'.e] at v'
     exact back_core (n0:=3) (cm:=1) w hl q1 q2 h2 R v v' D f f' fd p d0 m
   · have v:=ValP2_of ia jn iA iB (ValP_all ia jn iA iB K 2)
     have v':=ValP2_of ia jn iB iA (ValP_all ia jn iB iA K' 2)
     rw [f.e] at v
     rw [f'.e] at v'
     exact back_core (n0:=3) (cm:=2) w hl q1 q2 h2 R v v' D f f' fd p d0 m
 · obtain⟨a,p,q,j,s,t,u,ia,ip,iq,ij,is,it,iu,hl⟩:=leafM_any u0 u1' u2 u3 u4 u5 u6 u7 g1 g2 g3 g4 g5 g6 g7 h
   have R:=RightM_ok ia ip iq ij is it iu
   have D:=DenM_ok ia ip iq ij is it iu iA iB (look_dirs bA bB ia)
   obtain⟨fd,d0⟩:=den_leaf bA bB ia
   have K:=kf_dirs bA bB ia
   have K':=kf_dirs bB bA ia
   rcases k3 with rfl | rfl | rfl
   · obtain⟨e,⟨f,f'⟩,pp,m⟩:=me_leaf bA bB ia ip is
     have e':=(me_leaf bB bA ia ip is).1
     have v:=ValM0_of ia ip iq ij is it iu iA iB (ValM0_all ia ip is iA iB K e)
     have v':=ValM0_of ia ip iq ij is it iu iB iA (ValM0_all ia ip is iB iA K' e')
     rw [f.e] at v
     rw [f'.e] at v'
     exact back_core (n0:=4) (cm:=0) w hl q1 q2 h2 R v v' D f f' fd pp d0 m
   · obtain⟨e,⟨f,f'⟩,pp,m⟩:=me_leaf bA bB ia iq it
     have e':=(me_leaf bB bA ia iq it).1
     have v:=ValM1_of ia ip iq ij is it iu iA iB (ValM1_all ia iq it iA iB K e)
     have v':=ValM1_of ia ip iq ij is it iu iB iA (ValM1_all ia iq it iB iA K' e')
     rw [f.e] at v
     rw [f'.e] at v'
     exact back_core (n0:=4) (cm:=1) w hl q1 q2 h2 R v v' D f f' fd pp d0 m
   · obtain⟨e,⟨f,f'⟩,pp,m⟩:=me_leaf bA bB ia ij iu
     have e':=(me_leaf bB bA ia ij iu).1
     have v:=ValM2_of ia ip iq ij is it iu iA iB (ValM2_all ia ij iu iA iB K e)
     have v':=ValM2_of ia ip iq ij is it iu iB iA (ValM2_all ia ij iu iB iA K' e')
     rw [f.e] at v
     rw [f'.e] at v'
     exact back_core (n0:=4) (cm:=2) w hl q1 q2 h2 R v v' D f f' fd pp d0 m
end
end Go.Proofs.YtmkgfflebfpcdaaGreat
