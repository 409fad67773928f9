/- What the claim stands on, part 27: OrV, QVu. -/
import Derived.Test.YtmkgfflebfpcdaaGreatPA23
import Derived.Test.YtmkgfflebfpcdaaGreatPA25
import Derived.Test.YtmkgfflebfpcdaaGreatPA16
import Derived.Test.YtmkgfflebfpcdaaGreatPA24
namespace Go.Proofs.YtmkgfflebfpcdaaGreat
section
open Go.RowKit
theorem moved_any (l g x:Nat) (w:World) (ll:l < 18446744073709551616) (lg:g < 18446744073709551616) (lx:x < 18446744073709551616) (rl:rightB l=true) (rg:rightB g=true) (rx:rightB x=true) :
   Calls Tryz.prog 126 #[.agg #[l,g],x] w (Rt (.float .f64 (minW (maxW x l) g)) w):=by
 obtain⟨m1',m2',_⟩:=max_facts x l lx ll rx rl
 exact moved_walk w (fun ts t w=>(run_less x l lx ll rx rl ts t w).2) (fun ts t w=>(run_less (maxW x l) g m1' lg m2' rg ts t w).1)
theorem unit_call {a:Res} (f:Fit a) (w:World) :
   Calls Tryz.prog 105 #[.agg #[(),(4607182418800017408:Nat)],.agg #[a.lo,a.hi]] w (Rt (.agg #[.float .f64 (clampR a).lo,.float .f64 (clampR a).hi]) w):=
 oclamped_walk w (Lib.hid fun w=>moved_any 0 u1 a.lo w (by decide) (by decide) f.lo (by decide) (by decide) f.rlo) (Lib.hid fun w=>moved_any 0 u1 a.hi w (by decide) (by decide) f.hi (by decide) (by decide) f.rhi)
theorem ocheck_ok {r s i o d:Res} (hr:In r ouI) (hs:In s ouI) (hi:In i ouI) (ho:In o ouI) (hd:In d oeI) (w:World) :
   Calls Tryz.prog 102 #[.agg #[r.lo,r.hi,s.lo,s.hi,i.lo,i.hi,o.lo,o.hi,d.lo,d.hi]] w (Rt (.int .i64 0) w):=
 ocheck_walk r.lo r.hi s.lo s.hi i.lo i.hi o.lo o.hi d.lo d.hi true true true true true false false false false false false false false false false w
   (Lib.hid (right_in hr.fit)) (Lib.hid (right_in hs.fit)) (Lib.hid (right_in hi.fit)) (Lib.hid (right_in ho.fit)) (Lib.hid (right_in hd.fit))
   (lt_in hr ou_fit) (gt_in hr ou_fit) (lt_in hs ou_fit) (gt_in hs ou_fit) (lt_in hi ou_fit) (gt_in hi ou_fit) (lt_in ho ou_fit) (gt_in ho ou_fit) (lt_in hd oe_fit) (gt_in hd oe_fit) (Lib.hid olimits_walk)
theorem pair_call {s:Res} (hs:In s ouI) (pb:Nat) (v:World) (hv:Has1 v (pb,#[true])) :
   Calls Tryz.prog 103 #[.pointer (some ⟨pb,0,none⟩),.agg #[s.lo,s.hi]] v (Rt (.tuple #[.agg #[.float .f64 (Or.a s).lo,.float .f64 (Or.a s).hi],.agg #[.float .f64 (Or.b s).lo,.float .f64 (Or.b s).hi]]) v):=by
 obtain⟨c1,c2,c3⟩:=Or.consts
 have P:=pair_in hs
 exact opair_walk v (Lib.hid hv) (Lib.hid (kcn (calc_num w2_fit pb))) (Lib.hid pi_any) (Lib.hid (kc2 (calc_div big_fit.1 w2_fit c1 pb))) (Lib.hid (kcn (calc_num w3_fit pb))) (Lib.hid (kc2 (calc_div w2_fit w3_fit c2 pb)))
   (Lib.hid (kc2 (calc_sub c1 c2 c3 pb))) (Lib.hid (kcn (calc_num u1_fit pb))) (Lib.hid (kc2 (calc_mul c3 hs.fit P.m.fit pb))) (Lib.hid (kc2 (calc_add big_fit.1 P.m.fit P.q.fit pb))) (Lib.hid (kc2 (calc_div u1_fit P.q.fit P.a.fit pb)))
   (Lib.hid (kc2 (calc_mul hs.fit P.a.fit P.b.fit pb)))
theorem steep_call {i o d:Res} (h:Dirs i o d) (g:0 < val (Or.s i o d).hi) (pb:Nat) (v:World) (hv:Has1 v (pb,#[true])) :
   Calls Tryz.prog 125 #[.pointer (some ⟨pb,0,none⟩),.agg #[.float .f64 (Or.s i o d).lo,.float .f64 (Or.s i o d).hi],.agg #[.float .f64 (Or.top i o).lo,.float .f64 (Or.top i o).hi]] v fun r w' =>
     r = .returned (.agg #[.float .f64 (Or.st i o d).lo,.float .f64 (Or.st i o d).hi])∧Put ⟨pb,0,none⟩ (.int .i64 (Or.st i o d).e) v w':=by
 have k:=slope_fits h
 have P:=pos_fit k.s.fit g
 have hd:=div_told P k.top.fit pb
 have hm:=fun ts t w=>(run_less (Or.s i o d).lo 0 k.s.fit.lo (by decide) k.s.fit.rlo (by decide) ts t w).2
 have hg:=geq_0 k.s.fit.lo k.s.fit.rlo
 have er:divR (posR (Or.s i o d)) (Or.top i o)=Or.r i o d:=rfl
 rw [er,pos_lo,pos_hi] at hd
 by_cases l:0≤val (Or.s i o d).lo
 · rw [decide_eq_true l] at hg
   have est:Or.st i o d=Or.r i o d:=by
     unfold Or.st
     rw [if_pos g,if_pos l]
     split <;> rfl
   rw [est]
   exact steep_pos v (Lib.hid hv) hm (Lib.hid hd) hg
 · rw [decide_eq_false l] at hg
   by_cases e:(Or.r i o d).e=0
   · have est:Or.st i o d=midR (Or.s i o d) (Or.r i o d):=by
       unfold Or.st
       rw [if_pos g,if_pos e,if_neg l]
     have fr:Fit (Or.r i o d):=quo_fit P k.top.fit e
     rw [est]
     rw [e] at hd
     have c:=steep_mid v (Lib.hid hv) hm (Lib.hid fun v hv=>kb_of hv (hd v hv)) hg (Lib.hid fun w=>hull_any (Or.s i o d).lo 0 (Or.r i o d).lo (Or.r i o d).hi w k.s.fit.lo (by decide) fr.lo fr.hi k.s.fit.rlo (by decide) fr.rlo fr.rhi)
     exact c.mono fun _ _ ⟨h1,h2⟩=>⟨h1,Put.of_below hv.pc h2⟩
   · have est:Or.st i o d=Or.r i o d:=by
       unfold Or.st
       rw [if_pos g,if_neg e]
     rw [est]
     exact steep_err v (Lib.hid hv) hm (Lib.hid hd) hg (by simpa using e)
theorem edge_call2 {i o d:Res} (h:Dirs i o d) (w:World) :
   Calls Tryz.prog 105 #[.agg #[(13830554455654793216:Nat),(4607182418800017408:Nat)],.agg #[.float .f64 (Or.st i o d).lo,.float .f64 (Or.st i o d).hi]] w (Rt (.agg #[.float .f64 (Or.slope i o d).lo,.float .f64 (Or.slope i o d).hi]) w):=by
 obtain⟨h1,h2,h3,h4⟩:=slope_words h
 show Calls _ _ _ _ (Rt (.agg #[.float .f64 (edgeR (Or.st i o d)).lo,.float .f64 (edgeR (Or.st i o d)).hi]) w)
 rw [edgeR_lo,edgeR_hi]
 exact oclamped_walk w (Lib.hid fun w=>moved_any m1 u1 _ w (by decide) (by decide) h1 (by decide) (by decide) h3) (Lib.hid fun w=>moved_any m1 u1 _ w (by decide) (by decide) h2 (by decide) (by decide) h4)
theorem slope_call {i o d:Res} (h:Dirs i o d) (pb:Nat) (v:World) (hv:Has1 v (pb,#[true])) :
   Calls Tryz.prog 104 #[.pointer (some ⟨pb,0,none⟩),.agg #[i.lo,i.hi],.agg #[o.lo,o.hi],.agg #[d.lo,d.hi]] v fun r w' =>
     r = .returned (.agg #[.float .f64 (Or.slope i o d).lo,.float .f64 (Or.slope i o d).hi])∧Put ⟨pb,0,none⟩ (.int .i64 (Or.st i o d).e) v w':=by
 have k:=slope_fits h
 have gt:=order_gt (Or.s i o d).hi 0 k.s.fit.hi (by decide) k.s.fit.rhi (by decide)
 rw [Or.v0] at gt
 have d1:=kc2 (calc_mul h.i.fit h.o.fit k.p.fit pb)
 have d2:=kc2 (calc_sub h.d.fit k.p.fit k.s.fit pb)
 by_cases g:0 < val (Or.s i o d).hi
 · rw [decide_eq_true g] at gt
   exact oslope_high v (Lib.hid hv) (Lib.hid d1) (Lib.hid d2) gt (Lib.hid (kc2 (calc_max h.i.fit h.o.fit k.top.fit pb))) (Lib.hid fun v hv=>steep_call h g pb v hv) (Lib.hid fun w=>edge_call2 h w)
 · rw [decide_eq_false g] at gt
   have est:Or.st i o d=Or.s i o d:=by
     unfold Or.st
     rw [if_neg g]
   have ee:(Or.st i o d).e=0:=by rw [est]; exact k.s.fit.e
   have c3:=fun w=>edge_call2 h w
   rw [est] at c3
   rw [ee]
   exact (oslope_low v (Lib.hid hv) (Lib.hid d1) (Lib.hid d2) gt (Lib.hid c3)).mono fun _ _ ⟨h1,h2⟩=>⟨h1,Put.of_below hv.pc h2⟩
theorem value8 {r s i o d:Res} (hr:In r ouI) (hs:In s ouI) (h:Dirs i o d) (he:(Or.st i o d).e=0) (w:World) :
   Calls Tryz.prog 85 #[.agg #[r.lo,r.hi],.agg #[s.lo,s.hi],.agg #[i.lo,i.hi],.agg #[o.lo,o.hi],.agg #[d.lo,d.hi]] w fun x w' =>
   x = .returned (.tuple #[.agg #[.float .f64 (Or.val r s (Or.slope i o d)).lo,.float .f64 (Or.val r s (Or.slope i o d)).hi],true])∧Below w.heap.size w w':=by
 have t:=slope_unit h he
 have V:=val_fits hr hs t
 have P:=pair_in hs
 have c:=fun pb v hv=>slope_call h pb v hv
 rw [he] at c
 exact oValue_ok w (Lib.hid fun w=>ocheck_ok hr hs h.i h.o h.d w) (Lib.hid fun pb v hv=>pair_call hs pb v hv) (Lib.hid c)
   (Lib.hid fun pb=>calc_mul P.b.fit t.fit V.n.fit pb) (Lib.hid fun pb=>calc_add P.a.fit V.n.fit V.k.fit pb) (Lib.hid fun pb=>calc_mul hr.fit V.k.fit V.l.fit pb) (Lib.hid fun w=>unit_call V.l.fit w)
end
section
open Go.RowKit
def boxS:Res:=⟨0,14118784831806504960,4895412794951729152⟩
def boxP:Res:=⟨0,4318952042648305664,4895412794951729152⟩
def boxM:Res:=⟨0,14118784831806504960,13542324079503081472⟩
theorem boxS_fit:Fit boxS:=.of (by decide +kernel)
theorem boxP_fit:Fit boxP:=.of (by decide +kernel)
theorem boxM_fit:Fit boxM:=.of (by decide +kernel)
theorem unit_box {A:V3} (fA:FitV A) (h:(normV 0 A).e=0) (hd:(divR boxS (normV 0 A)).e=0) {x y z:Nat} (i:InV (at3 x y z) A) (wx:In (oneR x) boxS) (wy:In (oneR y) boxS) (wz:In (oneR z) boxS) :
   Fit (unitN x y z)∧Fit (divR (oneR x) (unitN x y z))∧Fit (divR (oneR y) (unitN x y z))∧Fit (divR (oneR z) (unitN x y z)):=by
 obtain⟨fN,iN⟩:=normV_in h rfl i fA
 exact ⟨iN.fit,(div_in wx boxS_fit iN fN hd).fit,(div_in wy boxS_fit iN fN hd).fit,(div_in wz boxS_fit iN fN hd).fit⟩
theorem val_side {x:Nat} (rx:rightB x=true):0≤val (rung x)∧(val x=val (rung x)∨val x=-val (rung x)):=by
 obtain⟨_,_,_,_,p5⟩:=pos_facts (rung x) (right_rung x rx)
 rw [p5]
 refine ⟨by omega,?_⟩
 cases hs:sgnB x
 · exact Or.inl (val_pos hs)
 · exact Or.inr (val_negs hs)
theorem bigs:val 14118784831806504960=-val 4895412794951729152∧val 13542324079503081472=-val 4318952042648305664∧0 < val 4318952042648305664:=by decide +kernel
theorem in_S {x:Nat} (lx:x < 18446744073709551616) (rx:rightB x=true) (h:val (rung x)≤val 4895412794951729152):In (oneR x) boxS:=by
 obtain⟨s1,s2⟩:=val_side rx
 obtain⟨b1,b2,b3⟩:=bigs
 refine ⟨one_fit lx rx,?_,?_⟩
 · show val 14118784831806504960≤val x
   rw [b1]; omega
 · show val x≤val 4895412794951729152
   omega
theorem in_PM {x:Nat} (lx:x < 18446744073709551616) (rx:rightB x=true) (h:val (rung x)≤val 4895412794951729152) (g:val 4318952042648305664≤val (rung x)):In (oneR x) boxP∨In (oneR x) boxM:=by
 obtain⟨s1,s2⟩:=val_side rx
 obtain⟨b1,b2,b3⟩:=bigs
 rcases s2 with s | s
 · refine Or.inl ⟨one_fit lx rx,?_,?_⟩
   · show val 4318952042648305664≤val x
     omega
   · show val x≤val 4895412794951729152
     omega
 · refine Or.inr ⟨one_fit lx rx,?_,?_⟩
   · show val 14118784831806504960≤val x
     rw [b1]; omega
   · show val x≤val 13542324079503081472
     rw [b2]; omega
theorem most_val {x y z:Nat} (h1:rightB x=true) (h2:rightB y=true) (h3:rightB z=true):mostW x y z < 18446744073709551616∧rightB (mostW x y z)=true∧val (mostW x y z)=max (max (val (rung x)) (val (rung y))) (val (rung z)):=by
 obtain⟨p1,p2⟩:=rung_right x h1
 obtain⟨q1,q2⟩:=rung_right y h2
 obtain⟨s1,s2⟩:=rung_right z h3
 obtain⟨m1,m2,m3⟩:=max_facts _ _ p1 q1 p2 q2
 obtain⟨n1,n2,n3⟩:=max_facts _ _ m1 s1 m2 s2
 refine ⟨n1,n2,?_⟩
 show val (maxW (maxW (rung x) (rung y)) (rung z))=_
 rw [n3,m3]
theorem unit_fits (x y z:Nat) (lx:x < 18446744073709551616) (ly:y < 18446744073709551616) (lz:z < 18446744073709551616) (hU:hasU x y z=true) :
   Fit (unitN x y z)∧Fit (divR (oneR x) (unitN x y z))∧Fit (divR (oneR y) (unitN x y z))∧Fit (divR (oneR z) (unitN x y z)):=by
 unfold hasU leB at hU
 simp only [Bool.and_eq_true,decide_eq_true_eq] at hU
 obtain⟨⟨⟨h1,h2⟩,h3⟩,g1,g2⟩:=hU
 obtain⟨_,_,mv⟩:=most_val h1 h2 h3
 rw [mv] at g1 g2
 have wx:=in_S lx h1 (by omega)
 have wy:=in_S ly h2 (by omega)
 have wz:=in_S lz h3 (by omega)
 have big:val 4318952042648305664≤val (rung x)∨val 4318952042648305664≤val (rung y)∨val 4318952042648305664≤val (rung z):=by omega
 rcases big with g | g | g
 · rcases in_PM lx h1 (by omega) g with i | i
   · exact unit_box (A:=⟨boxP,boxS,boxS⟩) ⟨boxP_fit,boxS_fit,boxS_fit⟩ (by decide +kernel) (by decide +kernel) ⟨i,wy,wz⟩ wx wy wz
   · exact unit_box (A:=⟨boxM,boxS,boxS⟩) ⟨boxM_fit,boxS_fit,boxS_fit⟩ (by decide +kernel) (by decide +kernel) ⟨i,wy,wz⟩ wx wy wz
 · rcases in_PM ly h2 (by omega) g with i | i
   · exact unit_box (A:=⟨boxS,boxP,boxS⟩) ⟨boxS_fit,boxP_fit,boxS_fit⟩ (by decide +kernel) (by decide +kernel) ⟨wx,i,wz⟩ wx wy wz
   · exact unit_box (A:=⟨boxS,boxM,boxS⟩) ⟨boxS_fit,boxM_fit,boxS_fit⟩ (by decide +kernel) (by decide +kernel) ⟨wx,i,wz⟩ wx wy wz
 · rcases in_PM lz h3 (by omega) g with i | i
   · exact unit_box (A:=⟨boxS,boxS,boxP⟩) ⟨boxS_fit,boxS_fit,boxP_fit⟩ (by decide +kernel) (by decide +kernel) ⟨wx,wy,i⟩ wx wy wz
   · exact unit_box (A:=⟨boxS,boxS,boxM⟩) ⟨boxS_fit,boxS_fit,boxM_fit⟩ (by decide +kernel) (by decide +kernel) ⟨wx,wy,i⟩ wx wy wz
end
section
open Go.RowKit
theorem norm_parts {A:V3} (h:(normV 0 A).e=0) :
   (sqrR A.x).e=0∧(sqrR A.y).e=0∧(sqrR A.z).e=0∧(addR (sqrR A.x) (sqrR A.y)).e=0∧(addR (addR (sqrR A.x) (sqrR A.y)) (sqrR A.z)).e=0∧(sqrtR (addR (addR (sqrR A.x) (sqrR A.y)) (sqrR A.z))).e=0 ∧
     normV 0 A=sqrtR (addR (addR (sqrR A.x) (sqrR A.y)) (sqrR A.z)):=by
 obtain⟨h5,_,q6⟩:=st_none (show (stR (nrm5 0 A).e (nrm5 0 A)).e=0 from h)
 obtain⟨h4,_,q5⟩:=st_none (show (stA (nrm4 0 A).e (nrm3 0 A) (nrm4 0 A)).e=0 from h5)
 obtain⟨h3,_,q4⟩:=st_none (show (stQ (nrm3 0 A).e A.z).e=0 from h4)
 obtain⟨h2,_,q3⟩:=st_none (show (stA (nrm2 0 A).e (nrm1 0 A) (nrm2 0 A)).e=0 from h3)
 obtain⟨h1,_,q2⟩:=st_none (show (stQ (nrm1 0 A).e A.y).e=0 from h2)
 obtain⟨_,_,q1⟩:=st_none (show (stQ 0 A.x).e=0 from h1)
 have k1:nrm1 0 A=sqrR A.x:=q1
 have k2:nrm2 0 A=sqrR A.y:=q2
 have k3:nrm3 0 A=addR (nrm1 0 A) (nrm2 0 A):=q3
 have k4:nrm4 0 A=sqrR A.z:=q4
 have k5:nrm5 0 A=addR (nrm3 0 A) (nrm4 0 A):=q5
 have k6:normV 0 A=sqrtR (nrm5 0 A):=q6
 rw [k1,k2] at k3
 rw [k3,k4] at k5
 rw [k5] at k6
 rw [k1] at h1
 rw [k2] at h2
 rw [k3] at h3
 rw [k4] at h4
 rw [k5] at h5
 rw [k6] at h
 exact ⟨h1,h2,h4,h3,h5,h,k6⟩
theorem norm_squares {A:V3} (fA:FitV A) (h:(normV 0 A).e=0) {a b c a' b' c':Int} (ha:val (sqrR A.x).lo*SS≤a) (hb:val (sqrR A.y).lo*SS≤b) (hc:val (sqrR A.z).lo*SS≤c)
   (ha':a'≤val (sqrR A.x).hi*SS) (hb':b'≤val (sqrR A.y).hi*SS) (hc':c'≤val (sqrR A.z).hi*SS) :
   0≤val (normV 0 A).lo∧val (normV 0 A).lo*val (normV 0 A).lo≤a+b+c∧a'+b'+c'≤val (normV 0 A).hi*val (normV 0 A).hi:=by
 obtain⟨e1,e2,e3,e4,e5,e6,eN⟩:=norm_parts h
 have f1:=sqr_fit fA.x e1
 have f2:=sqr_fit fA.y e2
 have f3:=sqr_fit fA.z e3
 have f4:=add_fit f1 f2 e4
 have f5:=add_fit f4 f3 e5
 obtain⟨d4,u4⟩:=add_parts f1 f2 e4
 obtain⟨d5,u5⟩:=add_parts f4 f3 e5
 obtain⟨_,⟨n1,n2,_⟩,⟨_,n5,_⟩⟩:=sqrt_parts f5 e6
 obtain⟨_,_,d4,_⟩:=d4.ok
 obtain⟨_,_,u4,_⟩:=u4.ok
 obtain⟨_,_,d5,_⟩:=d5.ok
 obtain⟨_,_,u5,_⟩:=u5.ok
 rw [eN]
 refine ⟨n1,Int.le_trans n2 ?_,Int.le_trans ?_ n5⟩
 · have:=Int.mul_le_mul_of_nonneg_right (show val (addR (addR (sqrR A.x) (sqrR A.y)) (sqrR A.z)).lo≤val (sqrR A.x).lo+val (sqrR A.y).lo+val (sqrR A.z).lo by omega) ss_pos
   rw [Int.add_mul,Int.add_mul] at this
   omega
 · have:=Int.mul_le_mul_of_nonneg_right (show val (sqrR A.x).hi+val (sqrR A.y).hi+val (sqrR A.z).hi≤val (addR (addR (sqrR A.x) (sqrR A.y)) (sqrR A.z)).hi by omega) ss_pos
   rw [Int.add_mul,Int.add_mul] at this
   omega
theorem norm_wide {x y z:Nat} (lx:x < 18446744073709551616) (ly:y < 18446744073709551616) (lz:z < 18446744073709551616) (rx:rightB x=true) (ry:rightB y=true) (rz:rightB z=true)
   (fN:Fit (unitN x y z)) {j:Nat} {G:Int} (hG:G=((2 ^ j:Nat):Int)) (j1:600≤j) (j2:j≤1400) (g1:4503599627370496*G≤val (unitN x y z).hi) (g2:val (unitN x y z).hi < 9007199254740992*G) :
   val (unitN x y z).hi - val (unitN x y z).lo < 13*G:=by
 have h:(normV 0 (at3 x y z)).e=0:=fN.e
 obtain⟨e1,e2,e3,e4,e5,e6,eN⟩:=norm_parts h
 have eN':unitN x y z=sqrtR (addR (addR (sqrR (oneR x)) (sqrR (oneR y))) (sqrR (oneR z))):=eN
 have fx:=one_fit lx rx
 have fy:=one_fit ly ry
 have fz:=one_fit lz rz
 have e1:(sqrR (oneR x)).e=0:=e1
 have e2:(sqrR (oneR y)).e=0:=e2
 have e3:(sqrR (oneR z)).e=0:=e3
 have e4:(addR (sqrR (oneR x)) (sqrR (oneR y))).e=0:=e4
 have e5:(addR (addR (sqrR (oneR x)) (sqrR (oneR y))) (sqrR (oneR z))).e=0:=e5
 have e6:(sqrtR (addR (addR (sqrR (oneR x)) (sqrR (oneR y))) (sqrR (oneR z)))).e=0:=e6
 clear eN h
 obtain⟨dx,ux⟩:=sqr_one lx rx e1
 obtain⟨dy,uy⟩:=sqr_one ly ry e2
 obtain⟨dz,uz⟩:=sqr_one lz rz e3
 have f1:=sqr_fit fx e1
 have f2:=sqr_fit fy e2
 have f3:=sqr_fit fz e3
 generalize sqrR (oneR x)=q1 at *
 generalize sqrR (oneR y)=q2 at *
 generalize sqrR (oneR z)=q3 at *
 have f4:=add_fit f1 f2 e4
 have f5:=add_fit f4 f3 e5
 obtain⟨d4,u4⟩:=add_parts f1 f2 e4
 obtain⟨d5,u5⟩:=add_parts f4 f3 e5
 have fN':=fN
 rw [eN'] at g1 g2 fN' ⊢
 generalize addR q1 q2=s1 at *
 generalize addR s1 q3=s at *
 obtain⟨_,⟨n1,_,_⟩,⟨n4,n5,_⟩⟩:=sqrt_parts f5 e6
 have p0:0 < G:=by rw [hG]; exact Int.natCast_pos.2 (Nat.two_pow_pos j)
 have lN:=fN'.le
 obtain⟨r1,r2⟩:=root_gaps f5 e6 (by omega) (by omega) hG (by omega) g2 (by omega)
 -- the spacing of the squares
 obtain⟨k,hk⟩:∃ k:Nat,k+1074=53+2*j:=⟨53+2*j - 1074,by omega⟩
 obtain⟨E,hE⟩:∃ E:Int,E=((2 ^ k:Nat):Int):=⟨_,rfl⟩
 have ES:E*SS=9007199254740992*(G*G):=by
   have hn:2 ^ k*2 ^ sq=9007199254740992*(2 ^ j*2 ^ j):=by
     rw [show (9007199254740992:Nat)=2 ^ 53 by decide,←Nat.pow_add,←Nat.pow_add,←Nat.pow_add,sq_eq,hk]
     congr 1; omega
   rw [hE,hG]
   show ((2 ^ k:Nat):Int)*((2 ^ sq:Nat):Int)=_
   rw [←Int.natCast_mul,hn,Int.natCast_mul,Int.natCast_mul]
   rfl
 have E0:0 < E:=by rw [hE]; exact Int.natCast_pos.2 (Nat.two_pow_pos k)
 have S0:0 < SS:=Int.natCast_pos.2 (Nat.two_pow_pos sq)
 -- nothing is below 0
 have z1:0≤val q1.lo:=by
   have:=dx.ok.2.2.2 0 (by decide) right_0 (by rw [val_nil,Int.zero_mul]; exact self_nonneg _)
   rw [val_nil] at this; exact this
 have z2:0≤val q2.lo:=by
   have:=dy.ok.2.2.2 0 (by decide) right_0 (by rw [val_nil,Int.zero_mul]; exact self_nonneg _)
   rw [val_nil] at this; exact this
 have z3:0≤val q3.lo:=by
   have:=dz.ok.2.2.2 0 (by decide) right_0 (by rw [val_nil,Int.zero_mul]; exact self_nonneg _)
   rw [val_nil] at this; exact this
 have z4:0≤val s1.lo:=by
   have:=d4.ok.2.2.2 0 (by decide) right_0 (by rw [val_nil]; omega)
   rw [val_nil] at this; exact this
 have l1:=f1.le
 have l2:=f2.le
 have l3:=f3.le
 have l4:=f4.le
 have l5:=f5.le
 have o4:=u4.ok.2.2.1
 have o5:=u5.ok.2.2.1
 have z5:0≤val s.lo:=by
   have:=d5.ok.2.2.2 0 (by decide) right_0 (by rw [val_nil]; omega)
   rw [val_nil] at this; exact this
 -- the greatest sum is below 2^53 spacings
 have top:val s.hi < 9007199254740992*E:=by
   refine Int.lt_of_mul_lt_mul_right ?_ (Int.le_of_lt S0)
   refine Int.lt_of_le_of_lt n5 ?_
   rw [Int.mul_assoc,ES]
   have a1:val (sqrtR s).hi*val (sqrtR s).hi≤val (sqrtR s).hi*(9007199254740992*G):=Int.mul_le_mul_of_nonneg_left (by omega) n4
   have a2:val (sqrtR s).hi*(9007199254740992*G) < 9007199254740992*G*(9007199254740992*G):=Int.mul_lt_mul_of_pos_right g2 (by omega)
   have a3:9007199254740992*G*(9007199254740992*G)=9007199254740992*(9007199254740992*(G*G)):=by grind
   omega
 have k1:53≤k:=by omega
 have k2:k≤1899:=by omega
 have sp:0 < 2 ^ sq:=Nat.two_pow_pos sq
 have b1:=up_mul ux k1 k2 sp hE (by omega) (by omega)
 have b2:=up_mul uy k1 k2 sp hE (by omega) (by omega)
 have b3:=up_mul uz k1 k2 sp hE (by omega) (by omega)
 have b4:=up_mul u4 k1 k2 (by decide) hE (by omega) (by omega)
 have b5:=up_mul u5 k1 k2 (by decide) hE (by omega) (by omega)
 have c1:=down_mul dx k1 k2 sp hE z1 (by omega)
 have c2:=down_mul dy k1 k2 sp hE z2 (by omega)
 have c3:=down_mul dz k1 k2 sp hE z3 (by omega)
 have c4:=down_mul d4 k1 k2 (by decide) hE z4 (by omega)
 have c5:=down_mul d5 k1 k2 (by decide) hE z5 (by omega)
 have b1:val q1.hi*SS < val x*val x+E*SS:=b1
 have b2:val q2.hi*SS < val y*val y+E*SS:=b2
 have b3:val q3.hi*SS < val z*val z+E*SS:=b3
 have c1:val x*val x < val q1.lo*SS+E*SS:=c1
 have c2:val y*val y < val q2.lo*SS+E*SS:=c2
 have c3:val z*val z < val q3.lo*SS+E*SS:=c3
 have t1:val s.hi*SS≤(val q1.hi+val q2.hi+val q3.hi+2*E)*SS:=Int.mul_le_mul_of_nonneg_right (by omega) (by omega)
 have t2:(val q1.lo+val q2.lo+val q3.lo)*SS≤(val s.lo+2*E)*SS:=Int.mul_le_mul_of_nonneg_right (by omega) (by omega)
 rw [Int.add_mul,Int.add_mul,Int.add_mul,Int.mul_assoc] at t1
 rw [Int.add_mul,Int.add_mul,Int.add_mul,Int.mul_assoc] at t2
 have wide:val s.hi*SS < val s.lo*SS+90071992547409920*(G*G):=by omega
 have:=gap_roots (a:=val (sqrtR s).hi - G) (b:=val (sqrtR s).lo+G) p0 (by omega) (by omega) (by omega)
 omega
end
section
open Go.RowKit
theorem log_size {n t u:Nat} (h1:2 ^ t≤n) (h2:n < 2 ^ u) (ht:52≤t):∃ j:Nat,t≤j+52∧j+52 < u∧4503599627370496*2 ^ j≤n∧n < 9007199254740992*2 ^ j:=by
 have h0:n≠0:=by have:=Nat.two_pow_pos t; omega
 have l1:2 ^ n.log2≤n:=Nat.log2_self_le h0
 have l2:n < 2 ^ (n.log2+1):=Nat.lt_log2_self
 have a1:t < n.log2+1:=(Nat.pow_lt_pow_iff_right (by decide:1 < 2)).1 (by omega)
 have a2:n.log2 < u:=(Nat.pow_lt_pow_iff_right (by decide:1 < 2)).1 (by omega)
 obtain⟨j,hj⟩:∃ j,n.log2=j+52:=⟨n.log2 - 52,by omega⟩
 rw [hj] at l1 l2 a1 a2
 refine ⟨j,by omega,a2,?_,?_⟩
 · rw [Nat.pow_add] at l1; rw [Nat.mul_comm]; exact l1
 · rw [show j+52+1=j+53 by omega,Nat.pow_add] at l2; rw [Nat.mul_comm]; exact l2
theorem part_wide {dl dh D G lo hi T:Int} (hD:0 < D) (hG:0 < G) (h1:(dh - D)*lo < T) (h2:T < (dl+D)*hi) (_d0:0≤dl) (d1:dl≤4503599627370496*D) (w:hi - lo < 13*G) (g:4503599627370496*G≤hi) (l:lo≤hi):dh - dl < 16*D:=by
 rcases Int.lt_or_le (dh - dl) (16*D) with c | c
 · exact c
 · exfalso
   have a1:(dl+15*D)*lo≤(dh - D)*lo:=Int.mul_le_mul_of_nonneg_right (by omega) (by omega)
   have a2:(dl+D)*hi=(dl+D)*lo+(dl+D)*(hi - lo):=by grind
   have a3:(dl+15*D)*lo=(dl+D)*lo+14*(D*lo):=by grind
   have a4:(dl+D)*(hi - lo)≤(4503599627370497*D)*(hi - lo):=Int.mul_le_mul_of_nonneg_right (by omega) (by omega)
   have a5:(4503599627370497*D)*(hi - lo)≤(4503599627370497*D)*(13*G):=Int.mul_le_mul_of_nonneg_left (by omega) (by omega)
   have a6:(4503599627370497*D)*(13*G)=58546795155816461*(D*G):=by grind
   have a7:D*(4503599627370483*G)≤D*lo:=Int.mul_le_mul_of_nonneg_left (by omega) (by omega)
   have a8:D*(4503599627370483*G)=4503599627370483*(D*G):=by grind
   have a9:0 < D*G:=Int.mul_pos hD hG
   generalize D*G=u at *
   generalize D*lo=v at *
   omega
def DD:Int:=((2 ^ 1022:Nat):Int)
theorem dd_pos:0 < DD:=Int.natCast_pos.2 (Nat.two_pow_pos 1022)
theorem ss_pow {k:Nat} (hk:k+52=sq):SS=4503599627370496*((2 ^ k:Nat):Int):=by
 have h:(2 ^ sq:Nat)=4503599627370496*2 ^ k:=by
   rw [←hk,Nat.pow_add,Nat.mul_comm]
 show ((2 ^ sq:Nat):Int)=_
 rw [h,Int.natCast_mul]; rfl
theorem ss_dd:SS=4503599627370496*DD:=by
 have h:=ss_pow (k:=1022) (by rw [sq_eq])
 unfold DD
 exact h
theorem ones:val u1=SS∧val m1=-SS∧val 4611686018427387904=2*SS∧val 13835058055282163712=-(2*SS):=by decide +kernel
structure PartOf (x:Nat) (n p:Res) (m M:Int):Prop where
 low:0≤m
 le:m≤M
 top:M≤SS
 under:∃ a:Int,(a=val x∨a=-val x)∧0≤a∧m*val n.hi≤a*SS∧(M=SS∨a*SS≤M*val n.lo)
 wide:M - m≤16*DD
 side:(0≤val x∧val p.lo=m∧val p.hi=M)∨(val x≤0∧val p.lo=-M∧val p.hi=-m)
 nil:val x=0→M=0
theorem bound_ends {r:Res} (f:Fit r) (h1:val r.lo≤SS) (h2:-SS≤val r.hi):val (boundR r).lo=max (val r.lo) (-SS)∧val (boundR r).hi=min (val r.hi) SS:=by
 obtain⟨x1,x2,x3⟩:=max_facts r.lo m1 f.lo (by decide) f.rlo (by decide)
 obtain⟨y1,y2,y3⟩:=min_facts r.hi u1 f.hi (by decide) f.rhi (by decide)
 obtain⟨o1,o2,_,_⟩:=ones
 have l:=f.le
 have s0:0≤SS:=ss_pos
 have hb:bothB r.lo r.hi m1 u1=true:=by
   unfold bothB leB
   refine decide_eq_true ?_
   rw [x3,y3,o1,o2]; omega
 have e1:(boundR r).lo=maxW r.lo m1:=by
   show (if bothB r.lo r.hi m1 u1 then maxW r.lo m1 else 0)=_
   rw [if_pos hb]
 have e2:(boundR r).hi=minW r.hi u1:=by
   show (if bothB r.lo r.hi m1 u1 then minW r.hi u1 else 0)=_
   rw [if_pos hb]
 rw [e1,e2,x3,y3,o1,o2]
 exact ⟨rfl,rfl⟩
theorem part_of {x:Nat} {n:Res} (rx:rightB x=true) (fn:Fit n) (hn:0 < val n.lo) (fd:Fit (divR (oneR x) n)) (h1:val x≤val n.hi) (h2:-val x≤val n.hi) {G:Int} (hG:0 < G) (w:val n.hi - val n.lo < 13*G) (g:4503599627370496*G≤val n.hi) :
   ∃ m M:Int,PartOf x n (unitPart x n) m M:=by
 obtain⟨s,t,s0,t0,es,et,d,u⟩:=div_parts rx fn hn fd.e
 obtain⟨o1,o2,o3,o4⟩:=ones
 have l:=fn.le
 have S0:0≤SS:=ss_pos
 have hS:=ss_dd
 have hD:=dd_pos
 have lR:=fd.le
 have b1022:(53:Nat)≤1022∧(1022:Nat)≤1899:=by decide
 have dle:=d.ok.2.2.1
 have ule:=u.ok.2.2.1
 have dbest:=d.ok.2.2.2
 have ubest:=u.ok.2.2.2
 have ug:=fun h1 h2=>up_gap b1022.1 b1022.2 t0 u h1 h2
 have dg:=fun h1 h2=>down_gap b1022.1 b1022.2 s0 d h1 h2
 have eD:((2 ^ 1022:Nat):Int)=DD:=rfl
 rw [eD] at ug dg
 have sp:(0:Int) < s:=Int.natCast_pos.2 s0
 have tp:(0:Int) < t:=Int.natCast_pos.2 t0
 have be:=fun h1 h2=>bound_ends fd h1 h2
 have ep:unitPart x n=boundR (divR (oneR x) n):=rfl
 rw [ep]
 generalize boundR (divR (oneR x) n)=p at *
 generalize divR (oneR x) n=q at *
 clear d u fd ep
 rcases Int.le_total 0 (val x) with c | c
 · rw [if_pos c] at es et
   rw [es] at dle dbest dg sp
   rw [et] at ule ubest ug tp
   have xs:0≤val x*SS:=Int.mul_nonneg c S0
   have q0:0≤val q.lo:=by
     have:=dbest 0 (by decide) right_0 (by rw [val_nil,Int.zero_mul]; exact xs)
     rw [val_nil] at this; exact this
   have q1:val q.lo≤SS:=by
     refine Int.le_of_mul_le_mul_right (Int.le_trans dle ?_) sp
     rw [Int.mul_comm SS]; exact Int.mul_le_mul_of_nonneg_right h1 S0
   have q2:val q.hi≤2*SS:=by
     rw [←o3]
     refine ubest _ (by decide) (by decide) ?_
     rw [o3]
     have k1:val x*SS≤(2*val n.lo)*SS:=Int.mul_le_mul_of_nonneg_right (by omega) S0
     have k2:2*SS*val n.lo=(2*val n.lo)*SS:=by grind
     omega
   have wide:=part_wide hD hG (ug (by omega) (by omega)) (dg (by omega) (by omega)) q0 (by omega) w g l
   obtain⟨p1,p2⟩:=be q1 (by omega)
   have nil:val x=0→val q.hi≤0:=fun hx=>by
     have:=ubest 0 (by decide) right_0 (by rw [hx,val_nil,Int.zero_mul,Int.zero_mul]; exact Int.le_refl _)
     rw [val_nil] at this; exact this
   refine ⟨val q.lo,min (val q.hi) SS,⟨q0,by omega,by omega,⟨val x,Or.inl rfl,c,dle,?_⟩,by omega,Or.inl ⟨c,by omega,p2⟩,fun hx=>by have:=nil hx; omega⟩⟩
   rcases Int.le_total SS (val q.hi) with g | g
   · exact Or.inl (by omega)
   · right
     rw [Int.min_eq_left g]; exact ule
 · have es':(s:Int)=val n.lo∨val x=0:=by
     rcases Int.lt_or_le (val x) 0 with k | k
     · rw [if_neg (by omega)] at es; exact Or.inl es
     · exact Or.inr (by omega)
   rcases es' with es' | hx
   · rcases Int.lt_or_le (val x) 0 with k | k
     · rw [if_neg (by omega)] at es et
       rw [es] at dle dbest dg sp
       rw [et] at ule ubest ug tp
       have xs:val x*SS≤0:=Int.mul_nonpos_of_nonpos_of_nonneg c S0
       have q0:val q.hi≤0:=by
         have:=ubest 0 (by decide) right_0 (by rw [val_nil,Int.zero_mul]; exact xs)
         rw [val_nil] at this; exact this
       have nx:-val x*SS=-(val x*SS):=Int.neg_mul _ _
       have q1:-SS≤val q.hi:=by
         have k1:-val x*SS≤val n.hi*SS:=Int.mul_le_mul_of_nonneg_right h2 S0
         have k2:-val q.hi*val n.hi≤SS*val n.hi:=by
           rw [Int.neg_mul,Int.mul_comm SS]; omega
         have:=Int.le_of_mul_le_mul_right k2 tp
         omega
       have q2:-(2*SS)≤val q.lo:=by
         rw [←o4]
         refine dbest _ (by decide) (by decide) ?_
         rw [o4]
         have k1:-val x*SS≤(2*val n.lo)*SS:=Int.mul_le_mul_of_nonneg_right (by omega) S0
         have k2:-(2*SS)*val n.lo=-((2*val n.lo)*SS):=by grind
         omega
       have g1:=ug (by omega) (by omega)
       have g2:=dg (by omega) (by omega)
       have k1:(-val q.lo - DD)*val n.lo < -(val x*SS):=by
         have:(-val q.lo - DD)*val n.lo=-((val q.lo+DD)*val n.lo):=by grind
         omega
       have k2:-(val x*SS) < (-val q.hi+DD)*val n.hi:=by
         have:(-val q.hi+DD)*val n.hi=-((val q.hi - DD)*val n.hi):=by grind
         omega
       have wide:=part_wide hD hG k1 k2 (by omega) (by omega) w g l
       obtain⟨p1,p2⟩:=be (by omega) q1
       have m1:-val q.hi*val n.hi=-(val q.hi*val n.hi):=Int.neg_mul _ _
       have m2:-val q.lo*val n.lo=-(val q.lo*val n.lo):=Int.neg_mul _ _
       refine ⟨-val q.hi,min (-val q.lo) SS,⟨by omega,by omega,by omega,⟨-val x,Or.inr rfl,by omega,by omega,?_⟩,by omega,Or.inr ⟨c,by omega,by omega⟩,fun hx=>by omega⟩⟩
       rcases Int.le_total SS (-val q.lo) with g | g
       · exact Or.inl (by omega)
       · right
         rw [Int.min_eq_left g]; omega
     · have hx:val x=0:=by omega
       have q0:0≤val q.lo:=by
         have:=dbest 0 (by decide) right_0 (by rw [val_nil,hx,Int.zero_mul,Int.zero_mul]; exact Int.le_refl _)
         rw [val_nil] at this; exact this
       have q1:val q.hi≤0:=by
         have:=ubest 0 (by decide) right_0 (by rw [val_nil,hx,Int.zero_mul,Int.zero_mul]; exact Int.le_refl _)
         rw [val_nil] at this; exact this
       obtain⟨p1,p2⟩:=be (by omega) (by omega)
       exact ⟨0,0,⟨by omega,by omega,by omega,⟨0,Or.inl hx.symm,by omega,by omega,Or.inr (by omega)⟩,by omega,Or.inl ⟨by omega,by omega,by omega⟩,fun _=>rfl⟩⟩
   · have q0:0≤val q.lo:=by
       have:=dbest 0 (by decide) right_0 (by rw [val_nil,hx,Int.zero_mul,Int.zero_mul]; exact Int.le_refl _)
       rw [val_nil] at this; exact this
     have q1:val q.hi≤0:=by
       have:=ubest 0 (by decide) right_0 (by rw [val_nil,hx,Int.zero_mul,Int.zero_mul]; exact Int.le_refl _)
       rw [val_nil] at this; exact this
     obtain⟨p1,p2⟩:=be (by omega) (by omega)
     exact ⟨0,0,⟨by omega,by omega,by omega,⟨0,Or.inl hx.symm,by omega,by omega,Or.inr (by omega)⟩,by omega,Or.inl ⟨by omega,by omega,by omega⟩,fun _=>rfl⟩⟩
end
section
open Go.RowKit
def bigV:V3:=⟨boxS,boxS,boxS⟩
def oneV:V3:=⟨⟨0,13830554455654793216,4607182418800017408⟩,⟨0,13830554455654793216,4607182418800017408⟩,⟨0,13830554455654793216,4607182418800017408⟩⟩
theorem big_facts:(normV 0 bigV).e=0∧val (normV 0 bigV).hi < val 4906671693080363008∧(normV 0 oneV).e=0∧0 < val 4318952042648305664:=by decide +kernel
theorem pow_low:val 4318952042648305664=((2 ^ 1010:Nat):Int):=by decide +kernel
theorem pow_high:val 4906671693080363008≤((2 ^ 1160:Nat):Int):=by decide +kernel
theorem mul_self_le {a b:Int} (h0:0≤a) (h:a≤b):a*a≤b*b:=Int.mul_le_mul h h h0 (by omega)
theorem le_of_self {a b:Int} (hb:0≤b) (h:a*a≤b*b):a≤b:=by
 rcases Int.lt_or_le b a with g | g
 · have k1:b*b≤b*a:=Int.mul_le_mul_of_nonneg_left (by omega) hb
   have k2:b*a < a*a:=Int.mul_lt_mul_of_pos_right g (by omega)
   omega
 · exact g
theorem abs_le {a b:Int} (hb:0≤b) (h:a*a≤b*b):a≤b ∧ -a≤b:=⟨le_of_self hb h,le_of_self hb (by rw [Int.neg_mul_neg]; exact h)⟩
theorem unit_norm (x y z:Nat) (lx:x < 18446744073709551616) (ly:y < 18446744073709551616) (lz:z < 18446744073709551616) (hU:hasU x y z=true) :
   0 < val (unitN x y z).lo∧val (unitN x y z).lo*val (unitN x y z).lo≤val x*val x+val y*val y+val z*val z∧val x*val x+val y*val y+val z*val z≤val (unitN x y z).hi*val (unitN x y z).hi ∧
     ∃ G:Int,0 < G∧val (unitN x y z).hi - val (unitN x y z).lo < 13*G∧4503599627370496*G≤val (unitN x y z).hi:=by
 obtain⟨fN,_⟩:=unit_fits x y z lx ly lz hU
 unfold hasU leB at hU
 simp only [Bool.and_eq_true,decide_eq_true_eq] at hU
 obtain⟨⟨⟨h1,h2⟩,h3⟩,g1,g2⟩:=hU
 obtain⟨_,_,mv⟩:=most_val h1 h2 h3
 rw [mv] at g1 g2
 obtain⟨b1,b2,_,b4⟩:=big_facts
 have wx:=in_S lx h1 (by omega)
 have wy:=in_S ly h2 (by omega)
 have wz:=in_S lz h3 (by omega)
 obtain⟨_,iN⟩:=normV_in (a:=at3 x y z) b1 rfl ⟨wx,wy,wz⟩ (show FitV bigV from ⟨boxS_fit,boxS_fit,boxS_fit⟩)
 have iN:val (unitN x y z).hi≤val (normV 0 bigV).hi:=iN.hi
 have eN:(normV 0 (at3 x y z)).e=0:=fN.e
 obtain⟨e1,e2,e3,_⟩:=norm_parts eN
 have dx:=sqr_one lx h1 e1
 have dy:=sqr_one ly h2 e2
 have dz:=sqr_one lz h3 e3
 have sq1:=norm_squares (A:=at3 x y z) ⟨one_fit lx h1,one_fit ly h2,one_fit lz h3⟩ eN dx.1.ok.2.2.1 dy.1.ok.2.2.1 dz.1.ok.2.2.1 dx.2.ok.2.2.1 dy.2.ok.2.2.1 dz.2.ok.2.2.1
 obtain⟨n0,n1,n2⟩:=sq1
 have n0:0≤val (unitN x y z).lo:=n0
 have n1:val (unitN x y z).lo*val (unitN x y z).lo≤val x*val x+val y*val y+val z*val z:=n1
 have n2:val x*val x+val y*val y+val z*val z≤val (unitN x y z).hi*val (unitN x y z).hi:=n2
 have lN:=fN.le
 -- no less than the greatest of all
 have s1:=self_nonneg (val x)
 have s2:=self_nonneg (val y)
 have s3:=self_nonneg (val z)
 have a1:=abs_le (a:=val x) (b:=val (unitN x y z).hi) (by omega) (by omega)
 have a2:=abs_le (a:=val y) (b:=val (unitN x y z).hi) (by omega) (by omega)
 have a3:=abs_le (a:=val z) (b:=val (unitN x y z).hi) (by omega) (by omega)
 obtain⟨r1,t1⟩:=val_side h1
 obtain⟨r2,t2⟩:=val_side h2
 obtain⟨r3,t3⟩:=val_side h3
 have low:val 4318952042648305664≤val (unitN x y z).hi:=by omega
 have high:val (unitN x y z).hi < val 4906671693080363008:=by omega
 obtain⟨n,hn⟩:∃ n:Nat,val (unitN x y z).hi=(n:Int):=⟨(val (unitN x y z).hi).toNat,by omega⟩
 have p1:=pow_low
 have p2:=pow_high
 have q1:2 ^ 1010≤n:=Int.ofNat_le.1 (by rw [←hn]; exact p1 ▸ low)
 have q2:n < 2 ^ 1160:=Int.ofNat_lt.1 (by rw [←hn]; exact Int.lt_of_lt_of_le high p2)
 obtain⟨j,j1,j2,j3,j4⟩:=log_size q1 q2 (by decide)
 obtain⟨G,hG⟩:∃ G:Int,G=((2 ^ j:Nat):Int):=⟨_,rfl⟩
 have k1:4503599627370496*G≤val (unitN x y z).hi:=by
   rw [hn,hG]; exact Int.ofNat_le.2 j3
 have k2:val (unitN x y z).hi < 9007199254740992*G:=by
   rw [hn,hG]; exact Int.ofNat_lt.2 j4
 have G0:0 < G:=by rw [hG]; exact Int.natCast_pos.2 (Nat.two_pow_pos j)
 have wide:=norm_wide lx ly lz h1 h2 h3 fN hG (by omega) (by omega) k1 k2
 exact ⟨by omega,n1,n2,G,G0,wide,k1⟩
theorem one_part {x:Nat} {n p:Res} {m M:Int} (h:PartOf x n p m M) (fp:Fit p):In p ⟨0,13830554455654793216,4607182418800017408⟩:=by
 obtain⟨o1,o2,_,_⟩:=ones
 have h1:=h.low
 have h2:=h.le
 have h3:=h.top
 refine ⟨fp,?_,?_⟩
 · show val m1≤val p.lo
   rw [o2]; rcases h.side with ⟨_,a,b⟩ | ⟨_,a,b⟩ <;> omega
 · show val p.hi≤val u1
   rw [o1]; rcases h.side with ⟨_,a,b⟩ | ⟨_,a,b⟩ <;> omega
theorem part_sqr {x:Nat} {n p:Res} {m M:Int} (h:PartOf x n p m M) (fp:Fit p) (he:(sqrR p).e=0):val (sqrR p).lo*SS≤m*m∧M*M≤val (sqrR p).hi*SS:=by
 obtain⟨a,A,e1,e2,_,_,d,u⟩:=sqr_parts fp he
 have h1:=h.low
 have h2:=h.le
 have k:a=m∧A=M:=by
   rcases h.side with ⟨_,g1,g2⟩ | ⟨_,g1,g2⟩
   · rw [g1,g2] at e1 e2
     rw [if_pos h1] at e1
     omega
   · rw [g1,g2] at e1 e2
     refine ⟨?_,by omega⟩
     rw [e1]; split <;> (try split) <;> omega
 rw [k.1] at d
 rw [k.2] at u
 exact ⟨d.ok.2.2.1,u.ok.2.2.1⟩
theorem low_sum {m1 m2 m3 a1 a2 a3 H S:Int} (p1:0≤m1) (p2:0≤m2) (p3:0≤m3) (hH:0 < H) (h1:m1*H≤a1*S) (h2:m2*H≤a2*S) (h3:m3*H≤a3*S) (hR:a1*a1+a2*a2+a3*a3≤H*H):m1*m1+m2*m2+m3*m3≤S*S:=by
 have k1:=mul_self_le (Int.mul_nonneg p1 (Int.le_of_lt hH)) h1
 have k2:=mul_self_le (Int.mul_nonneg p2 (Int.le_of_lt hH)) h2
 have k3:=mul_self_le (Int.mul_nonneg p3 (Int.le_of_lt hH)) h3
 have hh:0 < H*H:=Int.mul_pos hH hH
 refine Int.le_of_mul_le_mul_right ?_ hh
 have g1:(m1*m1+m2*m2+m3*m3)*(H*H)=m1*H*(m1*H)+m2*H*(m2*H)+m3*H*(m3*H):=by grind
 have g2:a1*S*(a1*S)+a2*S*(a2*S)+a3*S*(a3*S)=(a1*a1+a2*a2+a3*a3)*(S*S):=by grind
 have g3:=Int.mul_le_mul_of_nonneg_right hR (self_nonneg S)
 have g4:H*H*(S*S)=S*S*(H*H):=by grind
 omega
theorem high_sum {m1 m2 m3 a1 a2 a3 L S:Int} (hS:0≤S) (n1:0≤a1) (n2:0≤a2) (n3:0≤a3) (hL:0 < L) (h1:m1=S∨a1*S≤m1*L) (h2:m2=S∨a2*S≤m2*L) (h3:m3=S∨a3*S≤m3*L) (hR:L*L≤a1*a1+a2*a2+a3*a3):S*S≤m1*m1+m2*m2+m3*m3:=by
 have s1:=self_nonneg m1
 have s2:=self_nonneg m2
 have s3:=self_nonneg m3
 rcases h1 with rfl | h1
 · omega
 rcases h2 with rfl | h2
 · omega
 rcases h3 with rfl | h3
 · omega
 have k1:=mul_self_le (Int.mul_nonneg n1 hS) h1
 have k2:=mul_self_le (Int.mul_nonneg n2 hS) h2
 have k3:=mul_self_le (Int.mul_nonneg n3 hS) h3
 have hh:0 < L*L:=Int.mul_pos hL hL
 refine Int.le_of_mul_le_mul_right ?_ hh
 have g1:(m1*m1+m2*m2+m3*m3)*(L*L)=m1*L*(m1*L)+m2*L*(m2*L)+m3*L*(m3*L):=by grind
 have g2:a1*S*(a1*S)+a2*S*(a2*S)+a3*S*(a3*S)=(a1*a1+a2*a2+a3*a3)*(S*S):=by grind
 have g3:=Int.mul_le_mul_of_nonneg_right hR (self_nonneg S)
 have g4:L*L*(S*S)=S*S*(L*L):=by grind
 omega
theorem unit_all (x y z:Nat) (lx:x < 18446744073709551616) (ly:y < 18446744073709551616) (lz:z < 18446744073709551616) (hU:hasU x y z=true) :
   FitV (unitV x y z)∧(normV 0 (unitV x y z)).e=0∧val (normV 0 (unitV x y z)).lo≤SS∧SS≤val (normV 0 (unitV x y z)).hi ∧
     (∃ m M,PartOf x (unitN x y z) (unitV x y z).x m M)∧(∃ m M,PartOf y (unitN x y z) (unitV x y z).y m M)∧(∃ m M,PartOf z (unitN x y z) (unitV x y z).z m M):=by
 obtain⟨n0,n1,n2,G,G0,w,g⟩:=unit_norm x y z lx ly lz hU
 obtain⟨fN,f1,f2,f3⟩:=unit_fits x y z lx ly lz hU
 unfold hasU leB at hU
 simp only [Bool.and_eq_true,decide_eq_true_eq] at hU
 obtain⟨⟨⟨h1,h2⟩,h3⟩,_,_⟩:=hU
 have lN:=fN.le
 have s1:=self_nonneg (val x)
 have s2:=self_nonneg (val y)
 have s3:=self_nonneg (val z)
 have a1:=abs_le (a:=val x) (b:=val (unitN x y z).hi) (by omega) (by omega)
 have a2:=abs_le (a:=val y) (b:=val (unitN x y z).hi) (by omega) (by omega)
 have a3:=abs_le (a:=val z) (b:=val (unitN x y z).hi) (by omega) (by omega)
 obtain⟨mx,Mx,px⟩:=part_of h1 fN n0 f1 a1.1 a1.2 G0 w g
 obtain⟨my,My,py⟩:=part_of h2 fN n0 f2 a2.1 a2.2 G0 w g
 obtain⟨mz,Mz,pz⟩:=part_of h3 fN n0 f3 a3.1 a3.2 G0 w g
 have bx:=(bound_facts f1).1
 have bY:=(bound_facts f2).1
 have bz:=(bound_facts f3).1
 have hV:unitV x y z=⟨unitPart x (unitN x y z),unitPart y (unitN x y z),unitPart z (unitN x y z)⟩:=rfl
 have fV:FitV (unitV x y z):=⟨bx,bY,bz⟩
 have i1:InV (unitV x y z) oneV:=⟨one_part px bx,one_part py bY,one_part pz bz⟩
 have fO:FitV oneV:=⟨.of (by decide +kernel),.of (by decide +kernel),.of (by decide +kernel)⟩
 obtain⟨_,_,b3,_⟩:=big_facts
 obtain⟨_,iO⟩:=normV_in (a:=unitV x y z) b3 rfl i1 fO
 have eV:(normV 0 (unitV x y z)).e=0:=iO.fit.e
 obtain⟨e1,e2,e3,_⟩:=norm_parts eV
 have qx:=part_sqr px bx e1
 have qy:=part_sqr py bY e2
 have qz:=part_sqr pz bz e3
 obtain⟨_,k1,k2⟩:=norm_squares fV eV qx.1 qy.1 qz.1 qx.2 qy.2 qz.2
 obtain⟨cx,vx,cx0,ux,tx⟩:=px.under
 obtain⟨cy,vy,cy0,uy,ty⟩:=py.under
 obtain⟨cz,vz,cz0,uz,tz⟩:=pz.under
 have rx:cx*cx=val x*val x:=by rcases vx with e | e <;> rw [e]; rw [Int.neg_mul_neg]
 have ry:cy*cy=val y*val y:=by rcases vy with e | e <;> rw [e]; rw [Int.neg_mul_neg]
 have rz:cz*cz=val z*val z:=by rcases vz with e | e <;> rw [e]; rw [Int.neg_mul_neg]
 have lo:=low_sum px.low py.low pz.low (by omega) ux uy uz (by rw [rx,ry,rz]; exact n2)
 have hi:=high_sum ss_pos cx0 cy0 cz0 n0 tx ty tz (by rw [rx,ry,rz]; exact n1)
 have top:0≤val (normV 0 (unitV x y z)).hi:=by
   have:=iO.fit.le
   have k3:=norm_squares fV eV qx.1 qy.1 qz.1 qx.2 qy.2 qz.2
   omega
 exact ⟨fV,eV,le_of_self ss_pos (by omega),le_of_self top (by omega),⟨mx,Mx,px⟩,⟨my,My,py⟩,⟨mz,Mz,pz⟩⟩
end
end Go.Proofs.YtmkgfflebfpcdaaGreat
