/- What the claim stands on, part 31: QVu, MiS, MiM. -/
import Derived.Test.YtnaomilkgfkegaaGreatWA17
import Derived.Test.YtnaomilkgfkegaaGreatWA24
import Derived.Test.YtnaomilkgfkegaaGreatWA25
import Derived.Test.YtnaomilkgfkegaaGreatWA26
namespace Go.Proofs.YtnaomilkgfkegaaGreat
section
open Go.RowKit
def boxS:Res:=⟨0,14118784831806504960,4895412794951729152⟩
def boxP:Res:=⟨0,4318952042648305664,4895412794951729152⟩
def boxM:Res:=⟨0,14118784831806504960,13542324079503081472⟩
theorem boxS_fit:Fit boxS:=.of (by decide +kernel)
theorem boxP_fit:Fit boxP:=.of (by decide +kernel)
theorem boxM_fit:Fit boxM:=.of (by decide +kernel)
theorem unit_box {A:V3} (fA:FitV A) (h:(normV 0 A).e=0) (hd:(divR boxS (normV 0 A)).e=0) {x y z:Nat} (i:InV (at3 x y z) A) (wx:In (oneR x) boxS) (wy:In (oneR y) boxS) (wz:In (oneR z) boxS) :
   Fit (unitN x y z)∧Fit (divR (oneR x) (unitN x y z))∧Fit (divR (oneR y) (unitN x y z))∧Fit (divR (oneR z) (unitN x y z)):=by
 obtain⟨fN,iN⟩:=normV_in h rfl i fA
 exact ⟨iN.fit,(div_in wx boxS_fit iN fN hd).fit,(div_in wy boxS_fit iN fN hd).fit,(div_in wz boxS_fit iN fN hd).fit⟩
theorem val_side {x:Nat} (rx:rightB x=true):0≤val (rung x)∧(val x=val (rung x)∨val x=-val (rung x)):=by
 obtain⟨_,_,_,_,p5⟩:=pos_facts (rung x) (right_rung x rx)
 rw [p5]
 refine ⟨by omega,?_⟩
 cases hs:sgnB x
 · exact Or.inl (val_pos hs)
 · exact Or.inr (val_negs hs)
theorem bigs:val 14118784831806504960=-val 4895412794951729152∧val 13542324079503081472=-val 4318952042648305664∧0 < val 4318952042648305664:=by decide +kernel
theorem in_S {x:Nat} (lx:x < 18446744073709551616) (rx:rightB x=true) (h:val (rung x)≤val 4895412794951729152):In (oneR x) boxS:=by
 obtain⟨s1,s2⟩:=val_side rx
 obtain⟨b1,b2,b3⟩:=bigs
 refine ⟨one_fit lx rx,?_,?_⟩
 · show val 14118784831806504960≤val x
   rw [b1]; omega
 · show val x≤val 4895412794951729152
   omega
theorem in_PM {x:Nat} (lx:x < 18446744073709551616) (rx:rightB x=true) (h:val (rung x)≤val 4895412794951729152) (g:val 4318952042648305664≤val (rung x)):In (oneR x) boxP∨In (oneR x) boxM:=by
 obtain⟨s1,s2⟩:=val_side rx
 obtain⟨b1,b2,b3⟩:=bigs
 rcases s2 with s | s
 · refine Or.inl ⟨one_fit lx rx,?_,?_⟩
   · show val 4318952042648305664≤val x
     omega
   · show val x≤val 4895412794951729152
     omega
 · refine Or.inr ⟨one_fit lx rx,?_,?_⟩
   · show val 14118784831806504960≤val x
     rw [b1]; omega
   · show val x≤val 13542324079503081472
     rw [b2]; omega
theorem most_val {x y z:Nat} (h1:rightB x=true) (h2:rightB y=true) (h3:rightB z=true):mostW x y z < 18446744073709551616∧rightB (mostW x y z)=true∧val (mostW x y z)=max (max (val (rung x)) (val (rung y))) (val (rung z)):=by
 obtain⟨p1,p2⟩:=rung_right x h1
 obtain⟨q1,q2⟩:=rung_right y h2
 obtain⟨s1,s2⟩:=rung_right z h3
 obtain⟨m1,m2,m3⟩:=max_facts _ _ p1 q1 p2 q2
 obtain⟨n1,n2,n3⟩:=max_facts _ _ m1 s1 m2 s2
 refine ⟨n1,n2,?_⟩
 show val (maxW (maxW (rung x) (rung y)) (rung z))=_
 rw [n3,m3]
theorem unit_fits (x y z:Nat) (lx:x < 18446744073709551616) (ly:y < 18446744073709551616) (lz:z < 18446744073709551616) (hU:hasU x y z=true) :
   Fit (unitN x y z)∧Fit (divR (oneR x) (unitN x y z))∧Fit (divR (oneR y) (unitN x y z))∧Fit (divR (oneR z) (unitN x y z)):=by
 unfold hasU leB at hU
 simp only [Bool.and_eq_true,decide_eq_true_eq] at hU
 obtain⟨⟨⟨h1,h2⟩,h3⟩,g1,g2⟩:=hU
 obtain⟨_,_,mv⟩:=most_val h1 h2 h3
 rw [mv] at g1 g2
 have wx:=in_S lx h1 (by omega)
 have wy:=in_S ly h2 (by omega)
 have wz:=in_S lz h3 (by omega)
 have big:val 4318952042648305664≤val (rung x)∨val 4318952042648305664≤val (rung y)∨val 4318952042648305664≤val (rung z):=by omega
 rcases big with g | g | g
 · rcases in_PM lx h1 (by omega) g with i | i
   · exact unit_box (A:=⟨boxP,boxS,boxS⟩) ⟨boxP_fit,boxS_fit,boxS_fit⟩ (by decide +kernel) (by decide +kernel) ⟨i,wy,wz⟩ wx wy wz
   · exact unit_box (A:=⟨boxM,boxS,boxS⟩) ⟨boxM_fit,boxS_fit,boxS_fit⟩ (by decide +kernel) (by decide +kernel) ⟨i,wy,wz⟩ wx wy wz
 · rcases in_PM ly h2 (by omega) g with i | i
   · exact unit_box (A:=⟨boxS,boxP,boxS⟩) ⟨boxS_fit,boxP_fit,boxS_fit⟩ (by decide +kernel) (by decide +kernel) ⟨wx,i,wz⟩ wx wy wz
   · exact unit_box (A:=⟨boxS,boxM,boxS⟩) ⟨boxS_fit,boxM_fit,boxS_fit⟩ (by decide +kernel) (by decide +kernel) ⟨wx,i,wz⟩ wx wy wz
 · rcases in_PM lz h3 (by omega) g with i | i
   · exact unit_box (A:=⟨boxS,boxS,boxP⟩) ⟨boxS_fit,boxS_fit,boxP_fit⟩ (by decide +kernel) (by decide +kernel) ⟨wx,wy,i⟩ wx wy wz
   · exact unit_box (A:=⟨boxS,boxS,boxM⟩) ⟨boxS_fit,boxS_fit,boxM_fit⟩ (by decide +kernel) (by decide +kernel) ⟨wx,wy,i⟩ wx wy wz
end
section
open Go.RowKit
theorem norm_parts {A:V3} (h:(normV 0 A).e=0) :
   (sqrR A.x).e=0∧(sqrR A.y).e=0∧(sqrR A.z).e=0∧(addR (sqrR A.x) (sqrR A.y)).e=0∧(addR (addR (sqrR A.x) (sqrR A.y)) (sqrR A.z)).e=0∧(sqrtR (addR (addR (sqrR A.x) (sqrR A.y)) (sqrR A.z))).e=0 ∧
     normV 0 A=sqrtR (addR (addR (sqrR A.x) (sqrR A.y)) (sqrR A.z)):=by
 obtain⟨h5,_,q6⟩:=st_none (show (stR (nrm5 0 A).e (nrm5 0 A)).e=0 from h)
 obtain⟨h4,_,q5⟩:=st_none (show (stA (nrm4 0 A).e (nrm3 0 A) (nrm4 0 A)).e=0 from h5)
 obtain⟨h3,_,q4⟩:=st_none (show (stQ (nrm3 0 A).e A.z).e=0 from h4)
 obtain⟨h2,_,q3⟩:=st_none (show (stA (nrm2 0 A).e (nrm1 0 A) (nrm2 0 A)).e=0 from h3)
 obtain⟨h1,_,q2⟩:=st_none (show (stQ (nrm1 0 A).e A.y).e=0 from h2)
 obtain⟨_,_,q1⟩:=st_none (show (stQ 0 A.x).e=0 from h1)
 have k1:nrm1 0 A=sqrR A.x:=q1
 have k2:nrm2 0 A=sqrR A.y:=q2
 have k3:nrm3 0 A=addR (nrm1 0 A) (nrm2 0 A):=q3
 have k4:nrm4 0 A=sqrR A.z:=q4
 have k5:nrm5 0 A=addR (nrm3 0 A) (nrm4 0 A):=q5
 have k6:normV 0 A=sqrtR (nrm5 0 A):=q6
 rw [k1,k2] at k3
 rw [k3,k4] at k5
 rw [k5] at k6
 rw [k1] at h1
 rw [k2] at h2
 rw [k3] at h3
 rw [k4] at h4
 rw [k5] at h5
 rw [k6] at h
 exact ⟨h1,h2,h4,h3,h5,h,k6⟩
theorem norm_squares {A:V3} (fA:FitV A) (h:(normV 0 A).e=0) {a b c a' b' c':Int} (ha:val (sqrR A.x).lo*SS≤a) (hb:val (sqrR A.y).lo*SS≤b) (hc:val (sqrR A.z).lo*SS≤c)
   (ha':a'≤val (sqrR A.x).hi*SS) (hb':b'≤val (sqrR A.y).hi*SS) (hc':c'≤val (sqrR A.z).hi*SS) :
   0≤val (normV 0 A).lo∧val (normV 0 A).lo*val (normV 0 A).lo≤a+b+c∧a'+b'+c'≤val (normV 0 A).hi*val (normV 0 A).hi:=by
 obtain⟨e1,e2,e3,e4,e5,e6,eN⟩:=norm_parts h
 have f1:=sqr_fit fA.x e1
 have f2:=sqr_fit fA.y e2
 have f3:=sqr_fit fA.z e3
 have f4:=add_fit f1 f2 e4
 have f5:=add_fit f4 f3 e5
 obtain⟨d4,u4⟩:=add_parts f1 f2 e4
 obtain⟨d5,u5⟩:=add_parts f4 f3 e5
 obtain⟨_,⟨n1,n2,_⟩,⟨_,n5,_⟩⟩:=sqrt_parts f5 e6
 obtain⟨_,_,d4,_⟩:=d4.ok
 obtain⟨_,_,u4,_⟩:=u4.ok
 obtain⟨_,_,d5,_⟩:=d5.ok
 obtain⟨_,_,u5,_⟩:=u5.ok
 rw [eN]
 refine ⟨n1,Int.le_trans n2 ?_,Int.le_trans ?_ n5⟩
 · have:=Int.mul_le_mul_of_nonneg_right (show val (addR (addR (sqrR A.x) (sqrR A.y)) (sqrR A.z)).lo≤val (sqrR A.x).lo+val (sqrR A.y).lo+val (sqrR A.z).lo by omega) ss_pos
   rw [Int.add_mul,Int.add_mul] at this
   omega
 · have:=Int.mul_le_mul_of_nonneg_right (show val (sqrR A.x).hi+val (sqrR A.y).hi+val (sqrR A.z).hi≤val (addR (addR (sqrR A.x) (sqrR A.y)) (sqrR A.z)).hi by omega) ss_pos
   rw [Int.add_mul,Int.add_mul] at this
   omega
theorem norm_wide {x y z:Nat} (lx:x < 18446744073709551616) (ly:y < 18446744073709551616) (lz:z < 18446744073709551616) (rx:rightB x=true) (ry:rightB y=true) (rz:rightB z=true)
   (fN:Fit (unitN x y z)) {j:Nat} {G:Int} (hG:G=((2 ^ j:Nat):Int)) (j1:600≤j) (j2:j≤1400) (g1:4503599627370496*G≤val (unitN x y z).hi) (g2:val (unitN x y z).hi < 9007199254740992*G) :
   val (unitN x y z).hi - val (unitN x y z).lo < 13*G:=by
 have h:(normV 0 (at3 x y z)).e=0:=fN.e
 obtain⟨e1,e2,e3,e4,e5,e6,eN⟩:=norm_parts h
 have eN':unitN x y z=sqrtR (addR (addR (sqrR (oneR x)) (sqrR (oneR y))) (sqrR (oneR z))):=eN
 have fx:=one_fit lx rx
 have fy:=one_fit ly ry
 have fz:=one_fit lz rz
 have e1:(sqrR (oneR x)).e=0:=e1
 have e2:(sqrR (oneR y)).e=0:=e2
 have e3:(sqrR (oneR z)).e=0:=e3
 have e4:(addR (sqrR (oneR x)) (sqrR (oneR y))).e=0:=e4
 have e5:(addR (addR (sqrR (oneR x)) (sqrR (oneR y))) (sqrR (oneR z))).e=0:=e5
 have e6:(sqrtR (addR (addR (sqrR (oneR x)) (sqrR (oneR y))) (sqrR (oneR z)))).e=0:=e6
 clear eN h
 obtain⟨dx,ux⟩:=sqr_one lx rx e1
 obtain⟨dy,uy⟩:=sqr_one ly ry e2
 obtain⟨dz,uz⟩:=sqr_one lz rz e3
 have f1:=sqr_fit fx e1
 have f2:=sqr_fit fy e2
 have f3:=sqr_fit fz e3
 generalize sqrR (oneR x)=q1 at *
 generalize sqrR (oneR y)=q2 at *
 generalize sqrR (oneR z)=q3 at *
 have f4:=add_fit f1 f2 e4
 have f5:=add_fit f4 f3 e5
 obtain⟨d4,u4⟩:=add_parts f1 f2 e4
 obtain⟨d5,u5⟩:=add_parts f4 f3 e5
 have fN':=fN
 rw [eN'] at g1 g2 fN' ⊢
 generalize addR q1 q2=s1 at *
 generalize addR s1 q3=s at *
 obtain⟨_,⟨n1,_,_⟩,⟨n4,n5,_⟩⟩:=sqrt_parts f5 e6
 have p0:0 < G:=by rw [hG]; exact Int.natCast_pos.2 (Nat.two_pow_pos j)
 have lN:=fN'.le
 obtain⟨r1,r2⟩:=root_gaps f5 e6 (by omega) (by omega) hG (by omega) g2 (by omega)
 -- the spacing of the squares
 obtain⟨k,hk⟩:∃ k:Nat,k+1074=53+2*j:=⟨53+2*j - 1074,by omega⟩
 obtain⟨E,hE⟩:∃ E:Int,E=((2 ^ k:Nat):Int):=⟨_,rfl⟩
 have ES:E*SS=9007199254740992*(G*G):=by
   have hn:2 ^ k*2 ^ sq=9007199254740992*(2 ^ j*2 ^ j):=by
     rw [show (9007199254740992:Nat)=2 ^ 53 by decide,←Nat.pow_add,←Nat.pow_add,←Nat.pow_add,sq_eq,hk]
     congr 1; omega
   rw [hE,hG]
   show ((2 ^ k:Nat):Int)*((2 ^ sq:Nat):Int)=_
   rw [←Int.natCast_mul,hn,Int.natCast_mul,Int.natCast_mul]
   rfl
 have E0:0 < E:=by rw [hE]; exact Int.natCast_pos.2 (Nat.two_pow_pos k)
 have S0:0 < SS:=Int.natCast_pos.2 (Nat.two_pow_pos sq)
 -- nothing is below 0
 have z1:0≤val q1.lo:=by
   have:=dx.ok.2.2.2 0 (by decide) right_0 (by rw [val_nil,Int.zero_mul]; exact self_nonneg _)
   rw [val_nil] at this; exact this
 have z2:0≤val q2.lo:=by
   have:=dy.ok.2.2.2 0 (by decide) right_0 (by rw [val_nil,Int.zero_mul]; exact self_nonneg _)
   rw [val_nil] at this; exact this
 have z3:0≤val q3.lo:=by
   have:=dz.ok.2.2.2 0 (by decide) right_0 (by rw [val_nil,Int.zero_mul]; exact self_nonneg _)
   rw [val_nil] at this; exact this
 have z4:0≤val s1.lo:=by
   have:=d4.ok.2.2.2 0 (by decide) right_0 (by rw [val_nil]; omega)
   rw [val_nil] at this; exact this
 have l1:=f1.le
 have l2:=f2.le
 have l3:=f3.le
 have l4:=f4.le
 have l5:=f5.le
 have o4:=u4.ok.2.2.1
 have o5:=u5.ok.2.2.1
 have z5:0≤val s.lo:=by
   have:=d5.ok.2.2.2 0 (by decide) right_0 (by rw [val_nil]; omega)
   rw [val_nil] at this; exact this
 -- the greatest sum is below 2^53 spacings
 have top:val s.hi < 9007199254740992*E:=by
   refine Int.lt_of_mul_lt_mul_right ?_ (Int.le_of_lt S0)
   refine Int.lt_of_le_of_lt n5 ?_
   rw [Int.mul_assoc,ES]
   have a1:val (sqrtR s).hi*val (sqrtR s).hi≤val (sqrtR s).hi*(9007199254740992*G):=Int.mul_le_mul_of_nonneg_left (by omega) n4
   have a2:val (sqrtR s).hi*(9007199254740992*G) < 9007199254740992*G*(9007199254740992*G):=Int.mul_lt_mul_of_pos_right g2 (by omega)
   have a3:9007199254740992*G*(9007199254740992*G)=9007199254740992*(9007199254740992*(G*G)):=by grind
   omega
 have k1:53≤k:=by omega
 have k2:k≤1899:=by omega
 have sp:0 < 2 ^ sq:=Nat.two_pow_pos sq
 have b1:=up_mul ux k1 k2 sp hE (by omega) (by omega)
 have b2:=up_mul uy k1 k2 sp hE (by omega) (by omega)
 have b3:=up_mul uz k1 k2 sp hE (by omega) (by omega)
 have b4:=up_mul u4 k1 k2 (by decide) hE (by omega) (by omega)
 have b5:=up_mul u5 k1 k2 (by decide) hE (by omega) (by omega)
 have c1:=down_mul dx k1 k2 sp hE z1 (by omega)
 have c2:=down_mul dy k1 k2 sp hE z2 (by omega)
 have c3:=down_mul dz k1 k2 sp hE z3 (by omega)
 have c4:=down_mul d4 k1 k2 (by decide) hE z4 (by omega)
 have c5:=down_mul d5 k1 k2 (by decide) hE z5 (by omega)
 have b1:val q1.hi*SS < val x*val x+E*SS:=b1
 have b2:val q2.hi*SS < val y*val y+E*SS:=b2
 have b3:val q3.hi*SS < val z*val z+E*SS:=b3
 have c1:val x*val x < val q1.lo*SS+E*SS:=c1
 have c2:val y*val y < val q2.lo*SS+E*SS:=c2
 have c3:val z*val z < val q3.lo*SS+E*SS:=c3
 have t1:val s.hi*SS≤(val q1.hi+val q2.hi+val q3.hi+2*E)*SS:=Int.mul_le_mul_of_nonneg_right (by omega) (by omega)
 have t2:(val q1.lo+val q2.lo+val q3.lo)*SS≤(val s.lo+2*E)*SS:=Int.mul_le_mul_of_nonneg_right (by omega) (by omega)
 rw [Int.add_mul,Int.add_mul,Int.add_mul,Int.mul_assoc] at t1
 rw [Int.add_mul,Int.add_mul,Int.add_mul,Int.mul_assoc] at t2
 have wide:val s.hi*SS < val s.lo*SS+90071992547409920*(G*G):=by omega
 have:=gap_roots (a:=val (sqrtR s).hi - G) (b:=val (sqrtR s).lo+G) p0 (by omega) (by omega) (by omega)
 omega
end
section
open Go.RowKit
theorem log_size {n t u:Nat} (h1:2 ^ t≤n) (h2:n < 2 ^ u) (ht:52≤t):∃ j:Nat,t≤j+52∧j+52 < u∧4503599627370496*2 ^ j≤n∧n < 9007199254740992*2 ^ j:=by
 have h0:n≠0:=by have:=Nat.two_pow_pos t; omega
 have l1:2 ^ n.log2≤n:=Nat.log2_self_le h0
 have l2:n < 2 ^ (n.log2+1):=Nat.lt_log2_self
 have a1:t < n.log2+1:=(Nat.pow_lt_pow_iff_right (by decide:1 < 2)).1 (by omega)
 have a2:n.log2 < u:=(Nat.pow_lt_pow_iff_right (by decide:1 < 2)).1 (by omega)
 obtain⟨j,hj⟩:∃ j,n.log2=j+52:=⟨n.log2 - 52,by omega⟩
 rw [hj] at l1 l2 a1 a2
 refine ⟨j,by omega,a2,?_,?_⟩
 · rw [Nat.pow_add] at l1; rw [Nat.mul_comm]; exact l1
 · rw [show j+52+1=j+53 by omega,Nat.pow_add] at l2; rw [Nat.mul_comm]; exact l2
theorem part_wide {dl dh D G lo hi T:Int} (hD:0 < D) (hG:0 < G) (h1:(dh - D)*lo < T) (h2:T < (dl+D)*hi) (_d0:0≤dl) (d1:dl≤4503599627370496*D) (w:hi - lo < 13*G) (g:4503599627370496*G≤hi) (l:lo≤hi):dh - dl < 16*D:=by
 rcases Int.lt_or_le (dh - dl) (16*D) with c | c
 · exact c
 · exfalso
   have a1:(dl+15*D)*lo≤(dh - D)*lo:=Int.mul_le_mul_of_nonneg_right (by omega) (by omega)
   have a2:(dl+D)*hi=(dl+D)*lo+(dl+D)*(hi - lo):=by grind
   have a3:(dl+15*D)*lo=(dl+D)*lo+14*(D*lo):=by grind
   have a4:(dl+D)*(hi - lo)≤(4503599627370497*D)*(hi - lo):=Int.mul_le_mul_of_nonneg_right (by omega) (by omega)
   have a5:(4503599627370497*D)*(hi - lo)≤(4503599627370497*D)*(13*G):=Int.mul_le_mul_of_nonneg_left (by omega) (by omega)
   have a6:(4503599627370497*D)*(13*G)=58546795155816461*(D*G):=by grind
   have a7:D*(4503599627370483*G)≤D*lo:=Int.mul_le_mul_of_nonneg_left (by omega) (by omega)
   have a8:D*(4503599627370483*G)=4503599627370483*(D*G):=by grind
   have a9:0 < D*G:=Int.mul_pos hD hG
   generalize D*G=u at *
   generalize D*lo=v at *
   omega
def DD:Int:=((2 ^ 1022:Nat):Int)
theorem dd_pos:0 < DD:=Int.natCast_pos.2 (Nat.two_pow_pos 1022)
theorem ss_pow {k:Nat} (hk:k+52=sq):SS=4503599627370496*((2 ^ k:Nat):Int):=by
 have h:(2 ^ sq:Nat)=4503599627370496*2 ^ k:=by
   rw [←hk,Nat.pow_add,Nat.mul_comm]
 show ((2 ^ sq:Nat):Int)=_
 rw [h,Int.natCast_mul]; rfl
theorem ss_dd:SS=4503599627370496*DD:=by
 have h:=ss_pow (k:=1022) (by rw [sq_eq])
 unfold DD
 exact h
theorem ones:val u1=SS∧val m1=-SS∧val 4611686018427387904=2*SS∧val 13835058055282163712=-(2*SS):=by decide +kernel
structure PartOf (x:Nat) (n p:Res) (m M:Int):Prop where
 low:0≤m
 le:m≤M
 top:M≤SS
 under:∃ a:Int,(a=val x∨a=-val x)∧0≤a∧m*val n.hi≤a*SS∧(M=SS∨a*SS≤M*val n.lo)
 wide:M - m≤16*DD
 side:(0≤val x∧val p.lo=m∧val p.hi=M)∨(val x≤0∧val p.lo=-M∧val p.hi=-m)
 nil:val x=0→M=0
theorem bound_ends {r:Res} (f:Fit r) (h1:val r.lo≤SS) (h2:-SS≤val r.hi):val (boundR r).lo=max (val r.lo) (-SS)∧val (boundR r).hi=min (val r.hi) SS:=by
 obtain⟨x1,x2,x3⟩:=max_facts r.lo m1 f.lo (by decide) f.rlo (by decide)
 obtain⟨y1,y2,y3⟩:=min_facts r.hi u1 f.hi (by decide) f.rhi (by decide)
 obtain⟨o1,o2,_,_⟩:=ones
 have l:=f.le
 have s0:0≤SS:=ss_pos
 have hb:bothB r.lo r.hi m1 u1=true:=by
   unfold bothB leB
   refine decide_eq_true ?_
   rw [x3,y3,o1,o2]; omega
 have e1:(boundR r).lo=maxW r.lo m1:=by
   show (if bothB r.lo r.hi m1 u1 then maxW r.lo m1 else 0)=_
   rw [if_pos hb]
 have e2:(boundR r).hi=minW r.hi u1:=by
   show (if bothB r.lo r.hi m1 u1 then minW r.hi u1 else 0)=_
   rw [if_pos hb]
 rw [e1,e2,x3,y3,o1,o2]
 exact ⟨rfl,rfl⟩
theorem part_of {x:Nat} {n:Res} (rx:rightB x=true) (fn:Fit n) (hn:0 < val n.lo) (fd:Fit (divR (oneR x) n)) (h1:val x≤val n.hi) (h2:-val x≤val n.hi) {G:Int} (hG:0 < G) (w:val n.hi - val n.lo < 13*G) (g:4503599627370496*G≤val n.hi) :
   ∃ m M:Int,PartOf x n (unitPart x n) m M:=by
 obtain⟨s,t,s0,t0,es,et,d,u⟩:=div_parts rx fn hn fd.e
 obtain⟨o1,o2,o3,o4⟩:=ones
 have l:=fn.le
 have S0:0≤SS:=ss_pos
 have hS:=ss_dd
 have hD:=dd_pos
 have lR:=fd.le
 have b1022:(53:Nat)≤1022∧(1022:Nat)≤1899:=by decide
 have dle:=d.ok.2.2.1
 have ule:=u.ok.2.2.1
 have dbest:=d.ok.2.2.2
 have ubest:=u.ok.2.2.2
 have ug:=fun h1 h2=>up_gap b1022.1 b1022.2 t0 u h1 h2
 have dg:=fun h1 h2=>down_gap b1022.1 b1022.2 s0 d h1 h2
 have eD:((2 ^ 1022:Nat):Int)=DD:=rfl
 rw [eD] at ug dg
 have sp:(0:Int) < s:=Int.natCast_pos.2 s0
 have tp:(0:Int) < t:=Int.natCast_pos.2 t0
 have be:=fun h1 h2=>bound_ends fd h1 h2
 have ep:unitPart x n=boundR (divR (oneR x) n):=rfl
 rw [ep]
 generalize boundR (divR (oneR x) n)=p at *
 generalize divR (oneR x) n=q at *
 clear d u fd ep
 rcases Int.le_total 0 (val x) with c | c
 · rw [if_pos c] at es et
   rw [es] at dle dbest dg sp
   rw [et] at ule ubest ug tp
   have xs:0≤val x*SS:=Int.mul_nonneg c S0
   have q0:0≤val q.lo:=by
     have:=dbest 0 (by decide) right_0 (by rw [val_nil,Int.zero_mul]; exact xs)
     rw [val_nil] at this; exact this
   have q1:val q.lo≤SS:=by
     refine Int.le_of_mul_le_mul_right (Int.le_trans dle ?_) sp
     rw [Int.mul_comm SS]; exact Int.mul_le_mul_of_nonneg_right h1 S0
   have q2:val q.hi≤2*SS:=by
     rw [←o3]
     refine ubest _ (by decide) (by decide) ?_
     rw [o3]
     have k1:val x*SS≤(2*val n.lo)*SS:=Int.mul_le_mul_of_nonneg_right (by omega) S0
     have k2:2*SS*val n.lo=(2*val n.lo)*SS:=by grind
     omega
   have wide:=part_wide hD hG (ug (by omega) (by omega)) (dg (by omega) (by omega)) q0 (by omega) w g l
   obtain⟨p1,p2⟩:=be q1 (by omega)
   have nil:val x=0→val q.hi≤0:=fun hx=>by
     have:=ubest 0 (by decide) right_0 (by rw [hx,val_nil,Int.zero_mul,Int.zero_mul]; exact Int.le_refl _)
     rw [val_nil] at this; exact this
   refine ⟨val q.lo,min (val q.hi) SS,⟨q0,by omega,by omega,⟨val x,Or.inl rfl,c,dle,?_⟩,by omega,Or.inl ⟨c,by omega,p2⟩,fun hx=>by have:=nil hx; omega⟩⟩
   rcases Int.le_total SS (val q.hi) with g | g
   · exact Or.inl (by omega)
   · right
     rw [Int.min_eq_left g]; exact ule
 · have es':(s:Int)=val n.lo∨val x=0:=by
     rcases Int.lt_or_le (val x) 0 with k | k
     · rw [if_neg (by omega)] at es; exact Or.inl es
     · exact Or.inr (by omega)
   rcases es' with es' | hx
   · rcases Int.lt_or_le (val x) 0 with k | k
     · rw [if_neg (by omega)] at es et
       rw [es] at dle dbest dg sp
       rw [et] at ule ubest ug tp
       have xs:val x*SS≤0:=Int.mul_nonpos_of_nonpos_of_nonneg c S0
       have q0:val q.hi≤0:=by
         have:=ubest 0 (by decide) right_0 (by rw [val_nil,Int.zero_mul]; exact xs)
         rw [val_nil] at this; exact this
       have nx:-val x*SS=-(val x*SS):=Int.neg_mul _ _
       have q1:-SS≤val q.hi:=by
         have k1:-val x*SS≤val n.hi*SS:=Int.mul_le_mul_of_nonneg_right h2 S0
         have k2:-val q.hi*val n.hi≤SS*val n.hi:=by
           rw [Int.neg_mul,Int.mul_comm SS]; omega
         have:=Int.le_of_mul_le_mul_right k2 tp
         omega
       have q2:-(2*SS)≤val q.lo:=by
         rw [←o4]
         refine dbest _ (by decide) (by decide) ?_
         rw [o4]
         have k1:-val x*SS≤(2*val n.lo)*SS:=Int.mul_le_mul_of_nonneg_right (by omega) S0
         have k2:-(2*SS)*val n.lo=-((2*val n.lo)*SS):=by grind
         omega
       have g1:=ug (by omega) (by omega)
       have g2:=dg (by omega) (by omega)
       have k1:(-val q.lo - DD)*val n.lo < -(val x*SS):=by
         have:(-val q.lo - DD)*val n.lo=-((val q.lo+DD)*val n.lo):=by grind
         omega
       have k2:-(val x*SS) < (-val q.hi+DD)*val n.hi:=by
         have:(-val q.hi+DD)*val n.hi=-((val q.hi - DD)*val n.hi):=by grind
         omega
       have wide:=part_wide hD hG k1 k2 (by omega) (by omega) w g l
       obtain⟨p1,p2⟩:=be (by omega) q1
       have m1:-val q.hi*val n.hi=-(val q.hi*val n.hi):=Int.neg_mul _ _
       have m2:-val q.lo*val n.lo=-(val q.lo*val n.lo):=Int.neg_mul _ _
       refine ⟨-val q.hi,min (-val q.lo) SS,⟨by omega,by omega,by omega,⟨-val x,Or.inr rfl,by omega,by omega,?_⟩,by omega,Or.inr ⟨c,by omega,by omega⟩,fun hx=>by omega⟩⟩
       rcases Int.le_total SS (-val q.lo) with g | g
       · exact Or.inl (by omega)
       · right
         rw [Int.min_eq_left g]; omega
     · have hx:val x=0:=by omega
       have q0:0≤val q.lo:=by
         have:=dbest 0 (by decide) right_0 (by rw [val_nil,hx,Int.zero_mul,Int.zero_mul]; exact Int.le_refl _)
         rw [val_nil] at this; exact this
       have q1:val q.hi≤0:=by
         have:=ubest 0 (by decide) right_0 (by rw [val_nil,hx,Int.zero_mul,Int.zero_mul]; exact Int.le_refl _)
         rw [val_nil] at this; exact this
       obtain⟨p1,p2⟩:=be (by omega) (by omega)
       exact ⟨0,0,⟨by omega,by omega,by omega,⟨0,Or.inl hx.symm,by omega,by omega,Or.inr (by omega)⟩,by omega,Or.inl ⟨by omega,by omega,by omega⟩,fun _=>rfl⟩⟩
   · have q0:0≤val q.lo:=by
       have:=dbest 0 (by decide) right_0 (by rw [val_nil,hx,Int.zero_mul,Int.zero_mul]; exact Int.le_refl _)
       rw [val_nil] at this; exact this
     have q1:val q.hi≤0:=by
       have:=ubest 0 (by decide) right_0 (by rw [val_nil,hx,Int.zero_mul,Int.zero_mul]; exact Int.le_refl _)
       rw [val_nil] at this; exact this
     obtain⟨p1,p2⟩:=be (by omega) (by omega)
     exact ⟨0,0,⟨by omega,by omega,by omega,⟨0,Or.inl hx.symm,by omega,by omega,Or.inr (by omega)⟩,by omega,Or.inl ⟨by omega,by omega,by omega⟩,fun _=>rfl⟩⟩
end
section
open Go.RowKit
def bigV:V3:=⟨boxS,boxS,boxS⟩
def oneV:V3:=⟨⟨0,13830554455654793216,4607182418800017408⟩,⟨0,13830554455654793216,4607182418800017408⟩,⟨0,13830554455654793216,4607182418800017408⟩⟩
theorem big_facts:(normV 0 bigV).e=0∧val (normV 0 bigV).hi < val 4906671693080363008∧(normV 0 oneV).e=0∧0 < val 4318952042648305664:=by decide +kernel
theorem pow_low:val 4318952042648305664=((2 ^ 1010:Nat):Int):=by decide +kernel
theorem pow_high:val 4906671693080363008≤((2 ^ 1160:Nat):Int):=by decide +kernel
theorem mul_self_le {a b:Int} (h0:0≤a) (h:a≤b):a*a≤b*b:=Int.mul_le_mul h h h0 (by omega)
theorem le_of_self {a b:Int} (hb:0≤b) (h:a*a≤b*b):a≤b:=by
 rcases Int.lt_or_le b a with g | g
 · have k1:b*b≤b*a:=Int.mul_le_mul_of_nonneg_left (by omega) hb
   have k2:b*a < a*a:=Int.mul_lt_mul_of_pos_right g (by omega)
   omega
 · exact g
theorem abs_le {a b:Int} (hb:0≤b) (h:a*a≤b*b):a≤b ∧ -a≤b:=⟨le_of_self hb h,le_of_self hb (by rw [Int.neg_mul_neg]; exact h)⟩
theorem unit_norm (x y z:Nat) (lx:x < 18446744073709551616) (ly:y < 18446744073709551616) (lz:z < 18446744073709551616) (hU:hasU x y z=true) :
   0 < val (unitN x y z).lo∧val (unitN x y z).lo*val (unitN x y z).lo≤val x*val x+val y*val y+val z*val z∧val x*val x+val y*val y+val z*val z≤val (unitN x y z).hi*val (unitN x y z).hi ∧
     ∃ G:Int,0 < G∧val (unitN x y z).hi - val (unitN x y z).lo < 13*G∧4503599627370496*G≤val (unitN x y z).hi:=by
 obtain⟨fN,_⟩:=unit_fits x y z lx ly lz hU
 unfold hasU leB at hU
 simp only [Bool.and_eq_true,decide_eq_true_eq] at hU
 obtain⟨⟨⟨h1,h2⟩,h3⟩,g1,g2⟩:=hU
 obtain⟨_,_,mv⟩:=most_val h1 h2 h3
 rw [mv] at g1 g2
 obtain⟨b1,b2,_,b4⟩:=big_facts
 have wx:=in_S lx h1 (by omega)
 have wy:=in_S ly h2 (by omega)
 have wz:=in_S lz h3 (by omega)
 obtain⟨_,iN⟩:=normV_in (a:=at3 x y z) b1 rfl ⟨wx,wy,wz⟩ (show FitV bigV from ⟨boxS_fit,boxS_fit,boxS_fit⟩)
 have iN:val (unitN x y z).hi≤val (normV 0 bigV).hi:=iN.hi
 have eN:(normV 0 (at3 x y z)).e=0:=fN.e
 obtain⟨e1,e2,e3,_⟩:=norm_parts eN
 have dx:=sqr_one lx h1 e1
 have dy:=sqr_one ly h2 e2
 have dz:=sqr_one lz h3 e3
 have sq1:=norm_squares (A:=at3 x y z) ⟨one_fit lx h1,one_fit ly h2,one_fit lz h3⟩ eN dx.1.ok.2.2.1 dy.1.ok.2.2.1 dz.1.ok.2.2.1 dx.2.ok.2.2.1 dy.2.ok.2.2.1 dz.2.ok.2.2.1
 obtain⟨n0,n1,n2⟩:=sq1
 have n0:0≤val (unitN x y z).lo:=n0
 have n1:val (unitN x y z).lo*val (unitN x y z).lo≤val x*val x+val y*val y+val z*val z:=n1
 have n2:val x*val x+val y*val y+val z*val z≤val (unitN x y z).hi*val (unitN x y z).hi:=n2
 have lN:=fN.le
 -- no less than the greatest of all
 have s1:=self_nonneg (val x)
 have s2:=self_nonneg (val y)
 have s3:=self_nonneg (val z)
 have a1:=abs_le (a:=val x) (b:=val (unitN x y z).hi) (by omega) (by omega)
 have a2:=abs_le (a:=val y) (b:=val (unitN x y z).hi) (by omega) (by omega)
 have a3:=abs_le (a:=val z) (b:=val (unitN x y z).hi) (by omega) (by omega)
 obtain⟨r1,t1⟩:=val_side h1
 obtain⟨r2,t2⟩:=val_side h2
 obtain⟨r3,t3⟩:=val_side h3
 have low:val 4318952042648305664≤val (unitN x y z).hi:=by omega
 have high:val (unitN x y z).hi < val 4906671693080363008:=by omega
 obtain⟨n,hn⟩:∃ n:Nat,val (unitN x y z).hi=(n:Int):=⟨(val (unitN x y z).hi).toNat,by omega⟩
 have p1:=pow_low
 have p2:=pow_high
 have q1:2 ^ 1010≤n:=Int.ofNat_le.1 (by rw [←hn]; exact p1 ▸ low)
 have q2:n < 2 ^ 1160:=Int.ofNat_lt.1 (by rw [←hn]; exact Int.lt_of_lt_of_le high p2)
 obtain⟨j,j1,j2,j3,j4⟩:=log_size q1 q2 (by decide)
 obtain⟨G,hG⟩:∃ G:Int,G=((2 ^ j:Nat):Int):=⟨_,rfl⟩
 have k1:4503599627370496*G≤val (unitN x y z).hi:=by
   rw [hn,hG]; exact Int.ofNat_le.2 j3
 have k2:val (unitN x y z).hi < 9007199254740992*G:=by
   rw [hn,hG]; exact Int.ofNat_lt.2 j4
 have G0:0 < G:=by rw [hG]; exact Int.natCast_pos.2 (Nat.two_pow_pos j)
 have wide:=norm_wide lx ly lz h1 h2 h3 fN hG (by omega) (by omega) k1 k2
 exact ⟨by omega,n1,n2,G,G0,wide,k1⟩
theorem one_part {x:Nat} {n p:Res} {m M:Int} (h:PartOf x n p m M) (fp:Fit p):In p ⟨0,13830554455654793216,4607182418800017408⟩:=by
 obtain⟨o1,o2,_,_⟩:=ones
 have h1:=h.low
 have h2:=h.le
 have h3:=h.top
 refine ⟨fp,?_,?_⟩
 · show val m1≤val p.lo
   rw [o2]; rcases h.side with ⟨_,a,b⟩ | ⟨_,a,b⟩ <;> omega
 · show val p.hi≤val u1
   rw [o1]; rcases h.side with ⟨_,a,b⟩ | ⟨_,a,b⟩ <;> omega
theorem part_sqr {x:Nat} {n p:Res} {m M:Int} (h:PartOf x n p m M) (fp:Fit p) (he:(sqrR p).e=0):val (sqrR p).lo*SS≤m*m∧M*M≤val (sqrR p).hi*SS:=by
 obtain⟨a,A,e1,e2,_,_,d,u⟩:=sqr_parts fp he
 have h1:=h.low
 have h2:=h.le
 have k:a=m∧A=M:=by
   rcases h.side with ⟨_,g1,g2⟩ | ⟨_,g1,g2⟩
   · rw [g1,g2] at e1 e2
     rw [if_pos h1] at e1
     omega
   · rw [g1,g2] at e1 e2
     refine ⟨?_,by omega⟩
     rw [e1]; split <;> (try split) <;> omega
 rw [k.1] at d
 rw [k.2] at u
 exact ⟨d.ok.2.2.1,u.ok.2.2.1⟩
theorem low_sum {m1 m2 m3 a1 a2 a3 H S:Int} (p1:0≤m1) (p2:0≤m2) (p3:0≤m3) (hH:0 < H) (h1:m1*H≤a1*S) (h2:m2*H≤a2*S) (h3:m3*H≤a3*S) (hR:a1*a1+a2*a2+a3*a3≤H*H):m1*m1+m2*m2+m3*m3≤S*S:=by
 have k1:=mul_self_le (Int.mul_nonneg p1 (Int.le_of_lt hH)) h1
 have k2:=mul_self_le (Int.mul_nonneg p2 (Int.le_of_lt hH)) h2
 have k3:=mul_self_le (Int.mul_nonneg p3 (Int.le_of_lt hH)) h3
 have hh:0 < H*H:=Int.mul_pos hH hH
 refine Int.le_of_mul_le_mul_right ?_ hh
 have g1:(m1*m1+m2*m2+m3*m3)*(H*H)=m1*H*(m1*H)+m2*H*(m2*H)+m3*H*(m3*H):=by grind
 have g2:a1*S*(a1*S)+a2*S*(a2*S)+a3*S*(a3*S)=(a1*a1+a2*a2+a3*a3)*(S*S):=by grind
 have g3:=Int.mul_le_mul_of_nonneg_right hR (self_nonneg S)
 have g4:H*H*(S*S)=S*S*(H*H):=by grind
 omega
theorem high_sum {m1 m2 m3 a1 a2 a3 L S:Int} (hS:0≤S) (n1:0≤a1) (n2:0≤a2) (n3:0≤a3) (hL:0 < L) (h1:m1=S∨a1*S≤m1*L) (h2:m2=S∨a2*S≤m2*L) (h3:m3=S∨a3*S≤m3*L) (hR:L*L≤a1*a1+a2*a2+a3*a3):S*S≤m1*m1+m2*m2+m3*m3:=by
 have s1:=self_nonneg m1
 have s2:=self_nonneg m2
 have s3:=self_nonneg m3
 rcases h1 with rfl | h1
 · omega
 rcases h2 with rfl | h2
 · omega
 rcases h3 with rfl | h3
 · omega
 have k1:=mul_self_le (Int.mul_nonneg n1 hS) h1
 have k2:=mul_self_le (Int.mul_nonneg n2 hS) h2
 have k3:=mul_self_le (Int.mul_nonneg n3 hS) h3
 have hh:0 < L*L:=Int.mul_pos hL hL
 refine Int.le_of_mul_le_mul_right ?_ hh
 have g1:(m1*m1+m2*m2+m3*m3)*(L*L)=m1*L*(m1*L)+m2*L*(m2*L)+m3*L*(m3*L):=by grind
 have g2:a1*S*(a1*S)+a2*S*(a2*S)+a3*S*(a3*S)=(a1*a1+a2*a2+a3*a3)*(S*S):=by grind
 have g3:=Int.mul_le_mul_of_nonneg_right hR (self_nonneg S)
 have g4:L*L*(S*S)=S*S*(L*L):=by grind
 omega
theorem unit_all (x y z:Nat) (lx:x < 18446744073709551616) (ly:y < 18446744073709551616) (lz:z < 18446744073709551616) (hU:hasU x y z=true) :
   FitV (unitV x y z)∧(normV 0 (unitV x y z)).e=0∧val (normV 0 (unitV x y z)).lo≤SS∧SS≤val (normV 0 (unitV x y z)).hi ∧
     (∃ m M,PartOf x (unitN x y z) (unitV x y z).x m M)∧(∃ m M,PartOf y (unitN x y z) (unitV x y z).y m M)∧(∃ m M,PartOf z (unitN x y z) (unitV x y z).z m M):=by
 obtain⟨n0,n1,n2,G,G0,w,g⟩:=unit_norm x y z lx ly lz hU
 obtain⟨fN,f1,f2,f3⟩:=unit_fits x y z lx ly lz hU
 unfold hasU leB at hU
 simp only [Bool.and_eq_true,decide_eq_true_eq] at hU
 obtain⟨⟨⟨h1,h2⟩,h3⟩,_,_⟩:=hU
 have lN:=fN.le
 have s1:=self_nonneg (val x)
 have s2:=self_nonneg (val y)
 have s3:=self_nonneg (val z)
 have a1:=abs_le (a:=val x) (b:=val (unitN x y z).hi) (by omega) (by omega)
 have a2:=abs_le (a:=val y) (b:=val (unitN x y z).hi) (by omega) (by omega)
 have a3:=abs_le (a:=val z) (b:=val (unitN x y z).hi) (by omega) (by omega)
 obtain⟨mx,Mx,px⟩:=part_of h1 fN n0 f1 a1.1 a1.2 G0 w g
 obtain⟨my,My,py⟩:=part_of h2 fN n0 f2 a2.1 a2.2 G0 w g
 obtain⟨mz,Mz,pz⟩:=part_of h3 fN n0 f3 a3.1 a3.2 G0 w g
 have bx:=(bound_facts f1).1
 have bY:=(bound_facts f2).1
 have bz:=(bound_facts f3).1
 have hV:unitV x y z=⟨unitPart x (unitN x y z),unitPart y (unitN x y z),unitPart z (unitN x y z)⟩:=rfl
 have fV:FitV (unitV x y z):=⟨bx,bY,bz⟩
 have i1:InV (unitV x y z) oneV:=⟨one_part px bx,one_part py bY,one_part pz bz⟩
 have fO:FitV oneV:=⟨.of (by decide +kernel),.of (by decide +kernel),.of (by decide +kernel)⟩
 obtain⟨_,_,b3,_⟩:=big_facts
 obtain⟨_,iO⟩:=normV_in (a:=unitV x y z) b3 rfl i1 fO
 have eV:(normV 0 (unitV x y z)).e=0:=iO.fit.e
 obtain⟨e1,e2,e3,_⟩:=norm_parts eV
 have qx:=part_sqr px bx e1
 have qy:=part_sqr py bY e2
 have qz:=part_sqr pz bz e3
 obtain⟨_,k1,k2⟩:=norm_squares fV eV qx.1 qy.1 qz.1 qx.2 qy.2 qz.2
 obtain⟨cx,vx,cx0,ux,tx⟩:=px.under
 obtain⟨cy,vy,cy0,uy,ty⟩:=py.under
 obtain⟨cz,vz,cz0,uz,tz⟩:=pz.under
 have rx:cx*cx=val x*val x:=by rcases vx with e | e <;> rw [e]; rw [Int.neg_mul_neg]
 have ry:cy*cy=val y*val y:=by rcases vy with e | e <;> rw [e]; rw [Int.neg_mul_neg]
 have rz:cz*cz=val z*val z:=by rcases vz with e | e <;> rw [e]; rw [Int.neg_mul_neg]
 have lo:=low_sum px.low py.low pz.low (by omega) ux uy uz (by rw [rx,ry,rz]; exact n2)
 have hi:=high_sum ss_pos cx0 cy0 cz0 n0 tx ty tz (by rw [rx,ry,rz]; exact n1)
 have top:0≤val (normV 0 (unitV x y z)).hi:=by
   have:=iO.fit.le
   have k3:=norm_squares fV eV qx.1 qy.1 qz.1 qx.2 qy.2 qz.2
   omega
 exact ⟨fV,eV,le_of_self ss_pos (by omega),le_of_self top (by omega),⟨mx,Mx,px⟩,⟨my,My,py⟩,⟨mz,Mz,pz⟩⟩
end
section
open Go.RowKit
def capQ (x:Rat):Rat:=if x ≤ -1 then -1 else if 1≤x then 1 else x
theorem capQ_near {x y e:Rat} (h1:-e≤x - y) (h2:x - y≤e) (h3:-1 - e≤y) (h4:y≤1+e) (he:0≤e):-(2*e)≤capQ x - y∧capQ x - y≤2*e:=by
 unfold capQ
 split
 ·constructor <;> grind
 ·split <;> constructor <;> grind
theorem int_max (a b:Int):((max a b:Int):Rat)=(a:Rat)∧b≤a∨((max a b:Int):Rat)=(b:Rat)∧a≤b:=by
 rcases Int.le_total a b with h | h
 ·exact Or.inr ⟨by rw [Int.max_eq_right h],h⟩
 ·exact Or.inl ⟨by rw [Int.max_eq_left h],h⟩
theorem int_min (a b:Int):((min a b:Int):Rat)=(a:Rat)∧a≤b∨((min a b:Int):Rat)=(b:Rat)∧b≤a:=by
 rcases Int.le_total a b with h | h
 ·exact Or.inl ⟨by rw [Int.min_eq_left h],h⟩
 ·exact Or.inr ⟨by rw [Int.min_eq_right h],h⟩
theorem HasQ.boundW {r:Res} {x:Rat} (f:Fit r) (h:HasQ r x) (l:val r.lo≤SS) (g:-SS≤val r.hi):HasQ (boundR r) (capQ x):=by
 obtain⟨b1,b2⟩:=bound_ends f l g;have S:=ssQ;have h1:=h.low;have h2:=h.high;have l':((val r.lo:Int):Rat)≤((SS:Int):Rat):=Rat.intCast_le_intCast.2 l
 have g':-((SS:Int):Rat)≤((val r.hi:Int):Rat):=by rw [←Rat.intCast_neg]; exact Rat.intCast_le_intCast.2 g
 have n:((-SS:Int):Rat)=-((SS:Int):Rat):=Rat.intCast_neg _;have m1:=int_max (val r.lo) (-SS);have m2:=int_min (val r.hi) SS;rw [←b1] at m1;rw [←b2] at m2;generalize ((SS:Int):Rat)=s at *;generalize ((val r.lo:Int):Rat)=a at *;generalize ((val r.hi:Int):Rat)=b at *
 have k1:x ≤ -1→x*s ≤ -s:=fun q=>by have:=Rat.mul_nonneg (by grind:0 ≤ -1 - x) (by grind:0≤s); grind
 have k2:1≤x→s≤x*s:=fun q=>by have:=Rat.mul_nonneg (by grind:0≤x - 1) (by grind:0≤s); grind
 have k3:-1≤x → -s≤x*s:=fun q=>by have:=Rat.mul_nonneg (by grind:0≤x+1) (by grind:0≤s); grind
 have k4:x≤1→x*s≤s:=fun q=>by have:=Rat.mul_nonneg (by grind:0≤1 - x) (by grind:0≤s); grind
 have c:capQ x=-1∧x ≤ -1∨capQ x=1∧1≤x∨capQ x=x ∧ -1≤x∧x≤1:=by
  unfold capQ
  split
  ·grind
  ·split <;> grind
 constructor
 ·rcases c with ⟨e,q⟩ | ⟨e,q⟩ | ⟨e,q,q'⟩ <;> rw [e] <;> rcases m1 with ⟨m,_⟩ | ⟨m,_⟩ <;> rw [m] <;> grind
 ·rcases c with ⟨e,q⟩ | ⟨e,q⟩ | ⟨e,q,q'⟩ <;> rw [e] <;> rcases m2 with ⟨m,_⟩ | ⟨m,_⟩ <;> rw [m] <;> grind
def Cap1 (f:Nat→Rat):Prop:=∀ e:Rat,0 < e→∃ M:Nat,∀ m,M≤m → -1 - e≤f m∧f m≤1+e
theorem HasS.bound {r:Res} {f:Nat→Rat} (fr:Fit r) (h:HasS r f) (l:val r.lo≤SS) (g:-SS≤val r.hi) (b:Cap1 f):HasS (boundR r) f:=by
 obtain⟨f',a,k⟩:=h;refine ⟨fun m=>capQ (f' m),fun m=>(a m).boundW fr l g,fun e he=>?_⟩;obtain⟨M,hM⟩:=k (e / 2) (by grind);obtain⟨N,hN⟩:=b (e / 2) (by grind);refine ⟨M+N,fun m hm=>?_⟩;have h1:=hM m (by omega);have h2:=hN m (by omega);have:=capQ_near (e:=e / 2) h1.1 h1.2 h2.1 h2.2 (by grind)
 grind
theorem cap_of {f g:Nat→Rat} (h:Eqv (fun m=>f m*f m+g m) fun _=>1) (h0:∀ m,0≤g m):Cap1 f:=fun e he=>by
 obtain⟨M,hM⟩:=h e he;refine ⟨M,fun m hm=>?_⟩;have k:=(hM m hm).2;have k0:=h0 m;simp only at k
 constructor
 ·rcases Rat.le_total (a:=-1 - e) (b:=f m) with q | q
  ·exact q
  ·have:=Rat.mul_nonneg (by grind:0 ≤ -1 - e - f m) (by grind:0≤1+e - f m)
   have:=Rat.mul_nonneg (by grind:0≤e) (by grind:0≤e)
   grind
 ·rcases Rat.le_total (a:=f m) (b:=1+e) with q | q
  ·exact q
  ·have:=Rat.mul_nonneg (by grind:0≤f m - (1+e)) (by grind:0≤f m+(1+e))
   have:=Rat.mul_nonneg (by grind:0≤e) (by grind:0≤e)
   grind
theorem sq_nn (a:Rat):0≤a*a:=by
 rcases Rat.le_total (a:=0) (b:=a) with g | g
 ·exact Rat.mul_nonneg g g
 ·have:=Rat.mul_nonneg (by grind:0 ≤ -a) (by grind:0 ≤ -a)
  grind
theorem unit_sum {y:Nat→Rat} {X Y Z d:Rat} (d0:0 < d) (a:Abv d y) (h:Eqv (fun m=>y m*y m) fun _=>X*X+Y*Y+Z*Z) :
  Eqv (fun m=>X / y m*(X / y m)+(Y / y m*(Y / y m)+Z / y m*(Z / y m))) fun _=>1:=by
 have b:=a.inv d0;have k:=Nul.mul (b.mul b) h;obtain⟨M,hM⟩:=a;intro e he;obtain⟨N,hN⟩:=k e he;refine ⟨M+N,fun m hm=>?_⟩;have h1:=hM m (by omega);have h2:=hN m (by omega)
 have n:y m≠0:=by grind
 have q:X / y m*(X / y m)+(Y / y m*(Y / y m)+Z / y m*(Z / y m)) - 1=-((y m)⁻¹*(y m)⁻¹*(y m*y m - (X*X+Y*Y+Z*Z))):=by
  have i:y m*(y m)⁻¹=1:=Rat.mul_inv_cancel _ n;rw [Rat.div_def,Rat.div_def,Rat.div_def]
  grind
 simp only at h2 ⊢;rw [q]
 grind
theorem div_ends {u:Nat} {n:Res} (ru:rightB u=true) (fn:Fit n) (n0:0 < val n.lo) (f:Fit (divR (oneR u) n)) (h1:val u≤val n.hi) (h2:-val u≤val n.hi):val (divR (oneR u) n).lo≤SS ∧ -SS≤val (divR (oneR u) n).hi:=by
 obtain⟨s,t,s0,t0,es,et,d,v⟩:=div_parts ru fn n0 f.e;have S0:0≤SS:=ss_pos
 have sp:(0:Int) < s:=by omega
 have tp:(0:Int) < t:=by omega
 have c3:=d.ok.2.2.1;have d3:=v.ok.2.2.1
 constructor
 ·refine Int.le_of_mul_le_mul_right (Int.le_trans c3 ?_) sp
  by_cases q:0≤val u
  ·rw [if_pos q] at es
   rw [es,Int.mul_comm SS];exact Int.mul_le_mul_of_nonneg_right h1 S0
  ·have k1:=Int.mul_nonneg S0 (Int.le_of_lt sp)
   have k2:val u*SS≤0:=Int.mul_nonpos_of_nonpos_of_nonneg (by omega) S0;omega
 ·refine Int.le_of_mul_le_mul_right (Int.le_trans ?_ d3) tp
  by_cases q:0≤val u
  ·have k1:=Int.mul_nonneg S0 (Int.le_of_lt tp)
   have k2:0≤val u*SS:=Int.mul_nonneg q S0;rw [Int.neg_mul];omega
  ·rw [if_neg q] at et
   rw [et,Int.neg_mul,Int.mul_comm SS,←Int.neg_mul];exact Int.mul_le_mul_of_nonneg_right (by omega) S0
theorem unit_seq {x y z:Nat} (lx:x < 18446744073709551616) (ly:y < 18446744073709551616) (lz:z < 18446744073709551616) (hU:hasU x y z=true) :
  ∃ f g h:Nat→Rat,HasS (unitV x y z).x f∧HasS (unitV x y z).y g∧HasS (unitV x y z).z h∧Eqv (fun m=>f m*f m+(g m*g m+h m*h m)) (fun _=>1)∧(0≤val z→∀ m,0≤h m):=by
 have hU':=hU;unfold hasU leB at hU';simp only [Bool.and_eq_true,decide_eq_true_eq] at hU';obtain⟨⟨⟨h1,h2⟩,h3⟩,_⟩:=hU';obtain⟨fN,fx,fy,fz⟩:=unit_fits x y z lx ly lz hU;obtain⟨n0,n1,n2,_⟩:=unit_norm x y z lx ly lz hU;obtain⟨e1,e2,e3,e4,e5,e6,eN⟩:=norm_parts (A:=at3 x y z) fN.e;have g1:=one_fit lx h1;have g2:=one_fit ly h2;have g3:=one_fit lz h3;have q1:=(HasQ.one x).sqr g1 e1;have q2:=(HasQ.one y).sqr g2 e2;have q3:=(HasQ.one z).sqr g3 e3;have f1:=sqr_fit g1 e1;have f2:=sqr_fit g2 e2;have f3:=sqr_fit g3 e3;have f4:=add_fit f1 f2 e4;have q4:=HasQ.add f1 f2 q1 q2 e4;have q5:=HasQ.add f4 f3 q4 q3 e5;have f5:=add_fit f4 f3 e5;obtain⟨w,hw,w0,we⟩:=HasS.sqrt f5 (HasS.const q5) e6
 have hN:HasS (unitN x y z) w:=by
  show HasS (normV 0 (at3 x y z)) w
  rw [eN]; exact hw
 obtain⟨d,d0,aw⟩:=hN.abv n0;have us:=unit_sum d0 aw we;have s1:=self_nonneg (val x);have s2:=self_nonneg (val y);have s3:=self_nonneg (val z);have a1:=abs_le (a:=val x) (b:=val (unitN x y z).hi) (by have:=fN.le; omega) (by omega);have a2:=abs_le (a:=val y) (b:=val (unitN x y z).hi) (by have:=fN.le; omega) (by omega);have a3:=abs_le (a:=val z) (b:=val (unitN x y z).hi) (by have:=fN.le; omega) (by omega);obtain⟨b1,b1'⟩:=div_ends h1 fN n0 fx a1.1 a1.2;obtain⟨b2,b2'⟩:=div_ends h2 fN n0 fy a2.1 a2.2;obtain⟨b3,b3'⟩:=div_ends h3 fN n0 fz a3.1 a3.2;have p1:=HasS.div g1 fN (HasS.const (HasQ.one x)) hN n0 fx.e;have p2:=HasS.div g2 fN (HasS.const (HasQ.one y)) hN n0 fy.e;have p3:=HasS.div g3 fN (HasS.const (HasQ.one z)) hN n0 fz.e;have S:=ssQ;obtain⟨X,hX⟩:∃ X:Rat,X=((val x:Int):Rat) / ((SS:Int):Rat):=⟨_,rfl⟩;obtain⟨Y,hY⟩:∃ Y:Rat,Y=((val y:Int):Rat) / ((SS:Int):Rat):=⟨_,rfl⟩;obtain⟨Z,hZ⟩:∃ Z:Rat,Z=((val z:Int):Rat) / ((SS:Int):Rat):=⟨_,rfl⟩
 rw [←hX,←hY,←hZ] at us;rw [←hX] at p1;rw [←hY] at p2;rw [←hZ] at p3
 have nn:∀ a b:Rat,0≤a*a+b*b:=fun a b=>by
  have h1:=sq_nn a;have h2:=sq_nn b
  grind
 have c1:Cap1 fun m=>X / w m:=cap_of (g:=fun m=>Y / w m*(Y / w m)+Z / w m*(Z / w m)) us fun m=>nn _ _
 have c2:Cap1 fun m=>Y / w m:=cap_of (g:=fun m=>X / w m*(X / w m)+Z / w m*(Z / w m)) (Nul.of us fun m=>by grind) fun m=>nn _ _
 have c3:Cap1 fun m=>Z / w m:=cap_of (g:=fun m=>X / w m*(X / w m)+Y / w m*(Y / w m)) (Nul.of us fun m=>by grind) fun m=>nn _ _
 refine ⟨fun m=>X / w m,fun m=>Y / w m,fun m=>Z / w m,p1.bound fx b1 b1' c1,p2.bound fy b2 b2' c2,p3.bound fz b3 b3' c3,us,fun hz m=>?_⟩
 have z0:0≤Z:=by
  rw [hZ,Rat.div_def];exact Rat.mul_nonneg (Rat.intCast_nonneg.2 hz) (by have:=Rat.inv_pos.2 S; grind)
 have wm:=w0 m
 show 0≤Z / w m
 by_cases q:w m=0
 ·rw [q,Rat.div_def,Rat.inv_zero,Rat.mul_zero]; exact Rat.le_refl
 ·have:=Rat.inv_pos.2 (by grind:0 < w m)
  rw [Rat.div_def];exact Rat.mul_nonneg z0 (by grind)
end
section
open Go.RowKit
def Mi.sx (A B:V3):Res:=addR A.x B.x
def Mi.sy (A B:V3):Res:=addR A.y B.y
def Mi.sz (A B:V3):Res:=addR A.z B.z
def Mi.n1 (A B:V3):Res:=sqrR (Mi.sx A B)
def Mi.n2 (A B:V3):Res:=sqrR (Mi.sy A B)
def Mi.n3 (A B:V3):Res:=addR (Mi.n1 A B) (Mi.n2 A B)
def Mi.n4 (A B:V3):Res:=sqrR (Mi.sz A B)
def Mi.n5 (A B:V3):Res:=addR (Mi.n3 A B) (Mi.n4 A B)
def Mi.n (A B:V3):Res:=sqrtR (Mi.n5 A B)
def Mi.h (A B:V3):Res:=mulR (oneR uh) (Mi.n A B)
def Mi.half (A B:V3):Res:=clampR (Mi.h A B)
def Mi.l (A B:V3):Res:=divR (Mi.sz A B) (Mi.n A B)
def Mi.lean (A B:V3):Res:=clampR (Mi.l A B)
structure MF (A B:V3):Prop where
 sx:Fit (Mi.sx A B)
 sy:Fit (Mi.sy A B)
 sz:Fit (Mi.sz A B)
 n1:Fit (Mi.n1 A B)
 n2:Fit (Mi.n2 A B)
 n3:Fit (Mi.n3 A B)
 n4:Fit (Mi.n4 A B)
 n5:Fit (Mi.n5 A B)
 n:Fit (Mi.n A B)
 h:Fit (Mi.h A B)
 l:Fit (Mi.l A B)
structure MI (a b A B:V3):Prop where
 sx:In (Mi.sx a b) (Mi.sx A B)
 sy:In (Mi.sy a b) (Mi.sy A B)
 sz:In (Mi.sz a b) (Mi.sz A B)
 n1:In (Mi.n1 a b) (Mi.n1 A B)
 n2:In (Mi.n2 a b) (Mi.n2 A B)
 n3:In (Mi.n3 a b) (Mi.n3 A B)
 n4:In (Mi.n4 a b) (Mi.n4 A B)
 n5:In (Mi.n5 a b) (Mi.n5 A B)
 n:In (Mi.n a b) (Mi.n A B)
 h:In (Mi.h a b) (Mi.h A B)
 l:In (Mi.l a b) (Mi.l A B)
theorem MI.fits {a b A B:V3} (h:MI a b A B):MF a b:=⟨h.sx.fit,h.sy.fit,h.sz.fit,h.n1.fit,h.n2.fit,h.n3.fit,h.n4.fit,h.n5.fit,h.n.fit,h.h.fit,h.l.fit⟩
theorem mi_of {a b A B:V3} (K:MF A B) (fA:FitV A) (fB:FitV B) (ia:InV a A) (ib:InV b B):MI a b A B:=by
 have sx:In (Mi.sx a b) (Mi.sx A B):=add_in ia.x fA.x ib.x fB.x K.sx.e;have sy:In (Mi.sy a b) (Mi.sy A B):=add_in ia.y fA.y ib.y fB.y K.sy.e;have sz:In (Mi.sz a b) (Mi.sz A B):=add_in ia.z fA.z ib.z fB.z K.sz.e;have n1:In (Mi.n1 a b) (Mi.n1 A B):=sqr_in sx K.sx K.n1.e;have n2:In (Mi.n2 a b) (Mi.n2 A B):=sqr_in sy K.sy K.n2.e;have n3:In (Mi.n3 a b) (Mi.n3 A B):=add_in n1 K.n1 n2 K.n2 K.n3.e;have n4:In (Mi.n4 a b) (Mi.n4 A B):=sqr_in sz K.sz K.n4.e;have n5:In (Mi.n5 a b) (Mi.n5 A B):=add_in n3 K.n3 n4 K.n4 K.n5.e;have n:In (Mi.n a b) (Mi.n A B):=root_in n5 K.n5 K.n.e;exact ⟨sx,sy,sz,n1,n2,n3,n4,n5,n,mul_in (.refl uh_fit) uh_fit n K.n K.h.e,div_in sz K.sz n K.n K.l.e⟩
def okM (A B:V3):Bool:=fitB (Mi.sx A B)&&fitB (Mi.sy A B)&&fitB (Mi.sz A B)&&fitB (Mi.n1 A B)&&fitB (Mi.n2 A B)&&fitB (Mi.n3 A B)&&fitB (Mi.n4 A B)&&fitB (Mi.n5 A B)&&fitB (Mi.n A B)&&fitB (Mi.h A B)&&fitB (Mi.l A B)
theorem mf_of {A B:V3} (h:okM A B=true):MF A B:=by
 unfold okM at h;simp only [Bool.and_eq_true] at h;obtain⟨⟨⟨⟨⟨⟨⟨⟨⟨⟨h1,h2⟩,h3⟩,h4⟩,h5⟩,h6⟩,h7⟩,h8⟩,h9⟩,h10⟩,h11⟩:=h;exact ⟨.of h1,.of h2,.of h3,.of h4,.of h5,.of h6,.of h7,.of h8,.of h9,.of h10,.of h11⟩
def zI7:Res:=⟨0,4575657221408423936,u1⟩
def dB:V3:=⟨⟨0,m1,u1⟩,⟨0,m1,u1⟩,zI7⟩
theorem dB_fit:FitV dB:=⟨.of (by decide +kernel),.of (by decide +kernel),.of (by decide +kernel)⟩
theorem mf_box:MF dB dB:=mf_of (by decide +kernel)
theorem mi_lows:0 < val (Mi.n dB dB).lo∧val cI8.lo≤val (Mi.lean dB dB).lo∧val (Mi.lean dB dB).hi≤val cI8.hi∧val cI8.lo≤val zI7.lo:=by decide +kernel
section
variable {A B:V3} (iA:InV A dB) (iB:InV B dB)
include iA iB
theorem md_in:MI A B dB dB:=mi_of mf_box dB_fit dB_fit iA iB
theorem lean_c8:In (Mi.lean A B) cI8:=by
 have h:=clamp_in (md_in iA iB).l mf_box.l;obtain⟨_,h1,h2,_⟩:=mi_lows;exact ⟨h.fit,Int.le_trans h1 h.lo,Int.le_trans h.hi h2⟩
end
section
variable {A B:V3} {f g h f' g' h':Nat→Rat} (K:MF A B) (FA:FitV A) (FB:FitV B) (n0:0 < val (Mi.n A B).lo)
 (a1:HasS A.x f) (a2:HasS A.y g) (a3:HasS A.z h) (b1:HasS B.x f') (b2:HasS B.y g') (b3:HasS B.z h')
 (uA:Eqv (fun m=>f m*f m+(g m*g m+h m*h m)) fun _=>1) (uB:Eqv (fun m=>f' m*f' m+(g' m*g' m+h' m*h' m)) fun _=>1) (pA:∀ m,0≤h m) (pB:∀ m,0≤h' m)
include K FA FB n0 a1 a2 a3 b1 b2 b3 uA uB pA pB
end
end
end Go.Proofs.YtnaomilkgfkegaaGreat
