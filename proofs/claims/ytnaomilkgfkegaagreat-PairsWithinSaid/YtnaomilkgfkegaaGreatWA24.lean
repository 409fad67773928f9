/- What the claim stands on, part 25: QM, LmM, LmV. -/
import Derived.Test.YtnaomilkgfkegaaGreatWA13
import Derived.Test.YtnaomilkgfkegaaGreatWA9
import Derived.Test.YtnaomilkgfkegaaGreatWA15
import Derived.Test.YtnaomilkgfkegaaGreatWA16
import Derived.Deep.RegionHeld3
namespace Go.Proofs.YtnaomilkgfkegaaGreat
section
open Go.RowKit
theorem corner_lo {l h l' h' X Y M:Int} (x1:l≤X) (x2:X≤h) (y1:l'≤Y) (y2:Y≤h') (c1:M≤l*l') (c2:M≤l*h') (c3:M≤h*l') (c4:M≤h*h'):M≤X*Y:=by
 rcases Int.le_total 0 Y with g | g
 · have k:l*Y≤X*Y:=Int.mul_le_mul_of_nonneg_right x1 g
   rcases Int.le_total 0 l with g' | g'
   · exact Int.le_trans (Int.le_trans c1 (mul_le_l y1 g')) k
   · exact Int.le_trans (Int.le_trans c2 (mul_le_n y2 g')) k
 · have k:h*Y≤X*Y:=Int.mul_le_mul_of_nonpos_right x2 g
   rcases Int.le_total 0 h with g' | g'
   · exact Int.le_trans (Int.le_trans c3 (mul_le_l y1 g')) k
   · exact Int.le_trans (Int.le_trans c4 (mul_le_n y2 g')) k
theorem corner_hi {l h l' h' X Y M:Int} (x1:l≤X) (x2:X≤h) (y1:l'≤Y) (y2:Y≤h') (c1:l*l'≤M) (c2:l*h'≤M) (c3:h*l'≤M) (c4:h*h'≤M):X*Y≤M:=by
 have k:=corner_lo (l:=-h) (h:=-l) (X:=-X) (M:=-M) (by omega) (by omega) y1 y2 (by rw [Int.neg_mul]; omega) (by rw [Int.neg_mul]; omega) (by rw [Int.neg_mul]; omega) (by rw [Int.neg_mul]; omega)
 rw [Int.neg_mul] at k
 omega
def HasP (r:Res) (P T:Int):Prop:=val r.lo*P≤T∧T≤val r.hi*P
def SS:Int:=((2 ^ sq:Nat):Int)
theorem ss_pos:0≤SS:=Int.natCast_nonneg _
theorem quad (a b c d:Int):a*b*(c*d)=a*c*(b*d):=by ac_rfl
theorem HasP.mul {r s:Res} {P Q T U:Int} (hP:0≤P) (hQ:0≤Q) (fr:Fit r) (fs:Fit s) (h:HasP r P T) (h':HasP s Q U) (he:(mulR r s).e=0):HasP (mulR r s) (SS*(P*Q)) (T*U):=by
 obtain⟨T0,U0,⟨R,_,_⟩,W⟩:=mul_worth r.lo r.hi s.lo s.hi fr.lo fr.hi fs.lo fs.hi fr.iv fs.iv
 obtain⟨d,u⟩:=W.ends he
 obtain⟨_,_,d3,_⟩:=d.ok
 obtain⟨_,_,u3,_⟩:=u.ok
 have hPQ:0≤P*Q:=Int.mul_nonneg hP hQ
 have l1:=fr.le
 have l2:=fs.le
 have c1:=R _ _ (Int.le_refl _) l1 (Int.le_refl _) l2
 have c2:=R _ _ (Int.le_refl _) l1 l2 (Int.le_refl _)
 have c3:=R _ _ l1 (Int.le_refl _) (Int.le_refl _) l2
 have c4:=R _ _ l1 (Int.le_refl _) l2 (Int.le_refl _)
 constructor
 · have k1:val (mulR r s).lo*(SS*(P*Q))≤T0*(P*Q):=by
     rw [←Int.mul_assoc (val (mulR r s).lo)]
     exact Int.mul_le_mul_of_nonneg_right d3 hPQ
   refine Int.le_trans k1 (corner_lo h.1 h.2 h'.1 h'.2 ?_ ?_ ?_ ?_)
   · rw [quad]; exact Int.mul_le_mul_of_nonneg_right c1.1 hPQ
   · rw [quad]; exact Int.mul_le_mul_of_nonneg_right c2.1 hPQ
   · rw [quad]; exact Int.mul_le_mul_of_nonneg_right c3.1 hPQ
   · rw [quad]; exact Int.mul_le_mul_of_nonneg_right c4.1 hPQ
 · have k1:U0*(P*Q)≤val (mulR r s).hi*(SS*(P*Q)):=by
     rw [←Int.mul_assoc (val (mulR r s).hi)]
     exact Int.mul_le_mul_of_nonneg_right u3 hPQ
   refine Int.le_trans (corner_hi h.1 h.2 h'.1 h'.2 ?_ ?_ ?_ ?_) k1
   · rw [quad]; exact Int.mul_le_mul_of_nonneg_right c1.2 hPQ
   · rw [quad]; exact Int.mul_le_mul_of_nonneg_right c2.2 hPQ
   · rw [quad]; exact Int.mul_le_mul_of_nonneg_right c3.2 hPQ
   · rw [quad]; exact Int.mul_le_mul_of_nonneg_right c4.2 hPQ
theorem HasP.add {r s:Res} {P T U:Int} (hP:0≤P) (fr:Fit r) (fs:Fit s) (h:HasP r P T) (h':HasP s P U) (he:(addR r s).e=0):HasP (addR r s) P (T+U):=by
 obtain⟨e1,e2,e3⟩:=tight_e he
 have d:=add_down r.lo s.lo fr.rlo fs.rlo
 have u:=add_up r.hi s.hi fr.rhi fs.rhi
 rw [e1] at d
 rw [e2] at u
 obtain⟨_,_,d3,_⟩:=d.ok
 obtain⟨_,_,u3,_⟩:=u.ok
 have m1:(addR r s).lo=addW r.lo s.lo false:=congrArg Res.lo e3
 have m2:(addR r s).hi=addW r.hi s.hi true:=congrArg Res.hi e3
 unfold HasP at h h' ⊢
 rw [m1,m2]
 have k1:val (addW r.lo s.lo false)*P≤(val r.lo+val s.lo)*P:=Int.mul_le_mul_of_nonneg_right (by omega) hP
 have k2:(val r.hi+val s.hi)*P≤val (addW r.hi s.hi true)*P:=Int.mul_le_mul_of_nonneg_right (by omega) hP
 rw [Int.add_mul] at k1 k2
 omega
theorem HasP.sqr {r:Res} {P T:Int} (hP:0≤P) (fr:Fit r) (h:HasP r P T) (he:(sqrR r).e=0):HasP (sqrR r) (SS*(P*P)) (T*T):=by
 obtain⟨_,_,p1,p2,a1,a2⟩:=abs_facts r.lo r.hi fr.lo fr.hi fr.iv
 obtain⟨e1,e2,e3⟩:=tight_e he
 have d:=(mul_dir _ _ p1 p1 false).1 rfl
 have u:=(mul_dir _ _ p2 p2 true).2 rfl
 rw [e1] at d
 rw [e2] at u
 obtain⟨_,_,d3,_⟩:=d.ok
 obtain⟨_,_,u3,_⟩:=u.ok
 have m1:(sqrR r).lo=mulW (absLo r.lo r.hi) (absLo r.lo r.hi) false:=congrArg Res.lo e3
 have m2:(sqrR r).hi=mulW (absHi r.lo r.hi) (absHi r.lo r.hi) true:=congrArg Res.hi e3
 have hPP:0≤P*P:=Int.mul_nonneg hP hP
 have l1:=fr.le
 obtain⟨h1,h2⟩:=h
 have b0:0≤val (absLo r.lo r.hi)*P:=Int.mul_nonneg (by rw [a1]; split <;> (try split) <;> omega) hP
 have n1:-(val r.hi)*P=-(val r.hi*P):=Int.neg_mul _ _
 have n2:-(val r.lo)*P=-(val r.lo*P):=Int.neg_mul _ _
 have lowT:val (absLo r.lo r.hi)*P≤T∨val (absLo r.lo r.hi)*P ≤ -T:=by
   rw [a1]
   split
   · exact Or.inl h1
   · split
     · right; omega
     · rw [Int.zero_mul]; omega
 have mx1:val r.hi*P≤val (absHi r.lo r.hi)*P:=Int.mul_le_mul_of_nonneg_right (by rw [a2]; omega) hP
 have mx2:-(val r.lo)*P≤val (absHi r.lo r.hi)*P:=Int.mul_le_mul_of_nonneg_right (by rw [a2]; omega) hP
 constructor
 · rw [m1,←Int.mul_assoc]
   refine Int.le_trans (Int.mul_le_mul_of_nonneg_right d3 hPP) ?_
   rw [quad]
   rcases lowT with g | g
   · exact Int.mul_le_mul g g b0 (by omega)
   · have:=Int.mul_le_mul g g b0 (by omega)
     rw [Int.neg_mul_neg] at this; exact this
 · rw [m2,←Int.mul_assoc]
   refine Int.le_trans ?_ (Int.mul_le_mul_of_nonneg_right u3 hPP)
   rw [quad]
   rcases Int.le_total 0 T with g | g
   · exact Int.mul_le_mul (by omega) (by omega) g (by omega)
   · have:-T * -T≤val (absHi r.lo r.hi)*P*(val (absHi r.lo r.hi)*P):=Int.mul_le_mul (by omega) (by omega) (by omega) (by omega)
     rw [Int.neg_mul_neg] at this; exact this
end
section
open Go.RowKit
theorem neg_num (r:Nat) (h1:1≤r) (h2:r < 9218868437227405312):9223372036854775808+r < 18446744073709551616∧rightB (9223372036854775808+r)=true∧val (9223372036854775808+r)=-(steps r:Int):=by
 obtain⟨f1,f2,f3⟩:=sw_facts true r (by omega)
 rw [sw_true r (by omega)] at f1 f2 f3
 exact ⟨f1,f2,f3⟩
theorem num_nat (m k:Nat) (hm:m≤9007199254740992) (k1:53≤k) (k2:k≤1899):∃ r,r < 9218868437227405312∧steps r=m*2 ^ k:=by
 rcases Nat.lt_or_ge m 9007199254740992 with g | g
 · exact num_at m k g k1 (by omega)
 · obtain rfl:m=9007199254740992:=by omega
   obtain⟨r,hr,e⟩:=num_at 4503599627370496 (k+1) (by decide) (by omega) (by omega)
   refine ⟨r,hr,?_⟩
   rw [e,Nat.pow_succ]; omega
theorem num_int (q:Int) (k:Nat) (h1:-9007199254740992≤q) (h2:q≤9007199254740992) (k1:53≤k) (k2:k≤1899):∃ d,d < 18446744073709551616∧rightB d=true∧val d=q*((2 ^ k:Nat):Int):=by
 rcases Int.lt_or_le 0 (-q) with g | g
 · obtain⟨m,hm⟩:∃ m:Nat,-q=(m:Int):=⟨(-q).toNat,by omega⟩
   obtain⟨r,hr,e⟩:=num_nat m k (by omega) k1 k2
   have hr1:1≤r:=by
     rcases Nat.eq_zero_or_pos r with z | z
     · subst z
       have:m*2 ^ k=0:=by rw [←e]; rfl
       have hp:=Nat.two_pow_pos k
       have:=Nat.mul_pos (show 0 < m by omega) hp
       omega
     · exact z
   obtain⟨f1,f2,f3⟩:=neg_num r hr1 hr
   refine ⟨_,f1,f2,?_⟩
   rw [f3,e,Int.natCast_mul,←hm,Int.neg_mul,Int.neg_neg]
 · obtain⟨m,hm⟩:∃ m:Nat,q=(m:Int):=⟨q.toNat,by omega⟩
   obtain⟨r,hr,e⟩:=num_nat m k (by omega) k1 k2
   obtain⟨f1,f2,_,_,f3⟩:=pos_facts r hr
   refine ⟨r,f1,f2,?_⟩
   rw [f3,e,Int.natCast_mul,←hm]
section
variable {s:Nat} {T:Int} {c k:Nat} (k1:53≤k) (k2:k≤1899) (hs:0 < s)
include k1 k2 hs
theorem down_gap (h:Down s T c 0) (h1:-9007199254740992*((2 ^ k:Nat):Int)≤val c) (h2:val c < 9007199254740992*((2 ^ k:Nat):Int)):T < (val c+((2 ^ k:Nat):Int))*s:=by
 obtain⟨_,_,_,best⟩:=h.ok
 obtain⟨P,hP⟩:∃ P:Int,P=((2 ^ k:Nat):Int):=⟨_,rfl⟩
 have p0:0 < P:=by rw [hP]; exact Int.natCast_pos.2 (Nat.two_pow_pos k)
 rw [←hP] at h1 h2 ⊢
 have s0:(0:Int) < s:=Int.natCast_pos.2 hs
 obtain⟨q,hq⟩:∃ q:Int,q=val c / P:=⟨_,rfl⟩
 have q1:q*P≤val c:=by rw [hq]; exact Int.ediv_mul_le _ (Int.ne_of_gt p0)
 have q2:val c < (q+1)*P:=by rw [hq]; exact Int.lt_ediv_add_one_mul_self _ p0
 have g1:-9007199254740992≤q:=by rw [hq,Int.le_ediv_iff_mul_le p0]; exact h1
 have g2:q < 9007199254740992:=by rw [hq,Int.ediv_lt_iff_lt_mul p0]; exact h2
 obtain⟨d,d1,d2,d3⟩:=num_int (q+1) k (by omega) (by omega) k1 k2
 rw [←hP] at d3
 rcases Int.lt_or_le T ((val c+P)*s) with g | g
 · exact g
 · have h3:val d*(s:Int)≤T:=by
     refine Int.le_trans (Int.mul_le_mul_of_nonneg_right ?_ (Int.le_of_lt s0)) g
     rw [d3,Int.add_mul,Int.one_mul]; omega
   have:=best d d1 d2 h3
   omega
theorem up_gap (h:Up s T c 0) (h1:-9007199254740992*((2 ^ k:Nat):Int) < val c) (h2:val c≤9007199254740992*((2 ^ k:Nat):Int)):(val c - ((2 ^ k:Nat):Int))*s < T:=by
 obtain⟨_,_,_,best⟩:=h.ok
 obtain⟨P,hP⟩:∃ P:Int,P=((2 ^ k:Nat):Int):=⟨_,rfl⟩
 have p0:0 < P:=by rw [hP]; exact Int.natCast_pos.2 (Nat.two_pow_pos k)
 rw [←hP] at h1 h2 ⊢
 have s0:(0:Int) < s:=Int.natCast_pos.2 hs
 obtain⟨q,hq⟩:∃ q:Int,q=(val c - 1) / P:=⟨_,rfl⟩
 have q1:q*P≤val c - 1:=by rw [hq]; exact Int.ediv_mul_le _ (Int.ne_of_gt p0)
 have q2:val c - 1 < (q+1)*P:=by rw [hq]; exact Int.lt_ediv_add_one_mul_self _ p0
 have g1:-9007199254740992≤q:=by rw [hq,Int.le_ediv_iff_mul_le p0]; omega
 have g2:q < 9007199254740992:=by rw [hq,Int.ediv_lt_iff_lt_mul p0]; omega
 obtain⟨d,d1,d2,d3⟩:=num_int q k g1 (by omega) k1 k2
 rw [←hP] at d3
 rcases Int.lt_or_le ((val c - P)*s) T with g | g
 · exact g
 · have h3:T≤val d*(s:Int):=by
     refine Int.le_trans g (Int.mul_le_mul_of_nonneg_right ?_ (Int.le_of_lt s0))
     rw [d3]
     rw [Int.add_mul,Int.one_mul] at q2
     omega
   have:=best d d1 d2 h3
   omega
end
end
section
open Go.RowKit
theorem add_parts {r s:Res} (fr:Fit r) (fs:Fit s) (he:(addR r s).e=0):Down 1 (val r.lo+val s.lo) (addR r s).lo 0∧Up 1 (val r.hi+val s.hi) (addR r s).hi 0:=by
 obtain⟨e1,e2,e3⟩:=tight_e he
 have d:=add_down r.lo s.lo fr.rlo fs.rlo
 have u:=add_up r.hi s.hi fr.rhi fs.rhi
 rw [e1] at d
 rw [e2] at u
 have m1:(addR r s).lo=addW r.lo s.lo false:=congrArg Res.lo e3
 have m2:(addR r s).hi=addW r.hi s.hi true:=congrArg Res.hi e3
 rw [m1,m2]
 exact ⟨d,u⟩
theorem sqr_parts {r:Res} (fr:Fit r) (he:(sqrR r).e=0):∃ m M:Int,m=(if 0≤val r.lo then val r.lo else if val r.hi≤0 then -val r.hi else 0)∧M=max (val r.hi) (-val r.lo)∧0≤m∧m≤M ∧
   Down (2 ^ sq) (m*m) (sqrR r).lo 0∧Up (2 ^ sq) (M*M) (sqrR r).hi 0:=by
 obtain⟨_,_,p1,p2,a1,a2⟩:=abs_facts r.lo r.hi fr.lo fr.hi fr.iv
 obtain⟨e1,e2,e3⟩:=tight_e he
 have d:=(mul_dir _ _ p1 p1 false).1 rfl
 have u:=(mul_dir _ _ p2 p2 true).2 rfl
 rw [e1] at d
 rw [e2] at u
 have m1:(sqrR r).lo=mulW (absLo r.lo r.hi) (absLo r.lo r.hi) false:=congrArg Res.lo e3
 have m2:(sqrR r).hi=mulW (absHi r.lo r.hi) (absHi r.lo r.hi) true:=congrArg Res.hi e3
 rw [m1,m2]
 have l1:=fr.le
 refine ⟨val (absLo r.lo r.hi),val (absHi r.lo r.hi),a1,a2,?_,?_,d,u⟩
 · rw [a1]; split <;> (try split) <;> omega
 · rw [a1,a2]; split <;> (try split) <;> omega
theorem sqr_one {x:Nat} (lx:x < 18446744073709551616) (rx:rightB x=true) (he:(sqrR (oneR x)).e=0):Down (2 ^ sq) (val x*val x) (sqrR (oneR x)).lo 0∧Up (2 ^ sq) (val x*val x) (sqrR (oneR x)).hi 0:=by
 obtain⟨m,M,h1,h2,_,_,d,u⟩:=sqr_parts (one_fit lx rx) he
 have h1':m=(if 0≤val x then val x else if val x≤0 then -val x else 0):=h1
 have h2':M=max (val x) (-val x):=h2
 rcases Int.le_total 0 (val x) with g | g
 · rw [if_pos g] at h1'
   have:M=val x:=by omega
   rw [h1'] at d
   rw [this] at u
   exact ⟨d,u⟩
 · have e1:m=-val x:=by rw [h1']; split <;> (try split) <;> omega
   have e2:M=-val x:=by omega
   rw [e1,Int.neg_mul_neg] at d
   rw [e2,Int.neg_mul_neg] at u
   exact ⟨d,u⟩
theorem word_val {x:Nat} (hx:x≤9218868437227405311):x < 18446744073709551616∧rightB x=true∧val x=(steps x:Int):=by
 have h:=sw_facts false x hx
 rw [sw_false] at h
 exact h
theorem sqrt_parts {r:Res} (fr:Fit r) (he:(sqrtR r).e=0):0≤val r.lo ∧
   (0≤val (sqrtR r).lo∧val (sqrtR r).lo*val (sqrtR r).lo≤val r.lo*SS∧∀ d,d < 18446744073709551616→rightB d=true→0≤val d→val d*val d≤val r.lo*SS→val d≤val (sqrtR r).lo) ∧
   (0≤val (sqrtR r).hi∧val r.hi*SS≤val (sqrtR r).hi*val (sqrtR r).hi∧∀ d,d < 18446744073709551616→rightB d=true→0≤val d→val r.hi*SS≤val d*val d→val (sqrtR r).hi≤val d):=by
 have he':(sqrtI r.lo r.hi).e=0:=he
 have hn:ltB r.lo 0=false:=by
   cases h:ltB r.lo 0
   · rfl
   · unfold sqrtI at he'; rw [if_pos h] at he'; exact absurd he' (by decide)
 have hv:0≤val r.lo:=by
   unfold ltB at hn; rw [val_nil] at hn; simp at hn; exact hn
 have l1:=fr.le
 have sa:=(sgn_of_val r.lo fr.lo fr.rlo).1 hv
 have sh:=(sgn_of_val r.hi fr.hi fr.rhi).1 (by omega)
 obtain⟨p1,p2,p3,_⟩:=sqrt_rungs r.lo fr.rlo sa false
 obtain⟨q1,q2,_,q4⟩:=sqrt_rungs r.hi fr.rhi sh true
 have e1:sqrtR r=⟨0,sqrtW r.lo false,sqrtW r.hi true⟩:=by
   show sqrtI r.lo r.hi=_
   unfold sqrtI tightR; rw [if_neg (by rw [hn]; exact Bool.false_ne_true),if_pos p1,if_pos q1]
 obtain⟨w1,w2,w3⟩:=word_val p2
 obtain⟨z1,z2,z3⟩:=word_val q2
 have va:=val_pos sa
 have vh:=val_pos sh
 have p3':=p3 rfl
 have q4':=q4 rfl
 have SSe:SS=((2 ^ sq:Nat):Int):=rfl
 rw [e1]
 refine ⟨hv,⟨?_,?_,?_⟩,⟨?_,?_,?_⟩⟩
 · show 0≤val (sqrtW r.lo false)
   omega
 · show val (sqrtW r.lo false)*val (sqrtW r.lo false)≤val r.lo*SS
   have h:=(p3' _).2 (Nat.le_refl _)
   rw [w3,va,SSe,←Int.natCast_mul,←Int.natCast_mul]
   exact Int.ofNat_le.2 h
 · intro d d1 d2 d3 d4
   show val d≤val (sqrtW r.lo false)
   have hd:=pos_word d d1 d2 d3
   obtain⟨_,_,_,_,vd⟩:=pos_facts d hd
   rw [vd,va,SSe,←Int.natCast_mul,←Int.natCast_mul] at d4
   rw [vd,w3]
   exact Int.ofNat_le.2 (steps_le ((p3' d).1 (Int.ofNat_le.1 d4)))
 · show 0≤val (sqrtW r.hi true)
   omega
 · show val r.hi*SS≤val (sqrtW r.hi true)*val (sqrtW r.hi true)
   have h:=(q4' _).2 (Nat.le_refl _)
   rw [z3,vh,SSe,←Int.natCast_mul,←Int.natCast_mul]
   exact Int.ofNat_le.2 h
 · intro d d1 d2 d3 d4
   show val (sqrtW r.hi true)≤val d
   have hd:=pos_word d d1 d2 d3
   obtain⟨_,_,_,_,vd⟩:=pos_facts d hd
   rw [vd,vh,SSe,←Int.natCast_mul,←Int.natCast_mul] at d4
   rw [vd,z3]
   exact Int.ofNat_le.2 (steps_le ((q4' d).1 (Int.ofNat_le.1 d4)))
theorem div_parts {x:Nat} {n:Res} (rx:rightB x=true) (fn:Fit n) (hn:0 < val n.lo) (he:(divR (oneR x) n).e=0) :
   ∃ s t:Nat,0 < s∧0 < t∧(s:Int)=(if 0≤val x then val n.hi else val n.lo)∧(t:Int)=(if 0≤val x then val n.lo else val n.hi) ∧
     Down s (val x*SS) (divR (oneR x) n).lo 0∧Up t (val x*SS) (divR (oneR x) n).hi 0:=by
 have l1:=fn.le
 have hz:hasB n.lo n.hi 0=false:=by
   rw [has_zero fn.lo fn.hi fn.iv]; exact decide_eq_false (by omega)
 have eI:divR (oneR x) n=div1 x x n.lo n.hi:=by
   show divI x x n.lo n.hi=_
   unfold divI; rw [if_neg (by rw [hz]; exact Bool.false_ne_true)]
 rw [eI] at he
 have el:lowOf x x n.lo=x:=by unfold lowOf; split <;> rfl
 have eh:highOf x x n.lo=x:=by unfold highOf; split <;> rfl
 obtain⟨e1,e2,e3⟩:=tight_e he
 rw [el] at e1
 rw [eh] at e2
 have m1:(divR (oneR x) n).lo=divW (lowOf x x n.lo) (endW n.lo n.hi (leB 0 (lowOf x x n.lo))) false:=by rw [eI]; exact congrArg Res.lo e3
 have m2:(divR (oneR x) n).hi=divW (highOf x x n.lo) (endW n.lo n.hi (ltB (highOf x x n.lo) 0)) true:=by rw [eI]; exact congrArg Res.hi e3
 rw [el] at m1
 rw [eh] at m2
 rw [m1,m2]
 have b1:leB 0 x=decide (0≤val x):=by unfold leB; rw [val_nil]
 have b2:ltB x 0=decide (val x < 0):=by unfold ltB; rw [val_nil]
 rcases Int.lt_or_le (val x) 0 with g | g
 · rw [b1,decide_eq_false (by omega)] at e1 ⊢
   rw [b2,decide_eq_true g] at e2 ⊢
   obtain⟨s,s1,s2,s3,_⟩:=div_pos x n.lo rx fn.lo fn.rlo hn false
   obtain⟨t,t1,t2,_,t4⟩:=div_pos x n.hi rx fn.hi fn.rhi (by omega) true
   have d:=s3 rfl
   have u:=t4 rfl
   have e1':divE x n.lo false=0:=e1
   have e2':divE x n.hi true=0:=e2
   rw [e1'] at d
   rw [e2'] at u
   exact ⟨s,t,s1,t1,by rw [if_neg (by omega)]; exact s2,by rw [if_neg (by omega)]; exact t2,d,u⟩
 · rw [b1,decide_eq_true g] at e1 ⊢
   rw [b2,decide_eq_false (by omega)] at e2 ⊢
   obtain⟨s,s1,s2,s3,_⟩:=div_pos x n.hi rx fn.hi fn.rhi (by omega) false
   obtain⟨t,t1,t2,_,t4⟩:=div_pos x n.lo rx fn.lo fn.rlo hn true
   have d:=s3 rfl
   have u:=t4 rfl
   have e1':divE x n.hi false=0:=e1
   have e2':divE x n.lo true=0:=e2
   rw [e1'] at d
   rw [e2'] at u
   exact ⟨s,t,s1,t1,by rw [if_pos g]; exact s2,by rw [if_pos g]; exact t2,d,u⟩
theorem self_nonneg (x:Int):0≤x*x:=by
 rcases Int.le_total 0 x with g | g
 · exact Int.mul_nonneg g g
 · rw [←Int.neg_mul_neg]; exact Int.mul_nonneg (by omega) (by omega)
theorem gap_roots {a b G:Int} (hG:0 < G) (ha:4503599627370495*G≤a) (hb:0≤b) (h:a*a < b*b+90071992547409920*(G*G)):a - b < 11*G:=by
 rcases Int.lt_or_le (a - b) (11*G) with g | g
 · exact g
 · exfalso
   have h1:b*b≤(a - 11*G)*(a - 11*G):=Int.mul_le_mul (by omega) (by omega) hb (by omega)
   have h2:(a - 11*G)*(a - 11*G)=a*a - 22*(a*G)+121*(G*G):=by grind
   have h3:4503599627370495*G*G≤a*G:=Int.mul_le_mul_of_nonneg_right ha (by omega)
   rw [Int.mul_assoc] at h3
   have h4:0 < G*G:=Int.mul_pos hG hG
   rw [h2] at h1
   generalize a*G=u at *
   generalize a*a=aa at *
   generalize b*b=bb at *
   generalize G*G=gg at *
   omega
theorem sqr_fit {r:Res} (f:Fit r) (he:(sqrR r).e=0):Fit (sqrR r):=(sqr_in (.refl f) f he).fit
theorem add_fit {r s:Res} (f:Fit r) (g:Fit s) (he:(addR r s).e=0):Fit (addR r s):=(add_in (.refl f) f (.refl g) g he).fit
theorem root_gaps {r:Res} (fr:Fit r) (he:(sqrtR r).e=0) {k:Nat} (k1:53≤k) (k2:k≤1899) {G:Int} (hG:G=((2 ^ k:Nat):Int)) (h1:G≤val (sqrtR r).hi) (h2:val (sqrtR r).hi < 9007199254740992*G) (h3:val (sqrtR r).lo < 9007199254740992*G) :
   (val (sqrtR r).hi - G)*(val (sqrtR r).hi - G) < val r.hi*SS∧val r.lo*SS < (val (sqrtR r).lo+G)*(val (sqrtR r).lo+G):=by
 obtain⟨_,⟨n1,_,n3⟩,⟨n4,_,n6⟩⟩:=sqrt_parts fr he
 have p0:0 < G:=by rw [hG]; exact Int.natCast_pos.2 (Nat.two_pow_pos k)
 constructor
 · obtain⟨q,hq⟩:∃ q:Int,q=(val (sqrtR r).hi - 1) / G:=⟨_,rfl⟩
   have q1:q*G≤val (sqrtR r).hi - 1:=by rw [hq]; exact Int.ediv_mul_le _ (Int.ne_of_gt p0)
   have q2:val (sqrtR r).hi - 1 < (q+1)*G:=by rw [hq]; exact Int.lt_ediv_add_one_mul_self _ p0
   have g1:0≤q:=by rw [hq]; exact Int.ediv_nonneg (by omega) (by omega)
   have g2:q < 9007199254740992:=by rw [hq,Int.ediv_lt_iff_lt_mul p0]; omega
   obtain⟨d,d1,d2,d3⟩:=num_int q k (by omega) (by omega) k1 k2
   rw [←hG] at d3
   rw [Int.add_mul,Int.one_mul] at q2
   have dn:0≤val d:=by rw [d3]; exact Int.mul_nonneg g1 (by omega)
   rcases Int.lt_or_le (val d*val d) (val r.hi*SS) with g | g
   · exact Int.lt_of_le_of_lt (Int.mul_le_mul (by omega) (by omega) (by omega) dn) g
   · have:=n6 d d1 d2 dn g
     omega
 · obtain⟨q,hq⟩:∃ q:Int,q=val (sqrtR r).lo / G:=⟨_,rfl⟩
   have q1:q*G≤val (sqrtR r).lo:=by rw [hq]; exact Int.ediv_mul_le _ (Int.ne_of_gt p0)
   have q2:val (sqrtR r).lo < (q+1)*G:=by rw [hq]; exact Int.lt_ediv_add_one_mul_self _ p0
   have g1:0≤q:=by rw [hq]; exact Int.ediv_nonneg n1 (by omega)
   have g2:q < 9007199254740992:=by rw [hq,Int.ediv_lt_iff_lt_mul p0]; omega
   obtain⟨d,d1,d2,d3⟩:=num_int (q+1) k (by omega) (by omega) k1 k2
   rw [←hG] at d3
   have dn:0≤val d:=by rw [d3]; exact Int.mul_nonneg (by omega) (by omega)
   rcases Int.lt_or_le (val r.lo*SS) (val d*val d) with g | g
   · refine Int.lt_of_lt_of_le g (Int.mul_le_mul ?_ ?_ dn (by omega))
     · rw [d3,Int.add_mul,Int.one_mul]; omega
     · rw [d3,Int.add_mul,Int.one_mul]; omega
   · have:=n3 d d1 d2 dn g
     omega
theorem up_mul {s:Nat} {T:Int} {c:Nat} (h:Up s T c 0) {E:Int} {k:Nat} (k1:53≤k) (k2:k≤1899) (hs:0 < s) (hE:E=((2 ^ k:Nat):Int)) (h1:0≤val c) (h2:val c < 9007199254740992*E):val c*s < T+E*s:=by
 have p0:0 < E:=by rw [hE]; exact Int.natCast_pos.2 (Nat.two_pow_pos k)
 have g:=up_gap k1 k2 hs h (by rw [←hE]; omega) (by rw [←hE]; omega)
 rw [←hE,Int.sub_mul] at g
 omega
theorem down_mul {s:Nat} {T:Int} {c:Nat} (h:Down s T c 0) {E:Int} {k:Nat} (k1:53≤k) (k2:k≤1899) (hs:0 < s) (hE:E=((2 ^ k:Nat):Int)) (h1:0≤val c) (h2:val c < 9007199254740992*E):T < val c*s+E*s:=by
 have p0:0 < E:=by rw [hE]; exact Int.natCast_pos.2 (Nat.two_pow_pos k)
 have g:=down_gap k1 k2 hs h (by rw [←hE]; omega) (by rw [←hE]; omega)
 rw [←hE,Int.add_mul] at g
 omega
end
section
open Go.RowKit
structure Wid (r R:Res) (w:Int):Prop where
 has:In r R
 wide:val r.hi - val r.lo≤w
def magn (R:Res):Nat:=max (val R.lo).natAbs (val R.hi).natAbs
def gapK (R:Res):Nat:=max 53 ((magn R).log2+1 - 53)
def gapP (R:Res):Int:=((2 ^ gapK R:Nat):Int)
section
variable {r R:Res} (hk:gapK R≤1899) (h:In r R) {s:Nat} {T:Int} (hs:0 < s)
include hk h hs
end
theorem root_in {a A:Res} (ha:In a A) (fA:Fit A) (he:(sqrtR A).e=0):In (sqrtR a) (sqrtR A):=ask_in a A a A 7 (by decide) ha fA ha fA he
section
variable {a A b B:Res} {wa wb:Int} (ha:Wid a A wa) (fA:Fit A) (hb:Wid b B wb) (fB:Fit B)
include ha fA hb fB
end
section
variable {a A:Res} {wa:Int} (ha:Wid a A wa) (fA:Fit A)
include ha fA
end
end
section
open Go.RowKit
structure HasV (r:Res) (P T:Int):Prop where
 pos:0 < P
 low:val r.lo*P≤T*SS
 high:T*SS≤val r.hi*P
theorem SS0:0 < SS:=Int.natCast_pos.2 (Nat.two_pow_pos sq)
theorem HasV.hasP {r:Res} {P T:Int} (h:HasV r P T):HasP r P (T*SS):=⟨h.low,h.high⟩
theorem HasV.of {r:Res} {P T:Int} (hP:0 < P) (h:HasP r P (T*SS)):HasV r P T:=⟨hP,h.1,h.2⟩
theorem HasV.one (x:Nat):HasV (oneR x) SS (val x):=⟨SS0,Int.le_refl _,Int.le_refl _⟩
theorem HasV.scale {r:Res} {P T Q:Int} (h:HasV r P T) (hQ:0 < Q):HasV r (P*Q) (T*Q):=by
 refine ⟨Int.mul_pos h.pos hQ,?_,?_⟩
 · have k:=Int.mul_le_mul_of_nonneg_right h.low (Int.le_of_lt hQ)
   have e1:val r.lo*(P*Q)=val r.lo*P*Q:=by grind
   have e2:T*Q*SS=T*SS*Q:=by grind
   rw [e1,e2]; exact k
 · have k:=Int.mul_le_mul_of_nonneg_right h.high (Int.le_of_lt hQ)
   have e1:val r.hi*(P*Q)=val r.hi*P*Q:=by grind
   have e2:T*Q*SS=T*SS*Q:=by grind
   rw [e1,e2]; exact k
theorem HasV.turn {r:Res} {P T P' T':Int} (h:HasV r P T) (h1:P=P') (h2:T=T'):HasV r P' T':=by rw [←h1,←h2]; exact h
section
variable {r s:Res} {P T Q U:Int} (fr:Fit r) (fs:Fit s) (h:HasV r P T) (h':HasV s Q U)
include fr fs h h'
theorem HasV.mul (he:(mulR r s).e=0):HasV (mulR r s) (P*Q) (T*U):=by
 have k:=HasP.mul (Int.le_of_lt h.pos) (Int.le_of_lt h'.pos) fr fs h.hasP h'.hasP he
 refine ⟨Int.mul_pos h.pos h'.pos,?_,?_⟩
 · refine Int.le_of_mul_le_mul_right ?_ SS0
   have e1:val (mulR r s).lo*(P*Q)*SS=val (mulR r s).lo*(SS*(P*Q)):=by grind
   have e2:T*U*SS*SS=T*SS*(U*SS):=by grind
   rw [e1,e2]; exact k.1
 · refine Int.le_of_mul_le_mul_right ?_ SS0
   have e1:val (mulR r s).hi*(P*Q)*SS=val (mulR r s).hi*(SS*(P*Q)):=by grind
   have e2:T*U*SS*SS=T*SS*(U*SS):=by grind
   rw [e1,e2]; exact k.2
theorem HasV.add (he:(addR r s).e=0):HasV (addR r s) (P*Q) (T*Q+U*P):=by
 have a:=h.scale h'.pos
 have b:=(h'.scale h.pos).turn (Int.mul_comm Q P) rfl
 have k:=HasP.add (Int.le_of_lt a.pos) fr fs a.hasP b.hasP he
 rw [←Int.add_mul] at k
 exact .of a.pos k
theorem HasV.div (hs:0 < val s.lo) (he:(divR r s).e=0):0 < U∧HasV (divR r s) (P*U) (T*Q):=by
 have l1:=fs.le
 have l2:=fr.le
 have hU:0 < U:=by
   have k:0 < val s.lo*Q:=Int.mul_pos hs h'.pos
   have k2:=h'.low
   rcases Int.lt_or_le 0 U with g | g
   · exact g
   · have:U*SS≤0:=Int.mul_nonpos_of_nonpos_of_nonneg g (Int.le_of_lt SS0)
     omega
 have hz:hasB s.lo s.hi 0=false:=by
   rw [has_zero fs.lo fs.hi fs.iv]; exact decide_eq_false (by omega)
 have eI:divR r s=div1 r.lo r.hi s.lo s.hi:=by
   show divI r.lo r.hi s.lo s.hi=_
   unfold divI; rw [if_neg (by rw [hz]; exact Bool.false_ne_true)]
 have bl:ltB s.lo 0=false:=by unfold ltB; rw [val_nil]; exact decide_eq_false (by omega)
 have el:lowOf r.lo r.hi s.lo=r.lo:=by unfold lowOf; rw [if_neg (by rw [bl]; exact Bool.false_ne_true)]
 have eh:highOf r.lo r.hi s.lo=r.hi:=by unfold highOf; rw [if_neg (by rw [bl]; exact Bool.false_ne_true)]
 rw [eI] at he
 obtain⟨e1,e2,e3⟩:=tight_e he
 rw [el] at e1
 rw [eh] at e2
 have m1:(divR r s).lo=divW (lowOf r.lo r.hi s.lo) (endW s.lo s.hi (leB 0 (lowOf r.lo r.hi s.lo))) false:=by rw [eI]; exact congrArg Res.lo e3
 have m2:(divR r s).hi=divW (highOf r.lo r.hi s.lo) (endW s.lo s.hi (ltB (highOf r.lo r.hi s.lo) 0)) true:=by rw [eI]; exact congrArg Res.hi e3
 rw [el] at m1
 rw [eh] at m2
 have b1:leB 0 r.lo=decide (0≤val r.lo):=by unfold leB; rw [val_nil]
 have b2:ltB r.hi 0=decide (val r.hi < 0):=by unfold ltB; rw [val_nil]
 have eS:((2 ^ sq:Nat):Int)=SS:=rfl
 have QS:0 < Q*SS:=Int.mul_pos h'.pos SS0
 have US:0≤U*SS:=Int.mul_nonneg (Int.le_of_lt hU) (Int.le_of_lt SS0)
 refine ⟨hU,⟨Int.mul_pos h.pos hU,?_,?_⟩⟩
 · refine Int.le_of_mul_le_mul_right ?_ SS0
   have k0:val (divR r s).lo*(U*SS)≤val r.lo*SS*Q:=by
     rcases Int.lt_or_le (val r.lo) 0 with g | g
     · rw [b1,decide_eq_false (by omega)] at m1 e1
       obtain⟨y,y0,ey,d3,_⟩:=div_pos r.lo s.lo fr.rlo fs.lo fs.rlo hs false
       have d:=d3 rfl
       have e1':divE r.lo s.lo false=0:=e1
       have m1':(divR r s).lo=divW r.lo s.lo false:=m1
       rw [e1',←m1'] at d
       obtain⟨_,_,k1,_⟩:=d.ok
       rw [eS,ey] at k1
       have neg:val (divR r s).lo < 0:=by
         rcases Int.lt_or_le (val (divR r s).lo) 0 with c | c
         · exact c
         · have a1:0≤val (divR r s).lo*val s.lo:=Int.mul_nonneg c (by omega)
           have a2:val r.lo*SS < 0:=Int.mul_neg_of_neg_of_pos g SS0
           omega
       have k2:val (divR r s).lo*(U*SS)≤val (divR r s).lo*(val s.lo*Q):=Int.mul_le_mul_of_nonpos_left (by omega) h'.low
       have k3:=Int.mul_le_mul_of_nonneg_right k1 (Int.le_of_lt h'.pos)
       rw [Int.mul_assoc] at k3
       omega
     · rw [b1,decide_eq_true g] at m1 e1
       obtain⟨y,y0,ey,d3,_⟩:=div_pos r.lo s.hi fr.rlo fs.hi fs.rhi (by omega) false
       have d:=d3 rfl
       have e1':divE r.lo s.hi false=0:=e1
       have m1':(divR r s).lo=divW r.lo s.hi false:=m1
       rw [e1',←m1'] at d
       obtain⟨_,_,k1,kb⟩:=d.ok
       have nn:0≤val (divR r s).lo:=by
         have:=kb 0 (by decide) right_0 (by rw [val_nil,Int.zero_mul]; exact Int.mul_nonneg g (Int.le_of_lt SS0))
         rw [val_nil] at this; exact this
       rw [eS,ey] at k1
       have k2:val (divR r s).lo*(U*SS)≤val (divR r s).lo*(val s.hi*Q):=Int.mul_le_mul_of_nonneg_left h'.high nn
       have k3:=Int.mul_le_mul_of_nonneg_right k1 (Int.le_of_lt h'.pos)
       rw [Int.mul_assoc] at k3
       omega
   have k4:=Int.mul_le_mul_of_nonneg_right k0 (Int.le_of_lt h.pos)
   have k5:=Int.mul_le_mul_of_nonneg_right h.low (Int.le_of_lt QS)
   have a1:val (divR r s).lo*(P*U)*SS=val (divR r s).lo*(U*SS)*P:=by grind
   have a2:val r.lo*SS*Q*P=val r.lo*P*(Q*SS):=by grind
   have a3:T*SS*(Q*SS)=T*Q*SS*SS:=by grind
   omega
 · refine Int.le_of_mul_le_mul_right ?_ SS0
   have k0:val r.hi*SS*Q≤val (divR r s).hi*(U*SS):=by
     rcases Int.lt_or_le (val r.hi) 0 with g | g
     · rw [b2,decide_eq_true g] at m2 e2
       obtain⟨y,y0,ey,_,u4⟩:=div_pos r.hi s.hi fr.rhi fs.hi fs.rhi (by omega) true
       have u:=u4 rfl
       have e2':divE r.hi s.hi true=0:=e2
       have m2':(divR r s).hi=divW r.hi s.hi true:=m2
       rw [e2',←m2'] at u
       obtain⟨_,_,k1,kb⟩:=u.ok
       have np:val (divR r s).hi≤0:=by
         have:=kb 0 (by decide) right_0 (by rw [val_nil,Int.zero_mul]; exact Int.mul_nonpos_of_nonpos_of_nonneg (by omega) (Int.le_of_lt SS0))
         rw [val_nil] at this; exact this
       rw [eS,ey] at k1
       have k2:val (divR r s).hi*(val s.hi*Q)≤val (divR r s).hi*(U*SS):=Int.mul_le_mul_of_nonpos_left np h'.high
       have k3:=Int.mul_le_mul_of_nonneg_right k1 (Int.le_of_lt h'.pos)
       rw [Int.mul_assoc (val (divR r s).hi)] at k3
       omega
     · rw [b2,decide_eq_false (by omega)] at m2 e2
       obtain⟨y,y0,ey,_,u4⟩:=div_pos r.hi s.lo fr.rhi fs.lo fs.rlo hs true
       have u:=u4 rfl
       have e2':divE r.hi s.lo true=0:=e2
       have m2':(divR r s).hi=divW r.hi s.lo true:=m2
       rw [e2',←m2'] at u
       obtain⟨_,_,k1,_⟩:=u.ok
       rw [eS,ey] at k1
       have nn:0≤val (divR r s).hi:=by
         rcases Int.lt_or_le (val (divR r s).hi) 0 with c | c
         · have a1:val (divR r s).hi*val s.lo < 0:=Int.mul_neg_of_neg_of_pos c hs
           have a2:0≤val r.hi*SS:=Int.mul_nonneg g (Int.le_of_lt SS0)
           omega
         · exact c
       have k2:val (divR r s).hi*(val s.lo*Q)≤val (divR r s).hi*(U*SS):=Int.mul_le_mul_of_nonneg_left h'.low nn
       have k3:=Int.mul_le_mul_of_nonneg_right k1 (Int.le_of_lt h'.pos)
       rw [Int.mul_assoc (val (divR r s).hi)] at k3
       omega
   have k4:=Int.mul_le_mul_of_nonneg_right k0 (Int.le_of_lt h.pos)
   have k5:=Int.mul_le_mul_of_nonneg_right h.high (Int.le_of_lt QS)
   have a1:val (divR r s).hi*(P*U)*SS=val (divR r s).hi*(U*SS)*P:=by grind
   have a2:val r.hi*SS*Q*P=val r.hi*P*(Q*SS):=by grind
   have a3:T*SS*(Q*SS)=T*Q*SS*SS:=by grind
   omega
end
section
variable {r:Res} {P T:Int} (fr:Fit r) (h:HasV r P T)
include fr h
theorem HasV.sqr (he:(sqrR r).e=0):HasV (sqrR r) (P*P) (T*T):=by
 have k:=HasP.sqr (Int.le_of_lt h.pos) fr h.hasP he
 refine ⟨Int.mul_pos h.pos h.pos,?_,?_⟩
 · refine Int.le_of_mul_le_mul_right ?_ SS0
   have e1:val (sqrR r).lo*(P*P)*SS=val (sqrR r).lo*(SS*(P*P)):=by grind
   have e2:T*T*SS*SS=T*SS*(T*SS):=by grind
   rw [e1,e2]; exact k.1
 · refine Int.le_of_mul_le_mul_right ?_ SS0
   have e1:val (sqrR r).hi*(P*P)*SS=val (sqrR r).hi*(SS*(P*P)):=by grind
   have e2:T*T*SS*SS=T*SS*(T*SS):=by grind
   rw [e1,e2]; exact k.2
end
end
section
open Go.RowKit
def unI:Res:=⟨0,0,u1⟩
def valueR (a:Res):Res:=divR a piR
theorem un_fit:Fit unI:=.of (by decide +kernel)
theorem un_value:Fit (valueR unI):=.of (by decide +kernel)
section
variable {a A c C:Res}
theorem value_fit (ha:In a unI):Fit (valueR a):=(div_in ha un_fit (.refl big_fit.1) big_fit.1 un_value.e).fit
end
section
variable {a c:Res}
end
end
section
open Go.RowKit
attribute [local go_sem] run_store_float
section
variable {a c:Res}
theorem lcheck1_ok (i:In a unI) (q:Nat) (v:World) (h:Has1 v (q,#[a.lo,a.hi])) :
  Calls Tryz.prog 222 #[.slice (some ⟨q,0,none⟩) 1 1] v (Rt (.int .i64 0) v):=
 lcheck1_walk q a.lo a.hi true false false v h (Hd (right_in i.fit)) (lt_in i un_fit) (gt_in i un_fit)
theorem over_any (i:In a unI) (w:World):Calls Tryz.prog 196 #[.agg #[a.lo,a.hi]] w (Rt (.tuple #[.agg #[.float .f64 (valueR a).lo,.float .f64 (valueR a).hi],true]) w):=
 overPi_walk a.lo a.hi _ _ 0 w (Hd fun p s v hp hs=>computed_over a.lo a.hi _ _ 0 p s v hp (Hd fun u hb=>lcheck1_ok i s u (hs.below hb))
  (Hd fun pb u hC hP n=>overLit_walk a.lo a.hi piR.lo piR.hi (valueR a).lo (valueR a).hi 0 pb p u hC hP n (Hd fun w=>pi_any w) (Hd fun pb=>calc_div i.fit big_fit.1 (value_fit i) pb)))
theorem value_any (i:In a unI) (w:World):Calls Tryz.prog 181 #[.agg #[a.lo,a.hi]] w (Rt (.tuple #[.agg #[.float .f64 (valueR a).lo,.float .f64 (valueR a).hi],true]) w):=
 value_walk a.lo a.hi _ _ 0 w (Hd fun w=>over_any i w)
theorem density_any (i:In a unI) (w:World):Calls Tryz.prog 183 #[.agg #[a.lo,a.hi]] w (Rt (.tuple #[.agg #[.float .f64 (valueR a).lo,.float .f64 (valueR a).hi],true]) w):=
 density_walk a.lo a.hi _ _ 0 w (Hd fun w=>over_any i w)
end
end
end Go.Proofs.YtnaomilkgfkegaaGreat
