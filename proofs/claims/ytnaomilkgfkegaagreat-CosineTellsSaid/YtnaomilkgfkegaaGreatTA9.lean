/- What the claim stands on, part 10: NearD, UnitM, NearR, Fair, SidesA, UoA. -/
import Derived.Test.YtnaomilkgfkegaaGreatTA8
import Derived.Laws.FloatArith
import Derived.Laws.Cover2
import Derived.Test.YtnaomilkgfkegaaGreatTA6
import Derived.Test.YtnaomilkgfkegaaGreatTA0
import Derived.Test.YtnaomilkgfkegaaGreatTA7
set_option maxHeartbeats 400000
set_option maxRecDepth 100000
namespace Go.Proofs.YtnaomilkgfkegaaGreat
section
open Go.RowKit
theorem grain2 (r q E:Nat) (hq:9007199254740992≤q):steps r*2 ^ sc≤q*2 ^ E∨∃ t,steps r*2 ^ sc=t*2 ^ E:=by
 obtain⟨u,k,h1,h2⟩:=steps_form r
 rw [h1,Nat.mul_assoc,←Nat.pow_add]
 rcases Nat.lt_or_ge (k+sc) E with g | g
 · left
   have a1:2 ^ (k+sc)≤2 ^ E:=Nat.pow_le_pow_right (by decide) (by omega)
   exact Nat.mul_le_mul (by omega) a1
 · right
   refine ⟨u*2 ^ (k+sc - E),?_⟩
   rw [Nat.mul_assoc,←Nat.pow_add]
   congr 2; omega
theorem cell_mark (Y q P P' N o m:Nat) (hY:Y≤q*P∨∃ t,Y=t*P) (hP:P=2*P') (hP':0 < P') (ho:o < N) (hm:m≤1) (hz:o=0↔m=0) :
   (Y*N≤(q*N+o)*P↔Y≤q*P+m*P')∧((q*N+o)*P≤Y*N↔q*P+m*P'≤Y):=by
 have hNp:0 < N:=by omega
 have hPp:0 < P:=by omega
 have hmP:m*P' < P:=by
   have:=Nat.mul_le_mul_right P' hm
   omega
 by_cases hc:Y≤q*P
 · have h1:Y*N≤q*N*P:=by rw [Nat.mul_right_comm]; exact Nat.mul_le_mul_right _ hc
   rw [Nat.add_mul]
   refine ⟨⟨fun _=>by omega,fun _=>by omega⟩,?_⟩
   constructor
   · intro h
     have ho0:o*P=0:=by omega
     have ho1:o=0:=by rcases Nat.mul_eq_zero.1 ho0 with g | g <;> omega
     have hm0:=hz.1 ho1
     subst ho1; subst hm0
     have h2:q*P*N≤Y*N:=by rw [Nat.mul_right_comm]; omega
     have:=Nat.le_of_mul_le_mul_right h2 hNp
     omega
   · intro h
     have hm0:m*P'=0:=by omega
     have hm1:m=0:=by rcases Nat.mul_eq_zero.1 hm0 with g | g <;> omega
     have ho0:=hz.2 hm1
     subst ho0; subst hm1
     have h2:q*P≤Y:=by omega
     have h3:=Nat.mul_le_mul_right N h2
     rw [Nat.mul_right_comm] at h3
     omega
 · obtain⟨t,rfl⟩:∃ t,Y=t*P:=by
     rcases hY with h | h
     · exact absurd h hc
     · exact h
   have ht:q+1≤t:=by
     rcases Nat.lt_or_ge q t with g | g
     · exact g
     · exact absurd (Nat.mul_le_mul_right P g) hc
   have h1:(q+1)*P≤t*P:=Nat.mul_le_mul_right _ ht
   have h2:(q+1)*N≤t*N:=Nat.mul_le_mul_right _ ht
   rw [Nat.add_mul,Nat.one_mul] at h1 h2
   have h3:q*N+o < t*N:=by omega
   have h4:(q*N+o)*P < t*P*N:=by rw [Nat.mul_right_comm]; exact Nat.mul_lt_mul_of_pos_right h3 hPp
   refine ⟨⟨fun h=>by omega,fun h=>by omega⟩,⟨fun _=>by omega,fun _=>by omega⟩⟩
theorem div_mark (a b:Nat) (xa:-1074≤expo a) (xa1:expo a≤971) (xb:-1074≤expo b) (xb1:expo b≤971) (hm0:mant a≠0) (hn0:mant b≠0) (more:Nat) (hmore:more=54+(mant b).log2 - (mant a).log2) (r:Nat) :
   (steps r*steps (rung b)≤steps (rung a)*2 ^ sq↔steps r*2 ^ sc≤real (2*(mant a*2 ^ more / mant b)+(mant a*2 ^ more % mant b != 0).toNat) (expo a - expo b - more - 1)) ∧
   (steps (rung a)*2 ^ sq≤steps r*steps (rung b)↔real (2*(mant a*2 ^ more / mant b)+(mant a*2 ^ more % mant b != 0).toNat) (expo a - expo b - more - 1)≤steps r*2 ^ sc):=by
 have hs:=sc_eq
 have hq:=sq_eq
 have la:(mant a).log2 < 53:=(Nat.log2_lt hm0).2 (mant_lt a)
 have lb:(mant b).log2 < 53:=(Nat.log2_lt hn0).2 (mant_lt b)
 have hsum:(mant a).log2+more=54+(mant b).log2:=by omega
 have hbig:9007199254740992≤mant a*2 ^ more / mant b:=by
   rw [Nat.le_div_iff_mul_le (Nat.pos_of_ne_zero hn0)]
   have h1:mant b < 2 ^ ((mant b).log2+1):=Nat.lt_log2_self
   have h2:2 ^ (mant a).log2≤mant a:=Nat.log2_self_le hm0
   have h3:9007199254740992*mant b≤9007199254740992*2 ^ ((mant b).log2+1):=Nat.mul_le_mul_left _ (Nat.le_of_lt h1)
   have e53:(9007199254740992:Nat)=2 ^ 53:=by decide
   have h4:9007199254740992*2 ^ ((mant b).log2+1)=2 ^ (mant a).log2*2 ^ more:=by
     rw [e53,←Nat.pow_add,←Nat.pow_add]; congr 1; omega
   have h5:2 ^ (mant a).log2*2 ^ more≤mant a*2 ^ more:=Nat.mul_le_mul_right _ h2
   rw [h4] at h3
   exact Nat.le_trans h3 h5
 have eE:(expo a - expo b - (more:Int)+1074+(sc:Int)).toNat=(expo a - expo b - (more:Int) - 1+1074+(sc:Int)).toNat+1:=by omega
 have eP:2 ^ (expo a - expo b - (more:Int)+1074+(sc:Int)).toNat=2*2 ^ (expo a - expo b - (more:Int) - 1+1074+(sc:Int)).toNat:=by
   rw [eE,Nat.pow_succ,Nat.mul_comm]
 have hcell:=cell_mark (steps r*2 ^ sc) _ _ _ (mant b) (mant a*2 ^ more % mant b) ((mant a*2 ^ more % mant b != 0).toNat)
   (grain2 r _ _ hbig) eP (Nat.two_pow_pos _) (Nat.mod_lt _ (Nat.pos_of_ne_zero hn0)) (by cases (mant a*2 ^ more % mant b != 0) <;> decide)
   (by
     by_cases c:mant a*2 ^ more % mant b=0
     · simp [c]
     · simp [c])
 have hZ:mant a*2 ^ more / mant b*mant b+mant a*2 ^ more % mant b=mant a*2 ^ more:=by
   rw [Nat.mul_comm (_ / _)]; exact Nat.div_add_mod _ _
 rw [hZ] at hcell
 have hR:real (2*(mant a*2 ^ more / mant b)+(mant a*2 ^ more % mant b != 0).toNat) (expo a - expo b - more - 1)=mant a*2 ^ more / mant b*2 ^ (expo a - expo b - (more:Int)+1074+(sc:Int)).toNat+(mant a*2 ^ more % mant b != 0).toNat*2 ^ (expo a - expo b - (more:Int) - 1+1074+(sc:Int)).toNat:=by
   unfold real
   rw [Nat.add_mul,eP,Nat.mul_assoc,Nat.mul_left_comm]
 rw [hR]
 have hsc:=iff_scale (steps r*steps (rung b)) (steps (rung a)*2 ^ sq) (steps r*2 ^ sc*mant b) (mant a*2 ^ more*2 ^ (expo a - expo b - (more:Int)+1074+(sc:Int)).toNat)
   (2 ^ sc) (2 ^ (expo b+1074).toNat) (Nat.two_pow_pos _) (Nat.two_pow_pos _)
   (by rw [steps_parts b]; simp only [Nat.mul_assoc,Nat.mul_comm,Nat.mul_left_comm])
   (by
     rw [steps_parts a]
     simp only [Nat.mul_assoc,←Nat.pow_add]
     congr 2
     omega)
 exact ⟨hsc.1.trans hcell.1,hsc.2.trans hcell.2⟩
theorem div_beside (a b:Nat) (ha:a < 18446744073709551616) (hb:b < 18446744073709551616) (ra:rightB a=true) (rb:rightB b=true) (hb0:b≠0) :
   ∃ r,floatBits .quo .f64 a b=some r∧Beside (steps (rung b)) (sg (!(sgnB a == sgnB b)) (steps (rung a)*2 ^ sq)) r:=by
 have xa:=expo_in a ra
 have xb:=expo_in b rb
 have hrb:rung b≠0:=by
   have:=right_ne b rb
   unfold rung at *
   omega
 have hB:0 < steps (rung b):=by
   rcases Nat.eq_zero_or_pos (steps (rung b)) with h | h
   · exact absurd ((steps_zero _).1 h) hrb
   · exact h
 have hn0:mant b≠0:=by
   intro h
   rw [steps_parts,h,Nat.zero_mul] at hB
   omega
 have hx:(sgnB a ^^ sgnB b)=!(sgnB a == sgnB b):=by cases sgnB a <;> cases sgnB b <;> rfl
 obtain⟨more,hmore⟩:∃ more,more=54+(mant b).log2 - (mant a).log2:=⟨_,rfl⟩
 refine ⟨Ieee.double.nearest (sgnB a ^^ sgnB b) (2*(mant a*2 ^ more / mant b)+(mant a*2 ^ more % mant b != 0).toNat) (expo a - expo b - more - 1),?_,?_⟩
 · show ((Ieee.double.read a).quotient (Ieee.double.fractionBits+2) (Ieee.double.read b)).map Ieee.double.write=_
   rw [read_num a ha (right_rung a ra),read_num b hb (right_rung b rb)]
   unfold Ieee.Datum.quotient
   simp only [if_neg hn0,Nat.shiftLeft_eq]
   have e:Ieee.double.fractionBits+2+(mant b).log2 - (mant a).log2=more:=by rw [hmore]; rfl
   rw [e]
   rfl
 · rw [←hx]
   by_cases hm0:mant a=0
   · have hA:steps (rung a)=0:=by rw [steps_parts,hm0,Nat.zero_mul]
     have hM:2*(mant a*2 ^ more / mant b)+(mant a*2 ^ more % mant b != 0).toNat=0:=by
       rw [hm0,Nat.zero_mul,Nat.zero_div,Nat.zero_mod]; rfl
     have hR:real 0 (expo a - expo b - more - 1)=0:=Nat.zero_mul _
     have hm1:more≤107:=by
       have lb:(mant b).log2 < 53:=(Nat.log2_lt hn0).2 (mant_lt b)
       omega
     rw [hM,hA,Nat.zero_mul]
     refine beside_near _ _ _ _ _ hB (by omega) (fun r=>?_) (fun r=>?_)
     · rw [hR,Nat.le_zero,Nat.le_zero,Nat.mul_eq_zero,Nat.mul_eq_zero]
       have:=Nat.two_pow_pos sc
       constructor
       · rintro (h | h)
         · exact Or.inl h
         · omega
       · rintro (h | h)
         · exact Or.inl h
         · omega
     · rw [hR]; exact ⟨fun _=>Nat.zero_le _,fun _=>Nat.zero_le _⟩
   · have la:(mant a).log2 < 53:=(Nat.log2_lt hm0).2 (mant_lt a)
     have lb:(mant b).log2 < 53:=(Nat.log2_lt hn0).2 (mant_lt b)
     exact beside_near _ _ _ _ _ hB (by omega) (fun r=>(div_mark a b xa.1 xa.2 xb.1 xb.2 hm0 hn0 more hmore r).1) (fun r=>(div_mark a b xa.1 xa.2 xb.1 xb.2 hm0 hn0 more hmore r).2)
end
section
open Go.RowKit
theorem num_at (m k:Nat) (hm:m < 9007199254740992) (h1:53≤k) (h2:k≤1900):∃ r,r < 9218868437227405312∧steps r=m*2 ^ k:=by
 by_cases h0:m=0
 · subst h0; exact ⟨0,by decide,by rw [Nat.zero_mul]; rfl⟩
 · have l1:2 ^ m.log2≤m:=Nat.log2_self_le h0
   have l2:m < 2 ^ (m.log2+1):=Nat.lt_log2_self
   have e53:(9007199254740992:Nat)=2 ^ 53:=by decide
   have e52:(4503599627370496:Nat)=2 ^ 52:=by decide
   have hl:m.log2 < 53:=(Nat.pow_lt_pow_iff_right (by decide:1 < 2)).1 (by omega)
   obtain⟨j,hj⟩:∃ j,j=52 - m.log2:=⟨_,rfl⟩
   have b1:m*2 ^ j < 9007199254740992:=by
     have h:=Nat.mul_lt_mul_of_pos_right l2 (Nat.two_pow_pos j)
     rw [←Nat.pow_add,show m.log2+1+j=53 by omega] at h
     omega
   have b2:4503599627370496≤m*2 ^ j:=by
     have h:=Nat.mul_le_mul_right (2 ^ j) l1
     rw [←Nat.pow_add,show m.log2+j=52 by omega] at h
     omega
   refine ⟨(k - j)*4503599627370496+m*2 ^ j,by omega,?_⟩
   rw [steps_km _ _ (by omega) (Or.inr b2),Nat.mul_assoc,←Nat.pow_add]
   congr 2; omega
theorem pos_facts (c:Nat) (h:c < 9218868437227405312):c < 18446744073709551616∧rightB c=true∧sgnB c=false∧rung c=c∧val c=(steps c:Int):=by
 obtain⟨f1,f2,f3⟩:=sw_facts false c (by omega)
 rw [sw_false] at f1 f2 f3
 refine ⟨f1,f2,?_,?_,f3⟩
 · unfold sgnB; exact decide_eq_false (by omega)
 · unfold rung; omega
theorem pos_word (c:Nat) (hc:c < 18446744073709551616) (rc:rightB c=true) (h:0≤val c):c < 9218868437227405312:=by
 have h1:=right_rung c rc
 have h2:sgnB c≠true:=fun h'=>by have:=(val_neg c hc rc).2 h'; omega
 have h3:¬ 9223372036854775808≤c:=fun h'=>h2 (by unfold sgnB; exact decide_eq_true h')
 unfold rung at h1
 omega
theorem from_int (n:Nat) (h:n < 9007199254740992):FloatKind.f64.nearest (n:Int) < 9218868437227405312∧steps (FloatKind.f64.nearest (n:Int))=n*2 ^ sq:=by
 by_cases h0:n=0
 · subst h0
   have e:FloatKind.f64.nearest ((0:Nat):Int)=0:=by decide +kernel
   rw [e,Nat.zero_mul]; exact ⟨by decide,rfl⟩
 · have e:FloatKind.f64.nearest (n:Int)=Ieee.double.nearest false n 0:=by
     unfold FloatKind.nearest FloatKind.encode Ieee.Format.write
     rw [fmt64]
     have:decide ((n:Int) < 0)=false:=decide_eq_false (by omega)
     simp only [this,Int.natAbs_natCast]
   have hq:=sq_eq
   have hs:=sc_eq
   obtain⟨R,r1,r2,r3⟩:=near_rung false n 0 h0 (by omega)
   obtain⟨r,hr,hv⟩:=num_at n sq h (by omega) (by omega)
   have er:real n 0=steps r*2 ^ sc:=by
     unfold real
     rw [hv,Nat.mul_assoc,←Nat.pow_add]
     congr 2
   have q1:=r2 r (by rw [er]; exact Nat.le_refl _)
   have q2:=r3 r (by rw [er]; exact Nat.le_refl _)
   have hR:R=r:=by omega
   rw [e,r1,hR,Nat.min_eq_left (by omega)]
   exact ⟨hr,hv⟩
theorem mul_exact (a b c:Nat) (ha:a < 18446744073709551616) (hb:b < 18446744073709551616) (ra:rightB a=true) (rb:rightB b=true) (hc:c < 9218868437227405312) (h0:c≠0) (h:val c*((2 ^ sq:Nat):Int)=val a*val b):floatBits .mul .f64 a b=some c:=by
 obtain⟨c1,c2,_,_,c5⟩:=pos_facts c hc
 obtain⟨r,hr,hB⟩:=mul_beside a b ha hb ra rb
 have hp:(0:Int) < ((2 ^ sq:Nat):Int):=Int.natCast_pos.2 (Nat.two_pow_pos _)
 obtain⟨b1,b2,b3⟩:=hB c c (Or.inl ⟨rfl,c1,c2,by omega,fun d _ _ hd=>Int.le_of_mul_le_mul_right (by omega:val d*((2 ^ sq:Nat):Int)≤val c*((2 ^ sq:Nat):Int)) hp⟩)
   (Or.inl ⟨rfl,c1,c2,by omega,fun d _ _ hd=>Int.le_of_mul_le_mul_right (by omega:val c*((2 ^ sq:Nat):Int)≤val d*((2 ^ sq:Nat):Int)) hp⟩)
 have hv:val r=val c:=by rcases b3 with h | h <;> exact h
 have hpos:0 < steps c:=by
   rcases Nat.eq_zero_or_pos (steps c) with h | h
   · exact absurd ((steps_zero c).1 h) h0
   · exact h
 have rr:rightB r=true:=by
   unfold rightB
   rw [decide_eq_true (show r % 9223372036854775808 < 9218868437227405312 from b2),decide_eq_false]
   · rfl
   · intro h
     subst h
     have:val 9223372036854775808=0:=by decide
     omega
 rw [hr,val_inj b1 c1 rr c2 hv]
theorem Down.exact {s:Nat} {T:Int} {x c:Nat} {e:Int} (hd:Down s T x e) (hs:0 < s) (hc:c < 9218868437227405312) (h:val c*(s:Int)=T):e=0∧x=c:=by
 obtain⟨c1,c2,_,_,_⟩:=pos_facts c hc
 rcases hd with ⟨he,x1,x2,x3,x4⟩ | ⟨_,_,g⟩
 · have hp:(0:Int) < (s:Int):=by omega
   have h1:=x4 c c1 c2 (by omega)
   have h2:val x≤val c:=Int.le_of_mul_le_mul_right (by omega:val x*(s:Int)≤val c*(s:Int)) hp
   exact ⟨he,val_inj x1 c1 x2 c2 (by omega)⟩
 · have:=g c c1 c2; omega
def dr:Nat:=1010
theorem dr_eq:dr=1010:=rfl
theorem one_dr:(2:Nat) ^ sq=18446744073709551616*2 ^ dr:=by
 rw [show (18446744073709551616:Nat)=2 ^ 64 by decide,←Nat.pow_add,show 64+dr=sq from rfl]
def partW (n:Int) (X:Nat):Nat:=(floatBits .mul .f64 (floatOfInt .f64 n) X).getD 0
theorem part_word (n k X:Nat) (hn:n < 9007199254740992) (h1:53≤k) (h2:k≤1900) (hX:X < 9218868437227405312) (hv:steps X=2 ^ k) (hz:floatBits .mul .f64 0 X=some 0) :
   floatBits .mul .f64 (floatOfInt .f64 (n:Int)) X=some (partW n X)∧partW n X < 9218868437227405312∧steps (partW n X)=n*2 ^ k:=by
 obtain⟨f1,f2⟩:=from_int n hn
 by_cases h0:n=0
 · subst h0
   have e:FloatKind.f64.nearest ((0:Nat):Int)=0:=by decide +kernel
   unfold partW floatOfInt
   rw [e,hz,Nat.zero_mul]
   exact ⟨rfl,by decide,rfl⟩
 · obtain⟨c,hc,hcv⟩:=num_at n k hn h1 h2
   obtain⟨a1,a2,_,_,a5⟩:=pos_facts _ f1
   obtain⟨x1,x2,_,_,x5⟩:=pos_facts X hX
   obtain⟨_,_,_,_,c5⟩:=pos_facts c hc
   have hne:c≠0:=by
     intro h
     subst h
     have h3:n*2 ^ k=0:=hcv.symm
     rcases Nat.mul_eq_zero.1 h3 with h | h
     · omega
     · have:=Nat.two_pow_pos k; omega
   have hm:=mul_exact (FloatKind.f64.nearest (n:Int)) X c a1 x1 a2 x2 hc hne (by
     rw [a5,x5,c5,f2,hv,hcv,←Int.natCast_mul,←Int.natCast_mul,Nat.mul_right_comm])
   unfold partW floatOfInt
   rw [hm]
   exact ⟨rfl,hc,hcv⟩
def ofLo (u:Nat):Nat:=addW (partW ((u / 4294967296:Nat):Int) 4463067230724161536) (partW ((u % 4294967296:Nat):Int) 4318952042648305664) false
def ofHi (u:Nat):Nat:=addW (partW ((u / 4294967296:Nat):Int) 4463067230724161536) (partW ((u % 4294967296:Nat):Int) 4318952042648305664) true
theorem part_high (u:Nat) (hu:u < 18446744073709551616):floatBits .mul .f64 (floatOfInt .f64 ((u / 4294967296:Nat):Int)) 4463067230724161536=some (partW ((u / 4294967296:Nat):Int) 4463067230724161536)∧partW ((u / 4294967296:Nat):Int) 4463067230724161536 < 9218868437227405312∧steps (partW ((u / 4294967296:Nat):Int) 4463067230724161536)=u / 4294967296*2 ^ (dr+32):=
 part_word (u / 4294967296) (dr+32) 4463067230724161536 (by omega) (by rw [dr_eq]; decide) (by rw [dr_eq]; decide) (by decide) (by decide +kernel) (by decide +kernel)
theorem part_low (u:Nat):floatBits .mul .f64 (floatOfInt .f64 ((u % 4294967296:Nat):Int)) 4318952042648305664=some (partW ((u % 4294967296:Nat):Int) 4318952042648305664)∧partW ((u % 4294967296:Nat):Int) 4318952042648305664 < 9218868437227405312∧steps (partW ((u % 4294967296:Nat):Int) 4318952042648305664)=u % 4294967296*2 ^ dr:=
 part_word (u % 4294967296) dr 4318952042648305664 (by omega) (by rw [dr_eq]; decide) (by rw [dr_eq]; decide) (by decide) (by decide +kernel) (by decide +kernel)
theorem val_one:val 4607182418800017408=((2 ^ sq:Nat):Int):=by decide +kernel
theorem of_tight (u:Nat) (hu:u < 18446744073709551616):Down 1 ((u*2 ^ dr:Nat):Int) (ofLo u) 0∧Up 1 ((u*2 ^ dr:Nat):Int) (ofHi u) 0 ∧
   addE (partW ((u / 4294967296:Nat):Int) 4463067230724161536) (partW ((u % 4294967296:Nat):Int) 4318952042648305664) false=0∧addE (partW ((u / 4294967296:Nat):Int) 4463067230724161536) (partW ((u % 4294967296:Nat):Int) 4318952042648305664) true=0:=by
 obtain⟨_,a2,a3⟩:=part_high u hu
 obtain⟨_,b2,b3⟩:=part_low u
 obtain⟨_,ar,_,_,av⟩:=pos_facts _ a2
 obtain⟨_,br,_,_,bv⟩:=pos_facts _ b2
 have hT:val (partW ((u / 4294967296:Nat):Int) 4463067230724161536)+val (partW ((u % 4294967296:Nat):Int) 4318952042648305664)=((u*2 ^ dr:Nat):Int):=by
   rw [av,bv,a3,b3,←Int.natCast_add,Nat.pow_add,Nat.mul_comm (2 ^ dr),←Nat.mul_assoc,←Nat.add_mul]
   congr 2; omega
 have hd:=add_down _ _ ar br
 have hup:=add_up _ _ ar br
 rw [hT] at hd hup
 have e1:addE (partW ((u / 4294967296:Nat):Int) 4463067230724161536) (partW ((u % 4294967296:Nat):Int) 4318952042648305664) false=0:=by
   rcases hd with ⟨h,_⟩ | ⟨_,_,g⟩
   · exact h
   · have:=g 0 (by decide) (by decide)
     rw [val_0] at this; omega
 have e2:addE (partW ((u / 4294967296:Nat):Int) 4463067230724161536) (partW ((u % 4294967296:Nat):Int) 4318952042648305664) true=0:=by
   rcases hup with ⟨h,_⟩ | ⟨_,_,g⟩
   · exact h
   · have:=g 4607182418800017408 (by decide) (by decide)
     rw [val_one,one_dr] at this
     have h2:u*2 ^ dr≤18446744073709551616*2 ^ dr:=Nat.mul_le_mul_right _ (by omega)
     omega
 rw [e1] at hd
 rw [e2] at hup
 exact ⟨hd,hup,e1,e2⟩
def bnd (w:Nat):Nat:=steps w / 2 ^ dr
end
section
open Go.RowKit
theorem rootFrom_is (n:Nat):∀ (todo root:Nat),root*root≤n→n < (root+2 ^ todo)*(root+2 ^ todo) →
   Ieee.Datum.rootFrom n todo root*Ieee.Datum.rootFrom n todo root≤n∧n < (Ieee.Datum.rootFrom n todo root+1)*(Ieee.Datum.rootFrom n todo root+1)
 | 0,root,h1,h2=>⟨h1,by rw [Nat.pow_zero] at h2; exact h2⟩
 | todo+1,root,h1,h2=>by
   unfold Ieee.Datum.rootFrom
   simp only [Nat.shiftLeft_eq,Nat.one_mul]
   have e:root+2 ^ (todo+1)=root+2 ^ todo+2 ^ todo:=by rw [Nat.pow_succ]; omega
   rw [e] at h2
   by_cases c:(root+2 ^ todo)*(root+2 ^ todo)≤n
   · rw [if_pos c]
     exact rootFrom_is n todo _ c h2
   · rw [if_neg c]
     exact rootFrom_is n todo _ h1 (by omega)
theorem whole_root (n:Nat) (h0:n≠0):Ieee.Datum.rootFrom n (n.log2 / 2+1) 0*Ieee.Datum.rootFrom n (n.log2 / 2+1) 0≤n∧n < (Ieee.Datum.rootFrom n (n.log2 / 2+1) 0+1)*(Ieee.Datum.rootFrom n (n.log2 / 2+1) 0+1):=by
 refine rootFrom_is n _ 0 (by omega) ?_
 rw [Nat.zero_add,←Nat.pow_add]
 exact (Nat.log2_lt h0).1 (by omega)
theorem root_mark (a:Nat) (xa:-1074≤expo a) (xa1:expo a≤971) (hm0:mant a≠0) (more whole:Nat) (hm1:108≤(mant a).log2+more) (hm2:more≤110) (hpar:(expo a - more) % 2=0)
   (w1:whole*whole≤mant a*2 ^ more) (w2:mant a*2 ^ more < (whole+1)*(whole+1)) (r:Nat) :
   (steps r*steps r≤steps (rung a)*2 ^ sq↔steps r*2 ^ sc≤real (2*whole+(whole*whole != mant a*2 ^ more).toNat) ((expo a - more) / 2 - 1)) ∧
   (steps (rung a)*2 ^ sq≤steps r*steps r↔real (2*whole+(whole*whole != mant a*2 ^ more).toNat) ((expo a - more) / 2 - 1)≤steps r*2 ^ sc):=by
 have hs:=sc_eq
 have hq:=sq_eq
 have hbig:9007199254740992≤whole:=by
   have h2:2 ^ (mant a).log2≤mant a:=Nat.log2_self_le hm0
   have h3:2 ^ 108≤2 ^ (mant a).log2*2 ^ more:=by rw [←Nat.pow_add]; exact Nat.pow_le_pow_right (by decide) hm1
   have h4:2 ^ (mant a).log2*2 ^ more≤mant a*2 ^ more:=Nat.mul_le_mul_right _ h2
   have h5:9007199254740992*9007199254740992≤2 ^ 108:=by decide
   have:=sq_lt (Nat.lt_of_le_of_lt (Nat.le_trans h5 (Nat.le_trans h3 h4)) w2)
   omega
 have eE:((expo a - (more:Int)) / 2+1074+(sc:Int)).toNat=((expo a - (more:Int)) / 2 - 1+1074+(sc:Int)).toNat+1:=by omega
 have eP:2 ^ ((expo a - (more:Int)) / 2+1074+(sc:Int)).toNat=2*2 ^ ((expo a - (more:Int)) / 2 - 1+1074+(sc:Int)).toNat:=by
   rw [eE,Nat.pow_succ,Nat.mul_comm]
 have hcell:=cell_root (steps r*2 ^ sc) whole _ _ (mant a*2 ^ more) ((whole*whole != mant a*2 ^ more).toNat) 2
   (grain2 r _ _ hbig) eP (Nat.two_pow_pos _) (by decide) (by cases (whole*whole != mant a*2 ^ more) <;> decide) w1 w2
   (by
     by_cases c:whole*whole=mant a*2 ^ more
     · simp [c]
     · simp [c])
 have hR:real (2*whole+(whole*whole != mant a*2 ^ more).toNat) ((expo a - more) / 2 - 1)=whole*2 ^ ((expo a - (more:Int)) / 2+1074+(sc:Int)).toNat+(whole*whole != mant a*2 ^ more).toNat*2 ^ ((expo a - (more:Int)) / 2 - 1+1074+(sc:Int)).toNat:=by
   unfold real
   rw [Nat.add_mul,eP,Nat.mul_assoc,Nat.mul_left_comm]
 rw [hR]
 have hsc:=iff_scale (steps r*steps r) (steps (rung a)*2 ^ sq) (steps r*2 ^ sc*(steps r*2 ^ sc)) (mant a*2 ^ more*(2 ^ ((expo a - (more:Int)) / 2+1074+(sc:Int)).toNat*2 ^ ((expo a - (more:Int)) / 2+1074+(sc:Int)).toNat))
   (2 ^ sc*2 ^ sc) 1 (Nat.mul_pos (Nat.two_pow_pos _) (Nat.two_pow_pos _)) (by decide)
   (by rw [Nat.mul_one,Nat.mul_mul_mul_comm])
   (by
     rw [steps_parts a,Nat.mul_one]
     simp only [Nat.mul_assoc,←Nat.pow_add]
     congr 2
     omega)
 exact ⟨hsc.1.trans hcell.1,hsc.2.trans hcell.2⟩
theorem root_num (digits m more whole:Nat) (i:Int) (hm:m≠0) (e:2*digits - m.log2+((i - ((2*digits - m.log2:Nat):Int)) % 2).toNat=more)
   (w:Ieee.Datum.rootFrom (m*2 ^ more) ((m*2 ^ more).log2 / 2+1) 0=whole) :
   Ieee.Datum.root digits (.number false m i)=some (.number false (2*whole+(whole*whole != m*2 ^ more).toNat) ((i - more) / 2 - 1)):=by
 unfold Ieee.Datum.root
 simp only [if_neg hm,Nat.shiftLeft_eq,e,w]
 simp
theorem root_nil (digits:Nat) (i:Int):Ieee.Datum.root digits (.number false 0 i)=some (.number false 0 i):=by
 unfold Ieee.Datum.root
 simp only [if_pos]
theorem write_num (f:Ieee.Format) (s:Bool) (m:Nat) (i:Int):f.write (.number s m i)=f.nearest s m i:=rfl
theorem near_nil (f:Ieee.Format) (s:Bool) (i:Int):f.nearest s 0 i=f.word s 0:=by
 unfold Ieee.Format.nearest; rw [if_pos rfl]
theorem root_done (a R:Nat) (ra:rightB a=true) (sa:sgnB a=false)
   (h1:∀ r,steps r*steps r≤steps (rung a)*2 ^ sq→r≤R) (h2:∀ r,steps (rung a)*2 ^ sq≤steps r*steps r→R≤r) :
   R < 9218868437227405312∧R < 18446744073709551616∧rightB R=true∧(val R=val (sqrtW a false)∨val R=val (sqrtW a true)):=by
 obtain⟨d1,d2,d3,_⟩:=sqrt_rungs a ra sa false
 obtain⟨u1,u2,_,u4⟩:=sqrt_rungs a ra sa true
 have d3':=d3 rfl
 have u4':=u4 rfl
 have hRu:=h2 _ ((u4' _).2 (Nat.le_refl _))
 have hRd:=h1 _ ((d3' _).2 (Nat.le_refl _))
 have hlt:R < 9218868437227405312:=by omega
 obtain⟨f1,f2,_⟩:=sw_facts false R (by omega)
 rw [sw_false] at f1 f2
 refine ⟨hlt,f1,f2,?_⟩
 rcases Nat.le_total (steps R*steps R) (steps (rung a)*2 ^ sq) with g | g
 · left
   have:=(d3' R).1 g
   rw [show R=sqrtW a false by omega]
 · right
   have:=(u4' R).1 g
   rw [show R=sqrtW a true by omega]
theorem word_least (R:Nat) (h:R < 9218868437227405312):Ieee.double.word false (min R 9218868437227405312)=R:=by
 rw [Nat.min_eq_left (by omega)]; rfl
theorem sqrt_is (a:Nat) (d:Ieee.Datum) (r:Nat) (digits:Nat) (hd:Ieee.double.fractionBits+2=digits) (hr:Ieee.double.read a=d) (h:(d.root digits).map Ieee.double.write=some r):FloatKind.f64.format.sqrt a=some r:=by
 rw [fmt64]
 unfold Ieee.Format.sqrt
 rw [hr,hd]
 exact h
theorem sqrt_beside (a:Nat) (ha:a < 18446744073709551616) (ra:rightB a=true) (sa:sgnB a=false) :
   ∃ r,FloatKind.f64.format.sqrt a=some r∧r < 18446744073709551616∧rightB r=true∧(val r=val (sqrtW a false)∨val r=val (sqrtW a true)):=by
 have xa:=expo_in a ra
 have hread:=read_num a ha (right_rung a ra)
 rw [sa] at hread
 by_cases hm0:mant a=0
 · have hA:steps (rung a)=0:=by rw [steps_parts,hm0,Nat.zero_mul]
   obtain⟨g1,g2⟩:=root_done a 0 ra sa (fun r h=>by
     rw [hA,Nat.zero_mul,Nat.le_zero,Nat.mul_eq_zero,or_self] at h
     rw [(steps_zero r).1 h]
     exact Nat.le_refl _) (fun r _=>Nat.zero_le _)
   refine ⟨0,sqrt_is a _ 0 54 (by decide) hread ?_,g2⟩
   rw [hm0,root_nil,Option.map_some,write_num,near_nil]
   decide
 · have la:(mant a).log2 < 53:=(Nat.log2_lt hm0).2 (mant_lt a)
   obtain⟨more,hmore⟩:∃ more:Nat,2*54 - (mant a).log2+((expo a - ((2*54 - (mant a).log2:Nat):Int)) % 2).toNat=more:=⟨_,rfl⟩
   have hn0:mant a*2 ^ more≠0:=Nat.ne_of_gt (Nat.mul_pos (Nat.pos_of_ne_zero hm0) (Nat.two_pow_pos _))
   obtain⟨w1,w2⟩:=whole_root (mant a*2 ^ more) hn0
   have hroot:=fun whole w=>root_num 54 (mant a) more whole (expo a) hm0 hmore w
   generalize hw:Ieee.Datum.rootFrom (mant a*2 ^ more) ((mant a*2 ^ more).log2 / 2+1) 0=whole at w1 w2
   have hrt:=hroot whole hw
   clear hroot
   have hk:=fun r=>root_mark a xa.1 xa.2 hm0 more whole (by omega) (by omega) (by omega) w1 w2 r
   have hmag:2*whole+(whole*whole != mant a*2 ^ more).toNat≠0:=by
     intro h
     have hz:whole=0:=by omega
     rw [hz] at w2
     have:mant a*2 ^ more=0:=by omega
     exact hn0 this
   obtain⟨R,e,h1,h2⟩:=near_rung false _ ((expo a - (more:Int)) / 2 - 1) hmag (by omega)
   obtain⟨g1,g2⟩:=root_done a R ra sa (fun r h=>h1 r ((hk r).1.1 h)) (fun r h=>h2 r ((hk r).2.1 h))
   refine ⟨R,sqrt_is a _ R 54 (by decide) hread ?_,g2⟩
   rw [hrt,Option.map_some,write_num,e,word_least R g1]
end
section
open Go.RowKit
def turnW (d:Nat):Nat:=if d=0 then 0 else if d < 9223372036854775808 then d+9223372036854775808 else d - 9223372036854775808
theorem turn_facts (d:Nat) (hd:d < 18446744073709551616) (rd:rightB d=true):turnW d < 18446744073709551616∧rightB (turnW d)=true∧val (turnW d)=-val d:=by
 unfold turnW
 by_cases h0:d=0
 · subst h0; rw [if_pos rfl]; decide
 · rw [if_neg h0]
   have hr:=right_rung d rd
   have hn:d≠9223372036854775808:=fun h=>by subst h; exact absurd rd (by decide)
   by_cases h1:d < 9223372036854775808
   · rw [if_pos h1]
     have e1:rung (d+9223372036854775808)=rung d:=by unfold rung; omega
     have e2:sgnB (d+9223372036854775808)=true:=by unfold sgnB; exact decide_eq_true (by omega)
     have e3:sgnB d=false:=by unfold sgnB; exact decide_eq_false (by omega)
     refine ⟨by omega,?_,?_⟩
     · unfold rung at hr
       unfold rightB
       rw [decide_eq_true (by omega),decide_eq_false (by omega)]; rfl
     · rw [val_negs e2,val_pos e3,e1]
   · rw [if_neg h1]
     have e1:rung (d - 9223372036854775808)=rung d:=by unfold rung; omega
     have e2:sgnB (d - 9223372036854775808)=false:=by unfold sgnB; exact decide_eq_false (by omega)
     have e3:sgnB d=true:=by unfold sgnB; exact decide_eq_true (by omega)
     refine ⟨by omega,?_,?_⟩
     · unfold rung at hr
       unfold rightB
       rw [decide_eq_true (by omega),decide_eq_false (by omega)]; rfl
     · rw [val_pos e2,val_negs e3,e1,Int.neg_neg]
theorem turn_max:turnW 9218868437227405311=18442240474082181119:=by decide
theorem val_min (d:Nat) (hd:d < 18446744073709551616) (rd:rightB d=true):val 18442240474082181119≤val d:=by
 obtain⟨_,a2,a3⟩:=turn_facts d hd rd
 have h1:=val_max _ a2
 obtain⟨_,_,b3⟩:=turn_facts 9218868437227405311 (by decide) right_max
 rw [turn_max] at b3
 omega
structure Fair (x y r:Nat):Prop where
 lx:x < 18446744073709551616
 ly:y < 18446744073709551616
 rx:rightB x=true
 ry:rightB y=true
 gt:(FloatKind.f64.format.order x y == some Ordering.gt)=false
 step:(FloatKind.f64.format.order x y == some Ordering.eq)=true∨(FloatKind.f64.format.order x y == some Ordering.eq)=false∧(FloatKind.f64.format.order (addW x 1 true) y == some Ordering.eq)=true
 near:(FloatKind.f64.format.order r x == some Ordering.eq)=true∨(FloatKind.f64.format.order r y == some Ordering.eq)=true
end
section
open Go.RowKit
theorem xor_top (b:Nat) (h:b < 9223372036854775808):b ^^^ 2 ^ 63=2 ^ 63+b:=by
 apply Nat.eq_of_testBit_eq
 intro i
 rw [Nat.testBit_xor]
 rcases Nat.lt_trichotomy i 63 with g | g | g
 · rw [Nat.testBit_two_pow_add_gt g,Nat.testBit_two_pow_of_ne (by omega),Bool.xor_false]
 · subst g
   rw [Nat.testBit_two_pow_add_eq,Nat.testBit_two_pow_self,Bool.xor_true]
 · have h1:2 ^ 64≤2 ^ i:=Nat.pow_le_pow_right (by decide) g
   have h2:b.testBit i=false:=Nat.testBit_lt_two_pow (Nat.lt_of_lt_of_le (by omega) h1)
   have h3:(2 ^ 63+b).testBit i=false:=Nat.testBit_lt_two_pow (Nat.lt_of_lt_of_le (by omega) h1)
   rw [h2,h3,Nat.testBit_two_pow_of_ne (by omega)]
   rfl
theorem neg_word (a:Nat) (ha:a < 18446744073709551616) (h0:a≠0):Op.unary .neg (.float .f64 a)=pure (.float .f64 (turnW a)):=by
 have h:Op.negFloat .f64 a=turnW a:=by
   have e:Op.negFloat .f64 a=a ^^^ 2 ^ 63:=rfl
   rw [e]
   unfold turnW
   rw [if_neg h0]
   by_cases h1:a < 9223372036854775808
   · rw [if_pos h1,xor_top a h1]; omega
   · rw [if_neg h1]
     obtain⟨b,hb⟩:∃ b,b=a - 9223372036854775808:=⟨_,rfl⟩
     have hx:=xor_top b (by omega)
     have ea:a=b ^^^ 2 ^ 63:=by rw [hx]; omega
     rw [←hb]
     rw [ea,Nat.xor_assoc,Nat.xor_self,Nat.xor_zero]
 show pure (Value.float .f64 (Op.negFloat .f64 a))=_
 rw [h]
theorem run_root (a r:Nat) (h:FloatKind.f64.format.sqrt a=some r) (w:World):(callFunc 175 #[a]).run Tryz.prog w = .ok (.value (.float .f64 r)) w:=by
 rw [run_callFunc_extern (e:=Extern.MathSqrt.sqrt) Tryz.func175 (by kernel_rfl) (by kernel_rfl) (by kernel_rfl) (by kernel_rfl)]
 have e:Extern.MathSqrt.sqrt #[a]=(match FloatKind.f64.format.sqrt a with
   | some r=>pure (.float .f64 r)
   | none=>do pure (.float .f64 (←choose (.nanBits .f64 a a)))):=rfl
 rw [e,h]
 rfl
theorem sqrt_call (a r:Nat) (h:FloatKind.f64.format.sqrt a=some r) (w:World) :
   Calls Tryz.prog 133 #[a] w fun e w'=>e = .returned (.float .f64 r)∧w=w':=by
 have h1:=run_root a r h
 go_enter Tryz.func133,Tryz.ntmps133
 go_wp2
 go_ret
 exact ⟨rfl,rfl⟩
end
section
open Go.RowKit
attribute [local go_sem] run_store_float
theorem uof_walk (u p q lo hi:Nat) (w:World)
   (h1:∀ w,(binOp .mul 25 (.float .f64 (floatOfInt .f64 ((u:Int) / 4294967296))) (.float .f64 4463067230724161536)).run Tryz.prog w = .ok (.float .f64 p) w)
   (h2:∀ w,(binOp .mul 25 (.float .f64 (floatOfInt .f64 ((u:Int) % 4294967296))) (.float .f64 4318952042648305664)).run Tryz.prog w = .ok (.float .f64 q) w)
   (cL:Hid (∀ w,Calls Tryz.prog 49 #[.float .f64 p,.float .f64 q,.bool false] w fun r w'=>r = .returned (.tuple #[.float .f64 lo,.int .i64 0])∧Below w.heap.size w w'))
   (cH:Hid (∀ w,Calls Tryz.prog 49 #[.float .f64 p,.float .f64 q,.bool true] w fun r w'=>r = .returned (.tuple #[.float .f64 hi,.int .i64 0])∧Below w.heap.size w w')) :
   Calls Tryz.prog 28 #[.int .u64 u] w fun r w'=>r = .returned (.agg #[.float .f64 lo,.float .f64 hi])∧Below w.heap.size w w':=by
 go_enter Tryz.func28,Tryz.ntmps28
 go_wp2_with fail
 refine (cL.out _).mono ?_
 rintro r w1 ⟨rfl,hb⟩
 obtain⟨z1,c1,f1,b1⟩:=after1 hb
 have B1:=Lib.hid b1
 clear b1 hb
 go_wp2_with fail
 refine (cH.out _).mono ?_
 rintro r w2 ⟨rfl,hb⟩
 obtain⟨z2,c2,f2⟩:=keepB hb z1 c1 f1
 have B2:=Lib.hid (B1.out.trans (hb.mono B1.out.size))
 clear z1 c1 f1 B1 hb
 go_wp2
 refine bodyPost_ret (v:=.agg #[.float .f64 lo,.float .f64 hi]) (by simp [results,Tryz.results28,go_sem,c2]) rfl ⟨rfl,?_⟩
 exact (B2.out.setCell (by show w.heap.size≤w.heap.size; omega) _).setCell (by show w.heap.size≤w.heap.size; omega) _
theorem uof_any (u:Nat) (w:World) (hu:u < 18446744073709551616) :
   Calls Tryz.prog 28 #[.int .u64 u] w fun r w'=>r = .returned (.agg #[.float .f64 (ofLo u),.float .f64 (ofHi u)])∧Below w.heap.size w w':=by
 obtain⟨p1,p2,_⟩:=part_high u hu
 obtain⟨q1,q2,_⟩:=part_low u
 obtain⟨_,_,e1,e2⟩:=of_tight u hu
 exact uof_walk u _ _ _ _ w (fun w=>run_float_arith w .mul 25 .f64 _ _ _ p1) (fun w=>run_float_arith w .mul 25 .f64 _ _ _ q1)
   (Lib.hid (fun w=>add_lit _ _ _ 0 false w (by omega) (by omega) rfl e1)) (Lib.hid (fun w=>add_lit _ _ _ 0 true w (by omega) (by omega) rfl e2))
end
end Go.Proofs.YtnaomilkgfkegaaGreat
