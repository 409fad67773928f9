/- What the claim stands on, part 9: AddM, DivR, Sums, Next, Parts, Grows, Ieee, Near. -/
import Derived.Test.YtnaomilkgfkegaaGreatTA7
import Derived.Laws.FloatArith
namespace Go.Proofs.YtnaomilkgfkegaaGreat
section
open Go.RowKit
theorem same_scale (s Tm P R:Nat) (hP:0 < P) (h1:s*P=2 ^ sc) (h2:Tm*P=R) :
   (∀ r,steps r*s≤Tm↔steps r*2 ^ sc≤R)∧(∀ r,Tm≤steps r*s↔R≤steps r*2 ^ sc):=by
 refine ⟨fun r=>?_,fun r=>?_⟩
 · rw [←h1,←h2,←Nat.mul_assoc]; exact (Nat.mul_le_mul_right_iff hP).symm
 · rw [←h1,←h2,←Nat.mul_assoc]; exact (Nat.mul_le_mul_right_iff hP).symm
theorem gap_above (a:Nat):steps (rung a+1)=steps (rung a)+2 ^ (expo a+1074).toNat:=by
 rw [steps_succ]
 congr 2
 unfold expo
 split <;> omega
theorem gap_below (a:Nat) (h:-1074 < expo a):0 < rung a∧steps (rung a - 1)+2 ^ (expo a+1073).toNat≤steps (rung a):=by
 have hq:rung a / 4503599627370496≠0∧(expo a+1073).toNat=rung a / 4503599627370496 - 2∧2≤rung a / 4503599627370496:=by
   unfold expo at h ⊢
   split at h
   · omega
   · rename_i g; rw [if_neg g]; omega
 have hr:0 < rung a:=by omega
 refine ⟨hr,?_⟩
 have e:=steps_succ (rung a - 1)
 rw [Nat.sub_add_cancel hr] at e
 rw [e,hq.2.1]
 exact Nat.add_le_add_left (Nat.pow_le_pow_right (by decide) (by omega)) _
theorem little (a B B':Nat) (h:-1074 < expo a) (h1:0 < B) (h2:B < 2 ^ (expo a+1073).toNat) (h1':0 < B') (h2':B' < 2 ^ (expo a+1073).toNat) (r:Nat) :
   (steps r≤steps (rung a)+B↔steps r≤steps (rung a)+B')∧(steps (rung a)+B≤steps r↔steps (rung a)+B'≤steps r) ∧
   (steps r≤steps (rung a) - B↔steps r≤steps (rung a) - B')∧(steps (rung a) - B≤steps r↔steps (rung a) - B'≤steps r):=by
 have g1:=gap_above a
 obtain⟨hr,g2⟩:=gap_below a h
 have e:2 ^ (expo a+1074).toNat=2*2 ^ (expo a+1073).toNat:=by
   rw [show (expo a+1074).toNat=(expo a+1073).toNat+1 by omega,Nat.pow_succ,Nat.mul_comm]
 rw [e] at g1
 generalize 2 ^ (expo a+1073).toNat=H at *
 rcases Nat.lt_trichotomy r (rung a) with c | c | c
 · have:=steps_le (show r≤rung a - 1 by omega)
   omega
 · subst c; omega
 · have:=steps_le (show rung a+1≤r by omega)
   omega
theorem sumW_t (m V:Nat):sumW true m V=m*18446744073709551616+V:=if_pos rfl
theorem sumW_f (m V:Nat):sumW false m V=m*18446744073709551616 - V:=if_neg Bool.false_ne_true
def plusOr (same:Bool) (A B:Nat):Nat:=if same then A+B else A - B
theorem plusOr_t (A B:Nat):plusOr true A B=A+B:=if_pos rfl
theorem plusOr_f (A B:Nat):plusOr false A B=A - B:=if_neg Bool.false_ne_true
theorem scale_a (a:Nat) (h:-1074≤expo a):mant a*18446744073709551616*2 ^ (expo a - 64+1074+(sc:Int)).toNat=steps (rung a)*2 ^ sc:=by
 have hs:=sc_eq
 have e64:(18446744073709551616:Nat)=2 ^ 64:=by decide
 rw [steps_parts,Nat.mul_assoc,Nat.mul_assoc,e64,←Nat.pow_add,←Nat.pow_add]
 congr 2; omega
theorem real_plus (same:Bool) (a V Z:Nat) (h:-1074≤expo a) (hV:V*2 ^ (expo a - 64+1074+(sc:Int)).toNat=Z*2 ^ sc) :
   real (sumW same (mant a) V) (expo a - 64)=plusOr same (steps (rung a)) Z*2 ^ sc:=by
 have eA:=scale_a a h
 unfold real
 cases same
 · rw [sumW_f,plusOr_f,Nat.sub_mul,Nat.sub_mul,eA,hV]
 · rw [sumW_t,plusOr_t,Nat.add_mul,Nat.add_mul,eA,hV]
theorem below_of (a b:Nat) (xa:-1074≤expo a) (xb:-1074≤expo b) (hord:¬ (expo a < expo b∨expo a=expo b∧(mant a:Int) < mant b)):steps (rung b)≤steps (rung a):=by
 rw [steps_parts,steps_parts]
 by_cases c:expo a=expo b
 · rw [c]; exact Nat.mul_le_mul_right _ (by omega)
 · have hlt:expo b < expo a:=by omega
   have hmb:=mant_lt b
   have h1:=mant_norm a (by omega)
   have e:(expo a+1074).toNat=(expo b+1074).toNat+(expo a - expo b).toNat:=by omega
   have h2:2 ^ 1≤2 ^ (expo a - expo b).toNat:=Nat.pow_le_pow_right (by decide) (by omega)
   rw [e,Nat.pow_add,←Nat.mul_assoc,Nat.mul_right_comm]
   refine Nat.mul_le_mul_right _ ?_
   have h3:=Nat.mul_le_mul h1 h2
   exact Nat.le_trans (Nat.le_of_lt hmb) h3
theorem lower_small (a b:Nat) (xb:-1074≤expo b) (hd:64 < expo a - expo b):steps (rung b) < 2 ^ (expo a+1073).toNat:=by
 rw [steps_parts]
 have h1:mant b*2 ^ (expo b+1074).toNat < 9007199254740992*2 ^ (expo b+1074).toNat:=Nat.mul_lt_mul_of_pos_right (mant_lt b) (Nat.two_pow_pos _)
 have e53:(9007199254740992:Nat)=2 ^ 53:=by decide
 refine Nat.lt_of_lt_of_le h1 ?_
 rw [e53,←Nat.pow_add]
 exact Nat.pow_le_pow_right (by decide) (by omega)
theorem sum_far (a b:Nat) (xa:-1074≤expo a) (xb:-1074≤expo b) (hd:64 < expo a - expo b) (same:Bool) :
   (∀ r,steps r*1≤plusOr same (steps (rung a)) (steps (rung b))↔steps r*2 ^ sc≤real (sumW same (mant a) (lowerW (mant b) (expo a - expo b))) (expo a - 64)) ∧
   (∀ r,plusOr same (steps (rung a)) (steps (rung b))≤steps r*1↔real (sumW same (mant a) (lowerW (mant b) (expo a - expo b))) (expo a - 64)≤steps r*2 ^ sc):=by
 have hs:=sc_eq
 have hp:0 < 2 ^ sc:=Nat.two_pow_pos _
 have eL:lowerW (mant b) (expo a - expo b)=min (mant b) 1:=lower_far _ _ hd
 rw [eL]
 by_cases hb0:mant b=0
 · have hB0:steps (rung b)=0:=by rw [steps_parts,hb0,Nat.zero_mul]
   rw [hb0,hB0,Nat.zero_min]
   exact same_scale 1 _ (2 ^ sc) _ hp (Nat.one_mul _) (real_plus same a 0 0 xa (by rw [Nat.zero_mul,Nat.zero_mul])).symm
 · have hmin:min (mant b) 1=1:=Nat.min_eq_right (Nat.pos_of_ne_zero hb0)
   rw [hmin]
   have hea:-1074 < expo a:=by omega
   have eM:1*2 ^ (expo a - 64+1074+(sc:Int)).toNat=2 ^ (expo a+1010).toNat*2 ^ sc:=by
     rw [Nat.one_mul,←Nat.pow_add]; congr 1; omega
   have hB1:0 < steps (rung b):=by
     rw [steps_parts]; exact Nat.mul_pos (Nat.pos_of_ne_zero hb0) (Nat.two_pow_pos _)
   have hM2:2 ^ (expo a+1010).toNat < 2 ^ (expo a+1073).toNat:=Nat.pow_lt_pow_right (by decide) (by omega)
   have hlit:=little a (steps (rung b)) (2 ^ (expo a+1010).toNat) hea hB1 (lower_small a b xb hd) (Nat.two_pow_pos _) hM2
   rw [real_plus same a 1 _ xa eM]
   cases same
   · rw [plusOr_f,plusOr_f]
     refine ⟨fun r=>?_,fun r=>?_⟩
     · rw [Nat.mul_one]; exact (hlit r).2.2.1.trans (Nat.mul_le_mul_right_iff hp).symm
     · rw [Nat.mul_one]; exact (hlit r).2.2.2.trans (Nat.mul_le_mul_right_iff hp).symm
   · rw [plusOr_t,plusOr_t]
     refine ⟨fun r=>?_,fun r=>?_⟩
     · rw [Nat.mul_one]; exact (hlit r).1.trans (Nat.mul_le_mul_right_iff hp).symm
     · rw [Nat.mul_one]; exact (hlit r).2.1.trans (Nat.mul_le_mul_right_iff hp).symm
theorem sum_near (a b:Nat) (xa:-1074≤expo a) (xb:-1074≤expo b) (h0:0≤expo a - expo b) (hd:¬ 64 < expo a - expo b) (same:Bool) :
   (∀ r,steps r*1≤plusOr same (steps (rung a)) (steps (rung b))↔steps r*2 ^ sc≤real (sumW same (mant a) (lowerW (mant b) (expo a - expo b))) (expo a - 64)) ∧
   (∀ r,plusOr same (steps (rung a)) (steps (rung b))≤steps r*1↔real (sumW same (mant a) (lowerW (mant b) (expo a - expo b))) (expo a - 64)≤steps r*2 ^ sc):=by
 have hs:=sc_eq
 have hp:0 < 2 ^ sc:=Nat.two_pow_pos _
 have eL:lowerW (mant b) (expo a - expo b)=mant b*2 ^ (64 - (expo a - expo b).toNat):=if_neg hd
 rw [eL]
 have eB:mant b*2 ^ (64 - (expo a - expo b).toNat)*2 ^ (expo a - 64+1074+(sc:Int)).toNat=steps (rung b)*2 ^ sc:=by
   rw [steps_parts,Nat.mul_assoc,Nat.mul_assoc,←Nat.pow_add,←Nat.pow_add]
   congr 2; omega
 exact same_scale 1 _ (2 ^ sc) _ hp (Nat.one_mul _) (real_plus same a _ _ xa eB).symm
theorem sum_real (a b:Nat) (xa:-1074≤expo a) (xb:-1074≤expo b) (hn:nearB (expo a) (expo b) (mant a) (mant b)=false) (same:Bool) :
   steps (rung b)≤steps (rung a) ∧
   (∀ r,steps r*1≤plusOr same (steps (rung a)) (steps (rung b))↔steps r*2 ^ sc≤real (sumW same (mant a) (lowerW (mant b) (expo a - expo b))) (expo a - 64)) ∧
   (∀ r,plusOr same (steps (rung a)) (steps (rung b))≤steps r*1↔real (sumW same (mant a) (lowerW (mant b) (expo a - expo b))) (expo a - 64)≤steps r*2 ^ sc):=by
 have hord:¬ (expo a < expo b∨expo a=expo b∧(mant a:Int) < mant b):=by unfold nearB at hn; exact of_decide_eq_false hn
 refine ⟨below_of a b xa xb hord,?_⟩
 by_cases hd:64 < expo a - expo b
 · exact sum_far a b xa xb hd same
 · exact sum_near a b xa xb (by omega) hd same
theorem near_flip (e f m n:Int) (h:nearB e f m n=true):nearB f e n m=false:=by
 unfold nearB at *
 have:=of_decide_eq_true h
 exact decide_eq_false (by omega)
theorem sg_plus (s t:Bool) (A B:Nat) (h:B≤A):sg s (plusOr (s == t) A B)=sg s A+sg t B:=by
 cases s <;> cases t
 · show ((plusOr true A B:Nat):Int)=(A:Int)+(B:Int); rw [plusOr_t]; omega
 · show ((plusOr false A B:Nat):Int)=(A:Int) + -(B:Int); rw [plusOr_f]; omega
 · show -((plusOr false A B:Nat):Int)=-(A:Int)+(B:Int); rw [plusOr_f]; omega
 · show -((plusOr true A B:Nat):Int)=-(A:Int) + -(B:Int); rw [plusOr_t]; omega
theorem plus_dir (s t:Bool) (a b:Nat) (ra:rightB a=true) (rb:rightB b=true) (up:Bool) :
   (up=false→Down 1 (sg s (steps (rung a))+sg t (steps (rung b))) (roundW (plusN s t (mant a) (mant b) (expo a) (expo b)) (plusW s t (mant a) (mant b) (expo a) (expo b)) (plusX (mant a) (mant b) (expo a) (expo b)) up) (roundE (plusN s t (mant a) (mant b) (expo a) (expo b)) (plusW s t (mant a) (mant b) (expo a) (expo b)) (plusX (mant a) (mant b) (expo a) (expo b)) up)) ∧
   (up=true→Up 1 (sg s (steps (rung a))+sg t (steps (rung b))) (roundW (plusN s t (mant a) (mant b) (expo a) (expo b)) (plusW s t (mant a) (mant b) (expo a) (expo b)) (plusX (mant a) (mant b) (expo a) (expo b)) up) (roundE (plusN s t (mant a) (mant b) (expo a) (expo b)) (plusW s t (mant a) (mant b) (expo a) (expo b)) (plusX (mant a) (mant b) (expo a) (expo b)) up)):=by
 have xa:=expo_in a ra
 have xb:=expo_in b rb
 have hlt:=plusW_lt s t (mant a) (mant b) (expo a) (expo b) (mant_lt a) (mant_lt b) (mant_norm a) (mant_norm b) xa.1 xb.1
 have hx:=plusX_in (mant a) (mant b) (expo a) (expo b) xa.1 (by omega) xb.1 (by omega)
 cases hn:nearB (expo a) (expo b) (mant a) (mant b)
 · obtain⟨h1,h2,h3⟩:=sum_real a b xa.1 xb.1 hn (s == t)
   have eN:plusN s t (mant a) (mant b) (expo a) (expo b)=s:=if_neg (by rw [hn]; exact Bool.false_ne_true)
   have eW:plusW s t (mant a) (mant b) (expo a) (expo b)=sumW (s == t) (mant a) (lowerW (mant b) (expo a - expo b)):=if_neg (by rw [hn]; exact Bool.false_ne_true)
   have eX:plusX (mant a) (mant b) (expo a) (expo b)=expo a - 64:=if_neg (by rw [hn]; exact Bool.false_ne_true)
   rw [eW] at hlt
   rw [eN,eW,eX,←sg_plus s t _ _ h1]
   exact round_real s _ _ up 1 _ (by decide) hlt (by omega) h2 h3
 · obtain⟨h1,h2,h3⟩:=sum_real b a xb.1 xa.1 (near_flip _ _ _ _ hn) (t == s)
   have eN:plusN s t (mant a) (mant b) (expo a) (expo b)=t:=if_pos hn
   have eW:plusW s t (mant a) (mant b) (expo a) (expo b)=sumW (t == s) (mant b) (lowerW (mant a) (expo b - expo a)):=if_pos hn
   have eX:plusX (mant a) (mant b) (expo a) (expo b)=expo b - 64:=if_pos hn
   rw [eW] at hlt
   rw [eN,eW,eX,Int.add_comm,←sg_plus t s _ _ h1]
   exact round_real t _ _ up 1 _ (by decide) hlt (by omega) h2 h3
theorem val_sg (a:Nat):val a=sg (sgnB a) (steps (rung a)):=rfl
theorem neg_sg (s:Bool) (A:Nat):sg (!s) A=-sg s A:=by cases s <;> simp [sg]
theorem add_down (a b:Nat) (ra:rightB a=true) (rb:rightB b=true):Down 1 (val a+val b) (addW a b false) (addE a b false):=by
 have e1:addW a b false=_:=if_pos (by rw [ra,rb]; rfl)
 have e2:addE a b false=_:=if_pos (by rw [ra,rb]; rfl)
 rw [e1,e2]; exact (plus_dir (sgnB a) (sgnB b) a b ra rb false).1 rfl
theorem add_up (a b:Nat) (ra:rightB a=true) (rb:rightB b=true):Up 1 (val a+val b) (addW a b true) (addE a b true):=by
 have e1:addW a b true=_:=if_pos (by rw [ra,rb]; rfl)
 have e2:addE a b true=_:=if_pos (by rw [ra,rb]; rfl)
 rw [e1,e2]; exact (plus_dir (sgnB a) (sgnB b) a b ra rb true).2 rfl
theorem sub_down (a b:Nat) (ra:rightB a=true) (rb:rightB b=true):Down 1 (val a - val b) (subW a b false) (subE a b false):=by
 have e1:subW a b false=_:=if_pos (by rw [ra,rb]; rfl)
 have e2:subE a b false=_:=if_pos (by rw [ra,rb]; rfl)
 rw [e1,e2,Int.sub_eq_add_neg,val_sg b,←neg_sg]; exact (plus_dir (sgnB a) (!sgnB b) a b ra rb false).1 rfl
theorem sub_up (a b:Nat) (ra:rightB a=true) (rb:rightB b=true):Up 1 (val a - val b) (subW a b true) (subE a b true):=by
 have e1:subW a b true=_:=if_pos (by rw [ra,rb]; rfl)
 have e2:subE a b true=_:=if_pos (by rw [ra,rb]; rfl)
 rw [e1,e2,Int.sub_eq_add_neg,val_sg b,←neg_sg]; exact (plus_dir (sgnB a) (!sgnB b) a b ra rb true).2 rfl
def sq:Nat:=1074
theorem sq_eq:sq=1074:=rfl
theorem mul_real (a b:Nat) (xa:-1074≤expo a) (xb:-1074≤expo b) :
   (∀ r,steps r*2 ^ sq≤steps (rung a)*steps (rung b)↔steps r*2 ^ sc≤real (mant a*mant b) (expo a+expo b)) ∧
   (∀ r,steps (rung a)*steps (rung b)≤steps r*2 ^ sq↔real (mant a*mant b) (expo a+expo b)≤steps r*2 ^ sc):=by
 have hs:=sc_eq
 have hq:=sq_eq
 refine same_scale _ _ (2 ^ (sc - sq)) _ (Nat.two_pow_pos _) ?_ ?_
 · rw [←Nat.pow_add]; congr 1
 · unfold real
   rw [steps_parts,steps_parts,Nat.mul_mul_mul_comm,Nat.mul_assoc,←Nat.pow_add,←Nat.pow_add]
   congr 2; omega
theorem sg_mul (s t:Bool) (A B:Nat):sg (!(s == t)) (A*B)=sg s A*sg t B:=by
 cases s <;> cases t <;> simp [sg,Int.natCast_mul,Int.neg_mul,Int.mul_neg]
theorem mul_dir (a b:Nat) (ra:rightB a=true) (rb:rightB b=true) (up:Bool) :
   (up=false→Down (2 ^ sq) (val a*val b) (mulW a b up) (mulE a b up))∧(up=true→Up (2 ^ sq) (val a*val b) (mulW a b up) (mulE a b up)):=by
 have xa:=expo_in a ra
 have xb:=expo_in b rb
 obtain⟨h2,h3⟩:=mul_real a b xa.1 xb.1
 have hlt:mant a*mant b < 340282366920938463463374607431768211456:=Nat.lt_of_le_of_lt (Nat.mul_le_mul (Nat.le_of_lt (mant_lt a)) (Nat.le_of_lt (mant_lt b))) (by decide)
 have e1:mulW a b up=_:=if_pos (by rw [ra,rb]; rfl)
 have e2:mulE a b up=_:=if_pos (by rw [ra,rb]; rfl)
 rw [e1,e2,val_sg a,val_sg b,←sg_mul]
 exact round_real _ _ _ up _ _ (Nat.two_pow_pos _) hlt (by omega) h2 h3
end
section
open Go.RowKit
theorem steps_form (r:Nat):∃ u k,steps r=u*2 ^ k∧u < 9007199254740992:=by
 unfold steps
 split
 · exact ⟨r,0,by rw [Nat.pow_zero,Nat.mul_one],by omega⟩
 · exact ⟨_,_,rfl,by omega⟩
theorem grain (r q E:Nat) (hq:4611686018427387904≤q):steps r*2 ^ sc≤q*2 ^ E∨∃ t,steps r*2 ^ sc=t*2 ^ E:=by
 obtain⟨u,k,h1,h2⟩:=steps_form r
 rw [h1,Nat.mul_assoc,←Nat.pow_add]
 rcases Nat.lt_or_ge (k+sc) E with g | g
 · left
   have a1:2 ^ (k+sc)≤2 ^ E:=Nat.pow_le_pow_right (by decide) (by omega)
   exact Nat.mul_le_mul (by omega) a1
 · right
   refine ⟨u*2 ^ (k+sc - E),?_⟩
   rw [Nat.mul_assoc,←Nat.pow_add]
   congr 2; omega
theorem cell_div (Y q P P' N o K:Nat) (hY:Y≤q*P∨∃ t,Y=t*P) (hP:P=K*P') (hP':0 < P') (ho:o < N) (hN:N≤K) :
   (Y*N≤(q*N+o)*P↔Y≤q*P+o*P')∧((q*N+o)*P≤Y*N↔q*P+o*P'≤Y):=by
 have hNp:0 < N:=by omega
 have hPp:0 < P:=by rw [hP]; exact Nat.mul_pos (by omega) hP'
 have hoP:o*P' < P:=by rw [hP]; exact Nat.mul_lt_mul_of_pos_right (by omega) hP'
 by_cases hc:Y≤q*P
 · have h1:Y*N≤q*N*P:=by rw [Nat.mul_right_comm]; exact Nat.mul_le_mul_right _ hc
   rw [Nat.add_mul]
   refine ⟨⟨fun _=>by omega,fun _=>by omega⟩,?_⟩
   constructor
   · intro h
     have ho0:o*P=0:=by omega
     have ho1:o=0:=by rcases Nat.mul_eq_zero.1 ho0 with g | g <;> omega
     subst ho1
     have h2:q*P*N≤Y*N:=by rw [Nat.mul_right_comm]; omega
     have:=Nat.le_of_mul_le_mul_right h2 hNp
     omega
   · intro h
     have ho0:o*P'=0:=by omega
     have ho1:o=0:=by rcases Nat.mul_eq_zero.1 ho0 with g | g <;> omega
     subst ho1
     have h2:q*P≤Y:=by omega
     have h3:=Nat.mul_le_mul_right N h2
     rw [Nat.mul_right_comm] at h3
     omega
 · obtain⟨t,rfl⟩:∃ t,Y=t*P:=by
     rcases hY with h | h
     · exact absurd h hc
     · exact h
   have ht:q+1≤t:=by
     rcases Nat.lt_or_ge q t with g | g
     · exact g
     · exact absurd (Nat.mul_le_mul_right P g) hc
   have h1:(q+1)*P≤t*P:=Nat.mul_le_mul_right _ ht
   have h2:(q+1)*N≤t*N:=Nat.mul_le_mul_right _ ht
   rw [Nat.add_mul,Nat.one_mul] at h1 h2
   have h3:q*N+o < t*N:=by omega
   have h4:(q*N+o)*P < t*P*N:=by rw [Nat.mul_right_comm]; exact Nat.mul_lt_mul_of_pos_right h3 hPp
   refine ⟨⟨fun h=>by omega,fun h=>by omega⟩,⟨fun _=>by omega,fun _=>by omega⟩⟩
theorem cell_root (Y q P P' V o K:Nat) (hY:Y≤q*P∨∃ t,Y=t*P) (hP:P=K*P') (hP':0 < P') (hK:1 < K) (ho:o≤1) (h1:q*q≤V) (h2:V < (q+1)*(q+1)) (hoz:o=0↔q*q=V) :
   (Y*Y≤V*(P*P)↔Y≤q*P+o*P')∧(V*(P*P)≤Y*Y↔q*P+o*P'≤Y):=by
 have hPp:0 < P:=by rw [hP]; exact Nat.mul_pos (by omega) hP'
 have hPP:0 < P*P:=Nat.mul_pos hPp hPp
 have hoP:o*P' < P:=by rw [hP]; exact Nat.mul_lt_mul_of_pos_right (by omega) hP'
 have hqq:q*P*(q*P)=q*q*(P*P):=Nat.mul_mul_mul_comm _ _ _ _
 by_cases hc:Y≤q*P
 · have h3:Y*Y≤q*q*(P*P):=by rw [←hqq]; exact Nat.mul_le_mul hc hc
   have h4:=Nat.mul_le_mul_right (P*P) h1
   refine ⟨⟨fun _=>by omega,fun _=>by omega⟩,?_⟩
   constructor
   · intro h
     have h5:V*(P*P)≤q*q*(P*P):=Nat.le_trans h h3
     have h6:=Nat.le_of_mul_le_mul_right h5 hPP
     have h7:q*q=V:=by omega
     have ho0:=hoz.2 h7
     subst ho0
     rw [←h7,←hqq] at h
     rcases Nat.lt_or_ge Y (q*P) with g | g
     · have:=Nat.mul_lt_mul_of_lt_of_le g hc (by omega); omega
     · omega
   · intro h
     have ho0:o*P'=0:=by omega
     have ho1:o=0:=by rcases Nat.mul_eq_zero.1 ho0 with g | g <;> omega
     have h7:=hoz.1 ho1
     have h8:q*P≤Y:=by omega
     rw [←h7,←hqq]
     exact Nat.mul_le_mul h8 h8
 · obtain⟨t,rfl⟩:∃ t,Y=t*P:=by
     rcases hY with h | h
     · exact absurd h hc
     · exact h
   have ht:q+1≤t:=by
     rcases Nat.lt_or_ge q t with g | g
     · exact g
     · exact absurd (Nat.mul_le_mul_right P g) hc
   have h3:(q+1)*P≤t*P:=Nat.mul_le_mul_right _ ht
   rw [Nat.add_mul,Nat.one_mul] at h3
   have h4:=Nat.mul_le_mul ht ht
   have h5:V*(P*P) < t*P*(t*P):=by
     rw [Nat.mul_mul_mul_comm]; exact Nat.mul_lt_mul_of_pos_right (by omega) hPP
   refine ⟨⟨fun h=>by omega,fun h=>by omega⟩,⟨fun _=>by omega,fun _=>by omega⟩⟩
theorem iff_scale (X Z X' Z' C C':Nat) (hC:0 < C) (hC':0 < C') (h1:X*C=X'*C') (h2:Z*C=Z'*C'):(X≤Z↔X'≤Z')∧(Z≤X↔Z'≤X'):=by
 have a1:X≤Z↔X*C≤Z*C:=(Nat.mul_le_mul_right_iff hC).symm
 have a2:X'≤Z'↔X'*C'≤Z'*C':=(Nat.mul_le_mul_right_iff hC').symm
 have b1:Z≤X↔Z*C≤X*C:=(Nat.mul_le_mul_right_iff hC).symm
 have b2:Z'≤X'↔Z'*C'≤X'*C':=(Nat.mul_le_mul_right_iff hC').symm
 rw [a1,a2,b1,b2,h1,h2]
 exact ⟨Iff.rfl,Iff.rfl⟩
theorem quo_big (m n:Nat) (hm:m < 9007199254740992) (hn:n < 9007199254740992) (hm0:m≠0) (hn0:n≠0):4611686018427387904≤m*2 ^ (lz64 m - 1)*18446744073709551616 / (n*2 ^ lz64 n):=by
 obtain⟨h1,h2⟩:=lz_shift n hn0 (by omega)
 obtain⟨h3,_⟩:=lz_shift m hm0 (by omega)
 have hl:=lz_ge m hm
 have e:2 ^ lz64 m=2 ^ (lz64 m - 1)*2:=by rw [←Nat.pow_succ]; congr 1; omega
 rw [e,←Nat.mul_assoc] at h3
 rw [Nat.le_div_iff_mul_le (by omega)]
 have h4:4611686018427387904*(n*2 ^ lz64 n)≤4611686018427387904*18446744073709551616:=Nat.mul_le_mul_left _ (Nat.le_of_lt h2)
 have h5:4611686018427387904*18446744073709551616≤m*2 ^ (lz64 m - 1)*18446744073709551616:=Nat.mul_le_mul_right _ (by omega)
 exact Nat.le_trans h4 h5
theorem div_real (a b:Nat) (xa:-1074≤expo a) (xa1:expo a≤971) (xb:-1074≤expo b) (xb1:expo b≤971) (hm0:mant a≠0) (hn0:mant b≠0) (r:Nat) :
   (steps r*steps (rung b)≤steps (rung a)*2 ^ sq↔steps r*2 ^ sc≤real (quoW (mant a) (mant b)) (quoX (mant a) (mant b) (expo a) (expo b))) ∧
   (steps (rung a)*2 ^ sq≤steps r*steps (rung b)↔real (quoW (mant a) (mant b)) (quoX (mant a) (mant b) (expo a) (expo b))≤steps r*2 ^ sc):=by
 have hs:=sc_eq
 have hq:=sq_eq
 have hqx:=quoX_in (mant a) (mant b) (expo a) (expo b) xa xa1 xb xb1
 have hla:=lz_ge (mant a) (mant_lt a)
 obtain⟨_,hN2⟩:=lz_shift (mant b) hn0 (by have:=mant_lt b; omega)
 have hbig:=quo_big (mant a) (mant b) (mant_lt a) (mant_lt b) hm0 hn0
 have hNp:0 < mant b*2 ^ lz64 (mant b):=Nat.mul_pos (Nat.pos_of_ne_zero hn0) (Nat.two_pow_pos _)
 have eE:(quoX (mant a) (mant b) (expo a) (expo b)+64+1074+(sc:Int)).toNat=64+(quoX (mant a) (mant b) (expo a) (expo b)+1074+(sc:Int)).toNat:=by omega
 have eP:2 ^ (quoX (mant a) (mant b) (expo a) (expo b)+64+1074+(sc:Int)).toNat=18446744073709551616*2 ^ (quoX (mant a) (mant b) (expo a) (expo b)+1074+(sc:Int)).toNat:=by
   rw [eE,Nat.pow_add]
 have hcell:=cell_div (steps r*2 ^ sc) _ _ _ (mant b*2 ^ lz64 (mant b)) (mant a*2 ^ (lz64 (mant a) - 1)*18446744073709551616 % (mant b*2 ^ lz64 (mant b))) 18446744073709551616
   (grain r _ _ hbig) eP (Nat.two_pow_pos _) (Nat.mod_lt _ hNp) (Nat.le_of_lt hN2)
 have hZ:mant a*2 ^ (lz64 (mant a) - 1)*18446744073709551616 / (mant b*2 ^ lz64 (mant b))*(mant b*2 ^ lz64 (mant b))+mant a*2 ^ (lz64 (mant a) - 1)*18446744073709551616 % (mant b*2 ^ lz64 (mant b))=mant a*2 ^ (lz64 (mant a) - 1)*18446744073709551616:=by
   rw [Nat.mul_comm (_ / _)]; exact Nat.div_add_mod _ _
 rw [hZ] at hcell
 have hR:real (quoW (mant a) (mant b)) (quoX (mant a) (mant b) (expo a) (expo b))=mant a*2 ^ (lz64 (mant a) - 1)*18446744073709551616 / (mant b*2 ^ lz64 (mant b))*2 ^ (quoX (mant a) (mant b) (expo a) (expo b)+64+1074+(sc:Int)).toNat+mant a*2 ^ (lz64 (mant a) - 1)*18446744073709551616 % (mant b*2 ^ lz64 (mant b))*2 ^ (quoX (mant a) (mant b) (expo a) (expo b)+1074+(sc:Int)).toNat:=by
   unfold real quoW
   rw [Nat.add_mul,eP,Nat.mul_assoc]
 rw [hR]
 have hsc:=iff_scale (steps r*steps (rung b)) (steps (rung a)*2 ^ sq) (steps r*2 ^ sc*(mant b*2 ^ lz64 (mant b))) (mant a*2 ^ (lz64 (mant a) - 1)*18446744073709551616*2 ^ (quoX (mant a) (mant b) (expo a) (expo b)+64+1074+(sc:Int)).toNat)
   (2 ^ (sc+lz64 (mant b)+(lz64 (mant a) - 1))) (2 ^ ((expo b+1074).toNat+(lz64 (mant a) - 1))) (Nat.two_pow_pos _) (Nat.two_pow_pos _)
   (by
     rw [steps_parts b]
     have e1:steps r*(mant b*2 ^ (expo b+1074).toNat)*2 ^ (sc+lz64 (mant b)+(lz64 (mant a) - 1))=steps r*mant b*(2 ^ (expo b+1074).toNat*2 ^ (sc+lz64 (mant b)+(lz64 (mant a) - 1))):=by simp only [Nat.mul_assoc]
     have e2:steps r*2 ^ sc*(mant b*2 ^ lz64 (mant b))*2 ^ ((expo b+1074).toNat+(lz64 (mant a) - 1))=steps r*mant b*(2 ^ sc*2 ^ lz64 (mant b)*2 ^ ((expo b+1074).toNat+(lz64 (mant a) - 1))):=by
       rw [Nat.mul_mul_mul_comm]; simp only [Nat.mul_assoc]
     rw [e1,e2,←Nat.pow_add,←Nat.pow_add,←Nat.pow_add]
     congr 2; omega)
   (by
     rw [steps_parts a]
     have e64:(18446744073709551616:Nat)=2 ^ 64:=by decide
     rw [e64]
     simp only [Nat.mul_assoc,←Nat.pow_add]
     congr 2
     unfold quoX at hqx ⊢
     omega)
 exact ⟨hsc.1.trans hcell.1,hsc.2.trans hcell.2⟩
theorem div_dir (a b:Nat) (ra:rightB a=true) (rb:rightB b=true) (hb:b < 18446744073709551616) (hb0:b≠0) (up:Bool) :
   (up=false→Down (steps (rung b)) (sg (!(sgnB a == sgnB b)) (steps (rung a)*2 ^ sq)) (divW a b up) (divE a b up))∧(up=true→Up (steps (rung b)) (sg (!(sgnB a == sgnB b)) (steps (rung a)*2 ^ sq)) (divW a b up) (divE a b up)):=by
 have xa:=expo_in a ra
 have xb:=expo_in b rb
 have hrb:rung b≠0:=by
   have:=right_ne b rb
   have hm:=right_rung b rb
   unfold rung at *
   intro h
   omega
 have hB:0 < steps (rung b):=by
   rcases Nat.eq_zero_or_pos (steps (rung b)) with h | h
   · exact absurd ((steps_zero _).1 h) hrb
   · exact h
 have hn0:mant b≠0:=by
   intro h
   rw [steps_parts,h,Nat.zero_mul] at hB
   omega
 have hlt:=(quo_hi (mant a) (mant b) (mant_lt a) (mant_lt b) hn0).1
 have hqx:=quoX_in (mant a) (mant b) (expo a) (expo b) xa.1 xa.2 xb.1 xb.2
 have e1:divW a b up=_:=if_pos (by rw [ra,rb,decide_eq_false hb0]; rfl)
 have e2:divE a b up=_:=(if_pos (by rw [ra,rb]; rfl)).trans (if_neg hb0)
 rw [e1,e2]
 by_cases hm0:mant a=0
 · have hA:steps (rung a)=0:=by rw [steps_parts,hm0,Nat.zero_mul]
   have hW:quoW (mant a) (mant b)=0:=by
     unfold quoW; rw [hm0,Nat.zero_mul,Nat.zero_mul,Nat.zero_div,Nat.zero_mod,Nat.zero_mul]
   have hR:real (quoW (mant a) (mant b)) (quoX (mant a) (mant b) (expo a) (expo b))=0:=by unfold real; rw [hW,Nat.zero_mul]
   refine round_real _ _ _ up _ _ hB hlt (by omega) (fun r=>?_) (fun r=>?_)
   · rw [hA,hR,Nat.zero_mul,Nat.le_zero,Nat.le_zero,Nat.mul_eq_zero,Nat.mul_eq_zero]
     have:=Nat.two_pow_pos sc
     constructor
     · rintro (h | h)
       · exact Or.inl h
       · omega
     · rintro (h | h)
       · exact Or.inl h
       · omega
   · rw [hA,hR,Nat.zero_mul]; exact ⟨fun _=>Nat.zero_le _,fun _=>Nat.zero_le _⟩
 · exact round_real _ _ _ up _ _ hB hlt (by omega) (fun r=>(div_real a b xa.1 xa.2 xb.1 xb.2 hm0 hn0 r).1) (fun r=>(div_real a b xa.1 xa.2 xb.1 xb.2 hm0 hn0 r).2)
theorem root_big (m:Nat) (e:Int) (h0:m≠0) (hm:m < 9007199254740992):4611686018427387904≤Nat.sqrt (rootV m e):=by
 obtain⟨h1,_,_,_⟩:=rootB_in m e h0 hm
 have h2:=Nat.lt_succ_sqrt (rootV m e)
 have h3:4611686018427387904*4611686018427387904 < Nat.succ (Nat.sqrt (rootV m e))*Nat.succ (Nat.sqrt (rootV m e)):=by
   refine Nat.lt_of_le_of_lt ?_ h2
   unfold rootV; omega
 have:=sq_lt h3
 omega
theorem root_real (a:Nat) (xa:-1074≤expo a) (xa1:expo a≤971) (hm0:mant a≠0) (r:Nat) :
   (steps r*steps r≤steps (rung a)*2 ^ sq↔steps r*2 ^ sc≤real (rootW (mant a) (expo a)) (rootX (mant a) (expo a))) ∧
   (steps (rung a)*2 ^ sq≤steps r*steps r↔real (rootW (mant a) (expo a)) (rootX (mant a) (expo a))≤steps r*2 ^ sc):=by
 have hs:=sc_eq
 have hq:=sq_eq
 obtain⟨b1,b2,b3,b4⟩:=rootB_in (mant a) (expo a) hm0 (mant_lt a)
 have hX:rootX (mant a) (expo a)=(expo a - (rootB (mant a) (expo a):Int) - 64) / 2 - 64:=if_neg hm0
 have hxin:=rootX_in (mant a) (expo a) (mant_lt a) xa xa1
 have eE:(rootX (mant a) (expo a)+64+1074+(sc:Int)).toNat=64+(rootX (mant a) (expo a)+1074+(sc:Int)).toNat:=by omega
 have eP:2 ^ (rootX (mant a) (expo a)+64+1074+(sc:Int)).toNat=18446744073709551616*2 ^ (rootX (mant a) (expo a)+1074+(sc:Int)).toNat:=by
   rw [eE,Nat.pow_add]
 have hcell:=cell_root (steps r*2 ^ sc) (Nat.sqrt (rootV (mant a) (expo a))) _ _ (rootV (mant a) (expo a)) (restR (rootV (mant a) (expo a))) 18446744073709551616
   (grain r _ _ (root_big _ _ hm0 (mant_lt a))) eP (Nat.two_pow_pos _) (by decide) (restR_le _) (Nat.sqrt_le _) (Nat.lt_succ_sqrt _)
   (by unfold restR; split <;> simp_all)
 have hR:real (rootW (mant a) (expo a)) (rootX (mant a) (expo a))=Nat.sqrt (rootV (mant a) (expo a))*2 ^ (rootX (mant a) (expo a)+64+1074+(sc:Int)).toNat+restR (rootV (mant a) (expo a))*2 ^ (rootX (mant a) (expo a)+1074+(sc:Int)).toNat:=by
   have e:rootW (mant a) (expo a)=_:=if_neg hm0
   unfold real
   rw [e,Nat.add_mul,eP,Nat.mul_assoc]
 rw [hR]
 have hsc:=iff_scale (steps r*steps r) (steps (rung a)*2 ^ sq) (steps r*2 ^ sc*(steps r*2 ^ sc)) (rootV (mant a) (expo a)*(2 ^ (rootX (mant a) (expo a)+64+1074+(sc:Int)).toNat*2 ^ (rootX (mant a) (expo a)+64+1074+(sc:Int)).toNat))
   (2 ^ sc*2 ^ sc) 1 (Nat.mul_pos (Nat.two_pow_pos _) (Nat.two_pow_pos _)) (by decide)
   (by rw [Nat.mul_one,Nat.mul_mul_mul_comm])
   (by
     rw [steps_parts a,Nat.mul_one]
     unfold rootV
     have e64:(18446744073709551616:Nat)=2 ^ 64:=by decide
     rw [e64]
     simp only [Nat.mul_assoc,←Nat.pow_add]
     congr 2
     omega)
 exact ⟨hsc.1.trans hcell.1,hsc.2.trans hcell.2⟩
theorem steps_ge (r:Nat) (h:sq+1≤r / 4503599627370496):2 ^ sq≤steps r:=by
 unfold steps
 rw [if_neg (by omega)]
 have h1:2 ^ sq≤2 ^ (r / 4503599627370496 - 1):=Nat.pow_le_pow_right (by decide) (by omega)
 exact Nat.le_trans h1 (Nat.le_mul_of_pos_left _ (by omega))
theorem steps_inf:2 ^ sq≤steps 9218868437227405312:=steps_ge _ (by rw [sq_eq]; decide)
theorem sqrt_rungs (a:Nat) (ra:rightB a=true) (sa:sgnB a=false) (up:Bool) :
   sqrtE a up=0∧sqrtW a up≤9218868437227405311∧(up=false→∀ r,steps r*steps r≤steps (rung a)*2 ^ sq↔r≤sqrtW a up)∧(up=true→∀ r,steps (rung a)*2 ^ sq≤steps r*steps r↔sqrtW a up≤r):=by
 have xa:=expo_in a ra
 have e1:sqrtW a up=roundW false (rootW (mant a) (expo a)) (rootX (mant a) (expo a)) up:=if_pos (by rw [ra,sa]; rfl)
 have e2:sqrtE a up=roundE false (rootW (mant a) (expo a)) (rootX (mant a) (expo a)) up:=(if_pos ra).trans (if_neg (by rw [sa]; exact Bool.false_ne_true))
 rw [e1,e2]
 by_cases hm0:mant a=0
 · have hA:steps (rung a)=0:=by rw [steps_parts,hm0,Nat.zero_mul]
   have hW:rootW (mant a) (expo a)=0:=if_pos hm0
   have r1:roundW false (rootW (mant a) (expo a)) (rootX (mant a) (expo a)) up=0:=if_pos hW
   have r2:roundE false (rootW (mant a) (expo a)) (rootX (mant a) (expo a)) up=0:=if_pos hW
   rw [r1,r2,hA,Nat.zero_mul]
   refine ⟨rfl,by decide,fun _ r=>?_,fun _ r=>⟨fun _=>Nat.zero_le _,fun _=>Nat.zero_le _⟩⟩
   rw [Nat.le_zero,Nat.le_zero,Nat.mul_eq_zero,or_self]
   exact steps_zero r
 · have hlt:=rootW_lt (mant a) (expo a) (mant_lt a)
   have hxin:=rootX_in (mant a) (expo a) (mant_lt a) xa.1 xa.2
   have hW0:rootW (mant a) (expo a)≠0:=by
     have e:rootW (mant a) (expo a)=_:=if_neg hm0
     have:=root_big (mant a) (expo a) hm0 (mant_lt a)
     rw [e]; omega
   have hF:∀ r,steps r*steps r≤steps (rung a)*2 ^ sq↔r≤rungOf (rootW (mant a) (expo a)) (rootX (mant a) (expo a)) false:=fun r=>(root_real a xa.1 xa.2 hm0 r).1.trans (rung_floor _ _ hW0 hlt (by omega) r)
   have hG:∀ r,steps (rung a)*2 ^ sq≤steps r*steps r↔rungOf (rootW (mant a) (expo a)) (rootX (mant a) (expo a)) true≤r:=fun r=>(root_real a xa.1 xa.2 hm0 r).2.trans (rung_ceil _ _ hW0 hlt (by omega) r)
   have hAm:steps (rung a) < steps 9218868437227405312:=steps_lt (right_rung a ra)
   have r1:roundW false (rootW (mant a) (expo a)) (rootX (mant a) (expo a)) up=packW false (rungOf (rootW (mant a) (expo a)) (rootX (mant a) (expo a)) (up != false)) (up != false):=if_neg hW0
   have r2:roundE false (rootW (mant a) (expo a)) (rootX (mant a) (expo a)) up=packE (rungOf (rootW (mant a) (expo a)) (rootX (mant a) (expo a)) (up != false)) (up != false):=if_neg hW0
   rw [r1,r2]
   cases up
   · have hb:rungOf (rootW (mant a) (expo a)) (rootX (mant a) (expo a)) false≤9218868437227405311:=by
       rcases Nat.lt_or_ge 9218868437227405311 (rungOf (rootW (mant a) (expo a)) (rootX (mant a) (expo a)) false) with g | g
       · have h1:=(hF 9218868437227405312).2 g
         have h2:=Nat.mul_lt_mul_of_lt_of_le hAm steps_inf (by have:=Nat.two_pow_pos sq; have:=steps_inf; omega)
         omega
       · exact g
     obtain⟨p1,p2⟩:=pack_floor false (rungOf (rootW (mant a) (expo a)) (rootX (mant a) (expo a)) false)
     show packE (rungOf (rootW (mant a) (expo a)) (rootX (mant a) (expo a)) false) false=0∧packW false (rungOf (rootW (mant a) (expo a)) (rootX (mant a) (expo a)) false) false≤_∧(_→∀ r,_↔r≤packW false (rungOf (rootW (mant a) (expo a)) (rootX (mant a) (expo a)) false) false)∧_
     rw [p1,p2,Nat.min_eq_left hb,sw_false]
     exact ⟨rfl,hb,fun _=>hF,fun h=>(by cases h)⟩
   · have hb:rungOf (rootW (mant a) (expo a)) (rootX (mant a) (expo a)) true≤9218868437227405311:=by
       refine (hG _).1 ?_
       have hle:steps (rung a)≤steps 9218868437227405311:=steps_le (rung_max ra)
       have h3:2 ^ sq≤steps 9218868437227405311:=steps_ge _ (by rw [sq_eq]; decide)
       exact Nat.mul_le_mul hle h3
     obtain⟨p1,p2⟩:=pack_ceil false (rungOf (rootW (mant a) (expo a)) (rootX (mant a) (expo a)) true) hb
     show packE (rungOf (rootW (mant a) (expo a)) (rootX (mant a) (expo a)) true) true=0∧packW false (rungOf (rootW (mant a) (expo a)) (rootX (mant a) (expo a)) true) true≤_∧_∧(_→∀ r,_↔packW false (rungOf (rootW (mant a) (expo a)) (rootX (mant a) (expo a)) true) true≤r)
     rw [p1,p2,sw_false]
     exact ⟨rfl,hb,fun h=>(by cases h),fun _=>hG⟩
end
section
open Go.RowKit
theorem order_gt (a b:Nat) (ha:a < 18446744073709551616) (hb:b < 18446744073709551616) (ra:rightB a=true) (rb:rightB b=true):(FloatKind.f64.format.order a b == some Ordering.gt)=decide (val b < val a):=by
 rw [order_val a b ha hb (right_rung a ra) (right_rung b rb)]
 rcases Int.lt_trichotomy (val a) (val b) with g | g | g
 · rw [Int.compare_eq_lt.2 g,decide_eq_false (by omega)]; rfl
 · rw [Int.compare_eq_eq.2 g,decide_eq_false (by omega)]; rfl
 · rw [Int.compare_eq_gt.2 g,decide_eq_true g]; rfl
theorem Down.err {s:Nat} {T:Int} {c:Nat} {e:Int} (h:Down s T c e):e=0∨e=10:=by
 rcases h with ⟨h,_⟩ | ⟨h,_⟩ <;> omega
theorem Up.err {s:Nat} {T:Int} {c:Nat} {e:Int} (h:Up s T c e):e=0∨e=10:=by
 rcases h with ⟨h,_⟩ | ⟨h,_⟩ <;> omega
theorem Down.ok {s:Nat} {T:Int} {c:Nat} (h:Down s T c 0):c < 18446744073709551616∧rightB c=true∧val c*(s:Int)≤T∧∀ d,d < 18446744073709551616→rightB d=true→val d*(s:Int)≤T→val d≤val c:=by
 rcases h with ⟨_,h⟩ | ⟨h,_⟩
 · exact h
 · omega
theorem Up.ok {s:Nat} {T:Int} {c:Nat} (h:Up s T c 0):c < 18446744073709551616∧rightB c=true∧T≤val c*(s:Int)∧∀ d,d < 18446744073709551616→rightB d=true→T≤val d*(s:Int)→val c≤val d:=by
 rcases h with ⟨_,h⟩ | ⟨h,_⟩
 · exact h
 · omega
theorem val_1:val 1=1:=by decide
theorem right_1:rightB 1=true:=by decide
theorem val_m1:val 9223372036854775809=-1:=by decide
theorem right_m1:rightB 9223372036854775809=true:=by decide
theorem next_up (s:Nat) (rs:rightB s=true):(addE s 1 true=0∧addW s 1 true < 18446744073709551616∧rightB (addW s 1 true)=true∧val s < val (addW s 1 true)∧∀ d,d < 18446744073709551616→rightB d=true→val s < val d→val (addW s 1 true)≤val d)∨(addE s 1 true=10∧∀ d,d < 18446744073709551616→rightB d=true→val d≤val s):=by
 have h:=add_up s 1 rs right_1
 rw [val_1] at h
 rcases h with ⟨h1,h2,h3,h4,h5⟩ | ⟨h1,_,h3⟩
 · refine Or.inl ⟨h1,h2,h3,by omega,fun d hd rd hlt=>h5 d hd rd (by omega)⟩
 · exact Or.inr ⟨h1,fun d hd rd=>by have:=h3 d hd rd; omega⟩
end
section
open Go.RowKit
theorem word_parts (a:Nat) (ha:a < 18446744073709551616):a=if sgnB a then 9223372036854775808+rung a else rung a:=by
 unfold sgnB rung
 by_cases g:9223372036854775808≤a
 · rw [decide_eq_true g,if_pos rfl]; omega
 · rw [decide_eq_false g,if_neg Bool.false_ne_true]; omega
theorem steps_inj {r s:Nat} (h:steps r=steps s):r=s:=by
 have h1:=(steps_le_iff r s).1 (by omega)
 have h2:=(steps_le_iff s r).1 (by omega)
 omega
theorem val_inj {a b:Nat} (ha:a < 18446744073709551616) (hb:b < 18446744073709551616) (ra:rightB a=true) (rb:rightB b=true) (h:val a=val b):a=b:=by
 have na:=val_neg a ha ra
 have nb:=val_neg b hb rb
 have hs:sgnB a=sgnB b:=by
   cases sa:sgnB a <;> cases sb:sgnB b <;> simp_all
 have hst:steps (rung a)=steps (rung b):=by
   unfold val at h
   rw [hs] at h
   revert h
   cases sgnB b
   · intro h; exact Int.ofNat.inj h
   · intro h; exact Int.ofNat.inj (Int.neg_inj.1 h)
 rw [word_parts a ha,word_parts b hb,hs,steps_inj hst]
theorem order_eq (a b:Nat) (ha:a < 18446744073709551616) (hb:b < 18446744073709551616) (ra:rightB a=true) (rb:rightB b=true):(FloatKind.f64.format.order a b == some Ordering.eq)=decide (val a=val b):=by
 rw [order_val a b ha hb (right_rung a ra) (right_rung b rb)]
 rcases Int.lt_trichotomy (val a) (val b) with g | g | g
 · rw [Int.compare_eq_lt.2 g,decide_eq_false (by omega)]; rfl
 · rw [Int.compare_eq_eq.2 g,decide_eq_true g]; rfl
 · rw [Int.compare_eq_gt.2 g,decide_eq_false (by omega)]; rfl
theorem order_lt (a b:Nat) (ha:a < 18446744073709551616) (hb:b < 18446744073709551616) (ra:rightB a=true) (rb:rightB b=true):(FloatKind.f64.format.order a b == some Ordering.lt)=decide (val a < val b):=by
 rw [order_val a b ha hb (right_rung a ra) (right_rung b rb)]
 rcases Int.lt_trichotomy (val a) (val b) with g | g | g
 · rw [Int.compare_eq_lt.2 g,decide_eq_true g]; rfl
 · rw [Int.compare_eq_eq.2 g,decide_eq_false (by omega)]; rfl
 · rw [Int.compare_eq_gt.2 g,decide_eq_false (by omega)]; rfl
theorem val_max (d:Nat) (rd:rightB d=true):val d≤val 9218868437227405311:=by
 have e:val 9218868437227405311=(steps 9218868437227405311:Int):=by
   have:=(sw_facts false 9218868437227405311 (Nat.le_refl _)).2.2
   exact this
 have hm:=rung_max rd
 have hle:=steps_le hm
 rw [e]
 cases hc:sgnB d
 · rw [val_pos hc]; omega
 · rw [val_negs hc]; omega
theorem right_max:rightB 9218868437227405311=true:=by decide
end
section
open Go.RowKit
theorem right_0:rightB 0=true:=by decide
theorem pos_sgn {a:Nat} (ha:a < 18446744073709551616) (ra:rightB a=true) (h:0≤val a):sgnB a=false:=by
 cases hc:sgnB a
 · rfl
 · have:=(val_neg a ha ra).2 hc; omega
end
section
open Go.RowKit
theorem abs_any (c:Nat) (w:World) (hc:c < 18446744073709551616) :
   Calls Tryz.prog 102 #[c] w fun r w'=>r = .returned (.float .f64 (rung c))∧w=w':=by
 have h1:=run_bits
 have h2:=run_frombits
 have h3:=andNot_sign c hc
 go_enter Tryz.func102,Tryz.ntmps102
 go_wp2
 go_ret
 exact ⟨rfl,rfl⟩
theorem run_min (a b:Nat) (ts:Array TypeId) (t:TypeId) (w:World) (h:FloatKind.f64.format.order a b=some Ordering.lt∨a=b∧FloatKind.f64.format.order a b=some Ordering.eq) :
   (Builtin.min_ ts t #[a,b]).run Tryz.prog w = .ok (.float .f64 a) w∧(Builtin.max_ ts t #[a,b]).run Tryz.prog w = .ok (.float .f64 b) w:=by
 rcases h with h | ⟨rfl,h⟩
 · simp [Builtin.min_,Builtin.min2,Builtin.max_,Builtin.max2,h]
 · simp [Builtin.min_,Builtin.min2,Builtin.max_,Builtin.max2,h]
theorem run_max (a b:Nat) (ts:Array TypeId) (t:TypeId) (w:World) (h:FloatKind.f64.format.order a b=some Ordering.gt) :
   (Builtin.min_ ts t #[a,b]).run Tryz.prog w = .ok (.float .f64 b) w∧(Builtin.max_ ts t #[a,b]).run Tryz.prog w = .ok (.float .f64 a) w:=by
 simp [Builtin.min_,Builtin.min2,Builtin.max_,Builtin.max2,h]
end
section
open Go.RowKit
theorem cut_even (neg:Bool) (n drop:Nat):Ieee.Toward.even.cut neg n drop=n / 2 ^ drop∨(Ieee.Toward.even.cut neg n drop=n / 2 ^ drop+1∧n % 2 ^ drop≠0):=by
 unfold Ieee.Toward.cut
 simp only [Nat.shiftLeft_eq,Nat.one_mul]
 by_cases h:drop≤n.log2+2
 · rw [Nat.min_eq_left h]
   have hp:0 < 2 ^ drop:=Nat.two_pow_pos _
   cases hc:(decide (2 ^ drop < 2*(n % 2 ^ drop)) || (2 ^ drop == 2*(n % 2 ^ drop)&&n / 2 ^ drop % 2 == 1))
   · left; rfl
   · right
     refine ⟨rfl,?_⟩
     intro h0
     rw [h0] at hc
     simp at hc
 · rw [Nat.min_eq_right (by omega)]
   have h1:n < 2 ^ (n.log2+1):=Nat.lt_log2_self
   have e:2 ^ (n.log2+2)=2 ^ (n.log2+1)*2:=Nat.pow_succ ..
   have h2:n < 2 ^ (n.log2+2):=by omega
   have h3:n < 2 ^ drop:=Nat.lt_of_lt_of_le h2 (Nat.pow_le_pow_right (by decide) (by omega))
   left
   rw [Nat.div_eq_of_lt h2,Nat.mod_eq_of_lt h2,Nat.div_eq_of_lt h3]
   have hc:(decide (2 ^ (n.log2+2) < 2*n) || (2 ^ (n.log2+2) == 2*n&&0 % 2 == 1))=false:=by
     rw [decide_eq_false (by omega)]
     simp
   rw [hc]
   rfl
theorem near_rung (neg:Bool) (mag:Nat) (place:Int) (h0:mag≠0) (hp:-6000≤place) :
   ∃ R,Ieee.double.nearest neg mag place=Ieee.double.word neg (min R 9218868437227405312)∧(∀ r,steps r*2 ^ sc≤real mag place→r≤R)∧(∀ r,real mag place≤steps r*2 ^ sc→R≤r):=by
 have hs:=sc_eq
 have l1:2 ^ mag.log2≤mag:=Nat.log2_self_le h0
 have l2:mag < 2 ^ (mag.log2+1):=Nat.lt_log2_self
 -- the place of the last digit that is kept
 obtain⟨last,hlast⟩:∃ last:Int,last=max (place+mag.log2 - 52) (-1074):=⟨_,rfl⟩
 have hR:Ieee.double.nearest neg mag place=Ieee.double.word neg (min ((last+1074).toNat*4503599627370496+Ieee.Toward.even.cut neg (mag*2 ^ (place - last).toNat) (last - place).toNat) 9218868437227405312):=by
   unfold Ieee.Format.nearest
   rw [if_neg h0,bin64,inf64,lp64]
   have e1:(max (place+(mag.log2:Int) - ((Ieee.double.fractionBits:Nat):Int)) (-1074))=last:=by rw [hlast]; rfl
   simp only [e1,Nat.shiftLeft_eq]
   have e2 : (last - -1074).toNat = (last + 1074).toNat := by omega
   rw [e2]
 refine ⟨_,hR,?_⟩
 have hc:=cut_even neg (mag*2 ^ (place - last).toNat) (last - place).toNat
 -- the digits that are kept, and what they stand for
 obtain⟨low,hlow⟩:∃ low,low=mag*2 ^ (place - last).toNat / 2 ^ (last - place).toNat:=⟨_,rfl⟩
 have hd:0 < 2 ^ (last - place).toNat:=Nat.two_pow_pos _
 have hpp:0 < 2 ^ (place+1074+(sc:Int) - (place - last).toNat).toNat:=Nat.two_pow_pos _
 have b1:low*2 ^ (last - place).toNat≤mag*2 ^ (place - last).toNat:=by rw [hlow]; exact Nat.div_mul_le_self _ _
 have b2:mag*2 ^ (place - last).toNat < (low+1)*2 ^ (last - place).toNat:=by
   have:=Nat.lt_mul_div_succ (mag*2 ^ (place - last).toNat) hd
   rw [Nat.mul_comm (2 ^ (last - place).toNat)] at this; rw [hlow]; exact this
 have eK:∀ M,M*2 ^ (last+1074).toNat*2 ^ sc=M*2 ^ (last - place).toNat*2 ^ (place+1074+(sc:Int) - (place - last).toNat).toNat:=by
   intro M
   rw [Nat.mul_assoc,Nat.mul_assoc,←Nat.pow_add,←Nat.pow_add]
   congr 2; omega
 have eR:real mag place=mag*2 ^ (place - last).toNat*2 ^ (place+1074+(sc:Int) - (place - last).toNat).toNat:=by
   unfold real
   rw [Nat.mul_assoc,←Nat.pow_add]
   congr 2; omega
 have hnorm:low < 9007199254740992∧((last+1074).toNat=0∨4503599627370496≤low):=by
   have e53:(9007199254740992:Nat)=2 ^ 53:=by decide
   have e52:(4503599627370496:Nat)=2 ^ 52:=by decide
   constructor
   · rw [hlow,Nat.div_lt_iff_lt_mul hd,e53,←Nat.pow_add]
     have:mag*2 ^ (place - last).toNat < 2 ^ (mag.log2+1)*2 ^ (place - last).toNat:=Nat.mul_lt_mul_of_pos_right l2 (Nat.two_pow_pos _)
     rw [←Nat.pow_add] at this
     exact Nat.lt_of_lt_of_le this (Nat.pow_le_pow_right (by decide) (by omega))
   · by_cases c:last=-1074
     · left; omega
     · right
       rw [hlow,Nat.le_div_iff_mul_le hd,e52,←Nat.pow_add]
       have:2 ^ mag.log2*2 ^ (place - last).toNat≤mag*2 ^ (place - last).toNat:=Nat.mul_le_mul_right _ l1
       rw [←Nat.pow_add] at this
       exact Nat.le_trans (Nat.pow_le_pow_right (by decide) (by omega)) this
 have s1:=steps_km (last+1074).toNat low (by omega) hnorm.2
 have s2:=steps_km (last+1074).toNat (low+1) (by omega) (by omega)
 have f1:steps ((last+1074).toNat*4503599627370496+low)*2 ^ sc≤real mag place:=by
   rw [s1,eK,eR]; exact Nat.mul_le_mul_right _ b1
 have f2:real mag place < steps ((last+1074).toNat*4503599627370496+(low+1))*2 ^ sc:=by
   rw [s2,eK,eR]; exact Nat.mul_lt_mul_of_pos_right b2 hpp
 have hsc:0 < 2 ^ sc:=Nat.two_pow_pos _
 have floor:∀ r,steps r*2 ^ sc≤real mag place→r≤(last+1074).toNat*4503599627370496+low:=by
   intro r h
   have:=Nat.lt_of_mul_lt_mul_right (Nat.lt_of_le_of_lt h f2)
   rcases Nat.lt_or_ge ((last+1074).toNat*4503599627370496+low) r with g | g
   · have:=steps_le (show (last+1074).toNat*4503599627370496+(low+1)≤r by omega); omega
   · exact g
 have ceil0:∀ r,real mag place≤steps r*2 ^ sc→(last+1074).toNat*4503599627370496+low≤r:=by
   intro r h
   exact (steps_le_iff _ _).1 (Nat.le_of_mul_le_mul_right (Nat.le_trans f1 h) hsc)
 rw [←hlow] at hc
 rcases hc with hc | ⟨hc,hne⟩
 · rw [hc]; exact ⟨floor,ceil0⟩
 · rw [hc]
   refine ⟨fun r h=>by have:=floor r h; omega,fun r h=>?_⟩
   have hlt:steps ((last+1074).toNat*4503599627370496+low)*2 ^ sc < real mag place:=by
     rw [s1,eK,eR]
     refine Nat.mul_lt_mul_of_pos_right ?_ hpp
     have h1:=Nat.div_add_mod (mag*2 ^ (place - last).toNat) (2 ^ (last - place).toNat)
     rw [←hlow,Nat.mul_comm] at h1
     omega
   have:=Nat.lt_of_mul_lt_mul_right (Nat.lt_of_lt_of_le hlt h)
   rcases Nat.lt_or_ge ((last+1074).toNat*4503599627370496+low) r with g | g
   · omega
   · have:=steps_le g; omega
end
section
open Go.RowKit
def Beside (s:Nat) (T:Int) (r:Nat):Prop:=∀ x y,Down s T x 0→Up s T y 0→r < 18446744073709551616∧rung r < 9218868437227405312∧(val r=val x∨val r=val y)
theorem word_sw (neg:Bool) (R:Nat) (h:R < 9218868437227405312):Ieee.double.word neg (min R 9218868437227405312) < 18446744073709551616∧rung (Ieee.double.word neg (min R 9218868437227405312))=R∧val (Ieee.double.word neg (min R 9218868437227405312))=sg neg (steps R):=by
 rw [Nat.min_eq_left (by omega)]
 unfold Ieee.Format.word
 rw [sw64]
 cases neg
 · have hs:sgnB R=false:=by unfold sgnB; exact decide_eq_false (by omega)
   have hr:rung R=R:=by unfold rung; omega
   refine ⟨by simp; omega,by simpa using hr,?_⟩
   show val R=(steps R:Int)
   unfold val; rw [hs,hr]; rfl
 · have hs:sgnB (9223372036854775808+R)=true:=by unfold sgnB; exact decide_eq_true (by omega)
   have hr:rung (9223372036854775808+R)=R:=by unfold rung; omega
   refine ⟨by simp; omega,by simpa using hr,?_⟩
   show val (9223372036854775808+R)=-(steps R:Int)
   unfold val; rw [hs,hr]; rfl
theorem beside_of (neg:Bool) (s Tm R:Nat) (hs:0 < s) (h1:∀ r,steps r*s≤Tm→r≤R) (h2:∀ r,Tm≤steps r*s→R≤r) :
   Beside s (sg neg Tm) (Ieee.double.word neg (min R 9218868437227405312)):=by
 intro x y hx hy
 obtain⟨x1,x2,x3,x4⟩:=hx.ok
 obtain⟨y1,y2,y3,y4⟩:=hy.ok
 cases neg
 · have e:sg false Tm=(Tm:Int):=rfl
   rw [e] at x3 x4 y3 y4
   have px:0≤val x:=by
     have:=x4 0 (by decide) right_0 (by rw [val_0,Int.zero_mul]; exact Int.natCast_nonneg _)
     rw [val_0] at this; exact this
   have sx:=pos_sgn x1 x2 px
   have py:0≤val y:=by
     rcases Int.lt_or_le (val y) 0 with g | g
     · have:val y*(s:Int) < 0:=Int.mul_neg_of_neg_of_pos g (by omega)
       have:=Int.natCast_nonneg Tm; omega
     · exact g
   have sy:=pos_sgn y1 y2 py
   rw [val_pos sx,cast_le] at x3
   rw [val_pos sy,le_cast] at y3
   have hRy:=h2 _ y3
   have hRx:=h1 _ x3
   have hRm:R < 9218868437227405312:=by have:=right_rung y y2; omega
   obtain⟨w1,w2,w3⟩:=word_sw false R hRm
   refine ⟨w1,by rw [w2]; exact hRm,?_⟩
   have w3':val (Ieee.double.word false (min R 9218868437227405312))=(steps R:Int):=w3
   obtain⟨f1,f2,f3⟩:=sw_facts false R (by omega)
   rw [sw_false] at f1 f2 f3
   have f3':val R=(steps R:Int):=f3
   rw [w3',←f3']
   rcases Nat.le_total (steps R*s) Tm with g | g
   · left
     have a1:=x4 R f1 f2 (by rw [f3',cast_le]; exact g)
     have a2:=steps_le hRx
     rw [val_pos sx] at a1 ⊢; rw [f3'] at a1 ⊢; omega
   · right
     have a1:=y4 R f1 f2 (by rw [f3',le_cast]; exact g)
     have a2:=steps_le hRy
     rw [val_pos sy] at a1 ⊢; rw [f3'] at a1 ⊢; omega
 · have e:sg true Tm=-(Tm:Int):=rfl
   rw [e] at x3 x4 y3 y4
   have py:val y≤0:=by
     have:=y4 0 (by decide) right_0 (by rw [val_0,Int.zero_mul]; have:=Int.natCast_nonneg Tm; omega)
     rw [val_0] at this; exact this
   have px:val x≤0:=by
     rcases Int.lt_or_le 0 (val x) with g | g
     · have:0 < val x*(s:Int):=Int.mul_pos g (by omega)
       have:=Int.natCast_nonneg Tm; omega
     · exact g
   have ex:val x=-(steps (rung x):Int):=by
     cases hc:sgnB x
     · have:=val_pos hc; omega
     · exact val_negs hc
   have ey:val y=-(steps (rung y):Int):=by
     cases hc:sgnB y
     · have:=val_pos hc; omega
     · exact val_negs hc
   rw [ex,neg_cast_le] at x3
   rw [ey,le_neg_cast] at y3
   have hRx:=h2 _ x3
   have hRy:=h1 _ y3
   have hRm:R < 9218868437227405312:=by have:=right_rung x x2; omega
   obtain⟨w1,w2,w3⟩:=word_sw true R hRm
   refine ⟨w1,by rw [w2]; exact hRm,?_⟩
   have w3':val (Ieee.double.word true (min R 9218868437227405312))=-(steps R:Int):=w3
   obtain⟨f1,f2,f3⟩:=sw_facts true R (by omega)
   have f3':val (sw true R)=-(steps R:Int):=f3
   rw [w3',←f3']
   rcases Nat.le_total (steps R*s) Tm with g | g
   · right
     have a1:=y4 _ f1 f2 (by rw [f3',le_neg_cast]; exact g)
     have a2:=steps_le hRy
     rw [ey] at a1 ⊢; rw [f3'] at a1 ⊢; omega
   · left
     have a1:=x4 _ f1 f2 (by rw [f3',neg_cast_le]; exact g)
     have a2:=steps_le hRx
     rw [ex] at a1 ⊢; rw [f3'] at a1 ⊢; omega
theorem beside_near (neg:Bool) (mag:Nat) (place:Int) (s Tm:Nat) (hs:0 < s) (hp:-6000≤place)
   (hF:∀ r,steps r*s≤Tm↔steps r*2 ^ sc≤real mag place) (hG:∀ r,Tm≤steps r*s↔real mag place≤steps r*2 ^ sc) :
   Beside s (sg neg Tm) (Ieee.double.nearest neg mag place):=by
 by_cases h0:mag=0
 · subst h0
   have e:Ieee.double.nearest neg 0 place=Ieee.double.word neg (min 0 9218868437227405312):=by
     unfold Ieee.Format.nearest; rw [if_pos rfl]; rfl
   have hr:real 0 place=0:=Nat.zero_mul _
   have hp2:=Nat.two_pow_pos sc
   rw [e]
   refine beside_of neg s Tm 0 hs (fun r h=>?_) (fun r _=>Nat.zero_le _)
   have:=(hF r).1 h
   rw [hr,Nat.le_zero,Nat.mul_eq_zero] at this
   rcases this with g | g
   · rw [(steps_zero r).1 g]; exact Nat.le_refl _
   · omega
 · obtain⟨R,e,h1,h2⟩:=near_rung neg mag place h0 hp
   rw [e]
   exact beside_of neg s Tm R hs (fun r h=>h1 r ((hF r).1 h)) (fun r h=>h2 r ((hG r).1 h))
theorem mul_beside (a b:Nat) (ha:a < 18446744073709551616) (hb:b < 18446744073709551616) (ra:rightB a=true) (rb:rightB b=true) :
   ∃ r,floatBits .mul .f64 a b=some r∧Beside (2 ^ sq) (val a*val b) r:=by
 have xa:=expo_in a ra
 have xb:=expo_in b rb
 obtain⟨h2,h3⟩:=mul_real a b xa.1 xb.1
 refine ⟨Ieee.double.nearest (sgnB a ^^ sgnB b) (mant a*mant b) (expo a+expo b),?_,?_⟩
 · show (((Ieee.double.read a).product (Ieee.double.read b)).map Ieee.double.write)=_
   rw [read_num a ha (right_rung a ra),read_num b hb (right_rung b rb)]
   rfl
 · have e:val a*val b=sg (sgnB a ^^ sgnB b) (steps (rung a)*steps (rung b)):=by
     rw [val_sg a,val_sg b,←sg_mul]
     cases sgnB a <;> cases sgnB b <;> rfl
   rw [e]
   exact beside_near _ _ _ _ _ (Nat.two_pow_pos _) (by omega) h2 h3
theorem sum_beside (s t:Bool) (a b:Nat) (xa:-1074≤expo a) (xb:-1074≤expo b) :
   ∃ r,((Ieee.Datum.number s (mant a) (expo a)).sum (.number t (mant b) (expo b))).map Ieee.double.write=some r∧Beside 1 (sg s (steps (rung a))+sg t (steps (rung b))) r:=by
 have hs:=sc_eq
 obtain⟨base,hbase⟩:∃ base:Int,base=min (expo a) (expo b):=⟨_,rfl⟩
 obtain⟨total,htot⟩:∃ total:Int,total=Ieee.signed s (mant a) (expo a - base).toNat+Ieee.signed t (mant b) (expo b - base).toNat:=⟨_,rfl⟩
 have e1:sg s (steps (rung a))=Ieee.signed s (mant a) (expo a - base).toNat*((2 ^ (base+1074).toNat:Nat):Int):=by
   rw [←signed_mul,show (expo a - base).toNat+(base+1074).toNat=(expo a+1074).toNat by omega]
   unfold Ieee.signed sg; rw [steps_parts,Nat.shiftLeft_eq]
 have e2:sg t (steps (rung b))=Ieee.signed t (mant b) (expo b - base).toNat*((2 ^ (base+1074).toNat:Nat):Int):=by
   rw [←signed_mul,show (expo b - base).toNat+(base+1074).toNat=(expo b+1074).toNat by omega]
   unfold Ieee.signed sg; rw [steps_parts,Nat.shiftLeft_eq]
 have eT:sg s (steps (rung a))+sg t (steps (rung b))=total*((2 ^ (base+1074).toNat:Nat):Int):=by
   rw [e1,e2,htot,Int.add_mul]
 have hsame:=same_scale 1 (total.natAbs*2 ^ (base+1074).toNat) (2 ^ sc) (real total.natAbs base) (Nat.two_pow_pos _) (Nat.one_mul _) (by
   unfold real; rw [Nat.mul_assoc,←Nat.pow_add]; congr 2; omega)
 refine ⟨Ieee.double.nearest (if total=0 then s&&t else decide (total < 0)) total.natAbs base,?_,?_⟩
 · unfold Ieee.Datum.sum
   simp only [←hbase,←htot]
   rfl
 · have eS:sg s (steps (rung a))+sg t (steps (rung b))=sg (if total=0 then s&&t else decide (total < 0)) (total.natAbs*2 ^ (base+1074).toNat):=by
     rw [eT]
     by_cases h0:total=0
     · rw [h0,if_pos rfl,Int.zero_mul]
       cases (s&&t) <;> simp [sg]
     · rw [if_neg h0]
       by_cases h1:total < 0
       · rw [decide_eq_true h1]
         show _=-((total.natAbs*2 ^ (base+1074).toNat:Nat):Int)
         rw [Int.natCast_mul,←Int.neg_mul]; congr 1; omega
       · rw [decide_eq_false h1]
         show _=((total.natAbs*2 ^ (base+1074).toNat:Nat):Int)
         rw [Int.natCast_mul]; congr 1; omega
   rw [eS]
   exact beside_near _ _ _ 1 _ (by decide) (by omega) hsame.1 hsame.2
theorem add_beside (a b:Nat) (ha:a < 18446744073709551616) (hb:b < 18446744073709551616) (ra:rightB a=true) (rb:rightB b=true) :
   ∃ r,floatBits .add .f64 a b=some r∧Beside 1 (val a+val b) r:=by
 obtain⟨r,h1,h2⟩:=sum_beside (sgnB a) (sgnB b) a b (expo_in a ra).1 (expo_in b rb).1
 refine ⟨r,?_,h2⟩
 show ((Ieee.double.read a).sum (Ieee.double.read b)).map Ieee.double.write=_
 rw [read_num a ha (right_rung a ra),read_num b hb (right_rung b rb)]
 exact h1
theorem sub_beside (a b:Nat) (ha:a < 18446744073709551616) (hb:b < 18446744073709551616) (ra:rightB a=true) (rb:rightB b=true) :
   ∃ r,floatBits .sub .f64 a b=some r∧Beside 1 (val a - val b) r:=by
 obtain⟨r,h1,h2⟩:=sum_beside (sgnB a) (!sgnB b) a b (expo_in a ra).1 (expo_in b rb).1
 refine ⟨r,?_,?_⟩
 · show ((Ieee.double.read a).sum (Ieee.double.read b).opposite).map Ieee.double.write=_
   rw [read_num a ha (right_rung a ra),read_num b hb (right_rung b rb)]
   exact h1
 · rw [neg_sg,←Int.sub_eq_add_neg] at h2
   exact h2
end
end Go.Proofs.YtnaomilkgfkegaaGreat
