/- What the claim stands on, part 9: Val, AddM, DivR, Sums, Next. -/
import Derived.Test.YtnaomilkgfkegaaGreatWA7
import Derived.Test.YtnaomilkgfkegaaGreatWA4
namespace Go.Proofs.YtnaomilkgfkegaaGreat
section
open Go.RowKit
def sw (neg:Bool) (r:Nat):Nat:=if neg&&r != 0 then 9223372036854775808+r else r
theorem sw_false (r:Nat):sw false r=r:=rfl
theorem sw_true (r:Nat) (h:r≠0):sw true r=9223372036854775808+r:=by
 unfold sw; rw [if_pos (by simp [h])]
theorem sw_zero (neg:Bool):sw neg 0=0:=by cases neg <;> rfl
theorem sw_facts (neg:Bool) (r:Nat) (h:r≤9218868437227405311):sw neg r < 18446744073709551616∧rightB (sw neg r)=true∧val (sw neg r)=if neg then -(steps r:Int) else (steps r:Int):=by
 have z0:steps 0=0:=rfl
 cases neg
 ·rw [sw_false]
  have hs:sgnB r=false:=by unfold sgnB; exact decide_eq_false (by omega)
  have hr:rung r=r:=by unfold rung; omega
  refine ⟨by omega,?_,?_⟩
  ·unfold rightB
   rw [decide_eq_true (by omega:r % 9223372036854775808 < 9218868437227405312),decide_eq_false (by omega:¬ r=9223372036854775808)]; rfl
  ·unfold val; rw [hs,hr]
 ·by_cases h0:r=0
  ·subst h0; rw [sw_zero]
   exact ⟨by decide,by decide,by rw [val_0,z0]; rfl⟩
  ·rw [sw_true r h0]
   have hs:sgnB (9223372036854775808+r)=true:=by unfold sgnB; exact decide_eq_true (by omega)
   have hr:rung (9223372036854775808+r)=r:=by unfold rung; omega
   refine ⟨by omega,?_,?_⟩
   ·unfold rightB
    rw [decide_eq_true (by omega:(9223372036854775808+r) % 9223372036854775808 < 9218868437227405312),decide_eq_false (by omega:¬ 9223372036854775808+r=9223372036854775808)]; rfl
   ·unfold val; rw [hs,hr]
def Down (s:Nat) (T:Int) (c:Nat) (e:Int):Prop:=
 (e=0∧c < 18446744073709551616∧rightB c=true∧val c*(s:Int)≤T∧∀ d,d < 18446744073709551616→rightB d=true→val d*(s:Int)≤T→val d≤val c) ∨
 (e=10∧c=0∧∀ d,d < 18446744073709551616→rightB d=true→T < val d*(s:Int))
def Up (s:Nat) (T:Int) (c:Nat) (e:Int):Prop:=
 (e=0∧c < 18446744073709551616∧rightB c=true∧T≤val c*(s:Int)∧∀ d,d < 18446744073709551616→rightB d=true→T≤val d*(s:Int)→val c≤val d) ∨
 (e=10∧c=0∧∀ d,d < 18446744073709551616→rightB d=true→val d*(s:Int) < T)
theorem val_pos {d:Nat} (h:sgnB d=false):val d=(steps (rung d):Int):=by unfold val; rw [h]; rfl
theorem val_negs {d:Nat} (h:sgnB d=true):val d=-(steps (rung d):Int):=by unfold val; rw [h]; rfl
theorem cast_le (a s b:Nat):(a:Int)*(s:Int)≤(b:Int)↔a*s≤b:=by rw [←Int.natCast_mul]; exact Int.ofNat_le
theorem le_cast (a s b:Nat):(b:Int)≤(a:Int)*(s:Int)↔b≤a*s:=by rw [←Int.natCast_mul]; exact Int.ofNat_le
theorem neg_cast_le (a s b:Nat):-(a:Int)*(s:Int) ≤ -(b:Int)↔b≤a*s:=by rw [Int.neg_mul,Int.neg_le_neg_iff]; exact le_cast a s b
theorem le_neg_cast (a s b:Nat):-(b:Int) ≤ -(a:Int)*(s:Int)↔a*s≤b:=by rw [Int.neg_mul,Int.neg_le_neg_iff]; exact cast_le a s b
theorem rung_max {d:Nat} (h:rightB d=true):rung d≤9218868437227405311:=by have:=right_rung d h; omega
theorem floor_pos (s Tm b:Nat) (hF:∀ r,steps r*s≤Tm↔r≤b):Down s Tm (sw false (min b 9218868437227405311)) 0:=by
 obtain⟨f1,f2,f3⟩:=sw_facts false (min b 9218868437227405311) (Nat.min_le_right _ _);have f3':val (sw false (min b 9218868437227405311))=(steps (min b 9218868437227405311):Int):=f3;refine Or.inl ⟨rfl,f1,f2,?_,fun d _ hr hd=>?_⟩
 ·rw [f3',cast_le]; exact (hF _).2 (Nat.min_le_left _ _)
 ·rw [f3']
  cases hc:sgnB d
  ·rw [val_pos hc] at hd ⊢
   rw [cast_le] at hd;exact Int.ofNat_le.2 (steps_le (Nat.le_min.2 ⟨(hF _).1 hd,rung_max hr⟩))
  ·rw [val_negs hc]; omega
theorem floor_neg (s Tm b:Nat) (hF:∀ r,steps r*s≤Tm↔r≤b):Up s (-(Tm:Int)) (sw true (min b 9218868437227405311)) 0:=by
 obtain⟨f1,f2,f3⟩:=sw_facts true (min b 9218868437227405311) (Nat.min_le_right _ _);have f3':val (sw true (min b 9218868437227405311))=-(steps (min b 9218868437227405311):Int):=f3;refine Or.inl ⟨rfl,f1,f2,?_,fun d _ hr hd=>?_⟩
 ·rw [f3',le_neg_cast]; exact (hF _).2 (Nat.min_le_left _ _)
 ·rw [f3']
  cases hc:sgnB d
  ·rw [val_pos hc]; omega
  ·rw [val_negs hc] at hd ⊢
   rw [le_neg_cast] at hd;have:=steps_le (Nat.le_min.2 ⟨(hF _).1 hd,rung_max hr⟩);omega
theorem neg_rung {d:Nat} (hd:d < 18446744073709551616) (hr:rightB d=true) (hc:sgnB d=true):0 < steps (rung d):=by
 have h:=(val_neg d hd hr).2 hc;rw [val_negs hc] at h;omega
theorem ceil_pos (s Tm b:Nat) (hs:0 < s) (hG:∀ r,Tm≤steps r*s↔b≤r) (hb:b≤9218868437227405311):Up s Tm (sw false b) 0:=by
 obtain⟨f1,f2,f3⟩:=sw_facts false b hb;have f3':val (sw false b)=(steps b:Int):=f3;refine Or.inl ⟨rfl,f1,f2,?_,fun d hd1 hr hd=>?_⟩
 ·rw [f3',le_cast]; exact (hG _).2 (Nat.le_refl _)
 ·rw [f3']
  cases hc:sgnB d
  ·rw [val_pos hc] at hd ⊢
   rw [le_cast] at hd;exact Int.ofNat_le.2 (steps_le ((hG _).1 hd))
  ·exfalso
   have hp:=Nat.mul_pos (neg_rung hd1 hr hc) hs;rw [val_negs hc,Int.neg_mul,←Int.natCast_mul] at hd;omega
theorem ceil_neg (s Tm b:Nat) (hs:0 < s) (hG:∀ r,Tm≤steps r*s↔b≤r) (hb:b≤9218868437227405311):Down s (-(Tm:Int)) (sw true b) 0:=by
 obtain⟨f1,f2,f3⟩:=sw_facts true b hb;have f3':val (sw true b)=-(steps b:Int):=f3;refine Or.inl ⟨rfl,f1,f2,?_,fun d hd1 hr hd=>?_⟩
 ·rw [f3',neg_cast_le]; exact (hG _).2 (Nat.le_refl _)
 ·rw [f3']
  cases hc:sgnB d
  ·rw [val_pos hc] at hd ⊢
   have h0:Tm=0∧steps (rung d)*s=0:=by rw [←Int.natCast_mul] at hd; omega
   have hb0:b=0:=by
    have:=(hG 0).1 (by rw [h0.1]; exact Nat.zero_le _); omega
   have hz:steps (rung d)=0:=by
    rcases Nat.mul_eq_zero.1 h0.2 with h | h
    ·exact h
    ·omega
   rw [hb0,hz]; decide
  ·rw [val_negs hc] at hd ⊢
   rw [neg_cast_le] at hd;have:=steps_le ((hG _).1 hd);omega
theorem none_pos (s Tm b:Nat) (hG:∀ r,Tm≤steps r*s↔b≤r) (hb:9218868437227405311 < b):Up s Tm 0 10:=by
 refine Or.inr ⟨rfl,rfl,fun d _ hr=>?_⟩;have hm:=rung_max hr
 have h1:¬ Tm≤steps (rung d)*s:=fun h=>by have:=(hG _).1 h; omega
 cases hc:sgnB d
 ·rw [val_pos hc,←Int.natCast_mul]; omega
 ·rw [val_negs hc,Int.neg_mul,←Int.natCast_mul]; omega
theorem none_neg (s Tm b:Nat) (hG:∀ r,Tm≤steps r*s↔b≤r) (hb:9218868437227405311 < b):Down s (-(Tm:Int)) 0 10:=by
 refine Or.inr ⟨rfl,rfl,fun d _ hr=>?_⟩;have hm:=rung_max hr
 have h1:¬ Tm≤steps (rung d)*s:=fun h=>by have:=(hG _).1 h; omega
 cases hc:sgnB d
 ·rw [val_pos hc,←Int.natCast_mul]; omega
 ·rw [val_negs hc,Int.neg_mul,←Int.natCast_mul]; omega
theorem pack_floor (neg:Bool) (b:Nat):packW neg b false=sw neg (min b 9218868437227405311)∧packE b false=0:=by
 refine ⟨?_,(packE_ok b false (by simp)).symm⟩;unfold packW
 by_cases h:9218868437227405312≤b
 ·rw [if_pos h,Nat.min_eq_right (by omega)]
  cases neg
  ·rfl
  ·exact (sw_true 9218868437227405311 (by decide)).symm
 ·rw [if_neg h,Nat.min_eq_left (by omega)]; rfl
theorem pack_ceil (neg:Bool) (b:Nat) (h:b≤9218868437227405311):packW neg b true=sw neg b∧packE b true=0:=by
 refine ⟨?_,(packE_ok b true (by omega)).symm⟩;unfold packW
 rw [if_neg (by omega)]; rfl
def sg (neg:Bool) (T:Nat):Int:=if neg then -(T:Int) else (T:Int)
theorem round_real (neg:Bool) (W:Nat) (x:Int) (up:Bool) (s Tm:Nat) (hs:0 < s) (hW:W < 340282366920938463463374607431768211456) (hx:-5000≤x)
  (hF:∀ r,steps r*s≤Tm↔steps r*2 ^ sc≤real W x) (hG:∀ r,Tm≤steps r*s↔real W x≤steps r*2 ^ sc) :
  (up=false→Down s (sg neg Tm) (roundW neg W x up) (roundE neg W x up))∧(up=true→Up s (sg neg Tm) (roundW neg W x up) (roundE neg W x up)):=by
 have hp:0 < 2 ^ sc:=Nat.two_pow_pos _
 by_cases h0:W=0
 ·subst h0
  have hr0:real 0 x=0:=Nat.zero_mul _;rw [hr0] at hF hG
  have hF':∀ r,steps r*s≤Tm↔r≤0:=fun r=>by
   rw [hF r,Nat.le_zero,Nat.mul_eq_zero,Nat.le_zero]
   constructor
   ·rintro (h | h)
    ·exact (steps_zero r).1 h
    ·omega
   ·intro h; exact Or.inl ((steps_zero r).2 h)
  have hG':∀ r,Tm≤steps r*s↔0≤r:=fun r=>by rw [hG r]; exact ⟨fun _=>Nat.zero_le _,fun _=>Nat.zero_le _⟩
  have e1:roundW neg 0 x up=0:=if_pos rfl;have e2:roundE neg 0 x up=0:=if_pos rfl;rw [e1,e2];have a1:=floor_pos s Tm 0 hF';have a2:=floor_neg s Tm 0 hF';have a3:=ceil_pos s Tm 0 hs hG' (by decide);have a4:=ceil_neg s Tm 0 hs hG' (by decide);rw [Nat.zero_min,sw_zero] at a1 a2;rw [sw_zero] at a3 a4
  cases neg
  ·exact ⟨fun _=>a1,fun _=>a3⟩
  ·exact ⟨fun _=>a4,fun _=>a2⟩
 ·have hF':∀ r,steps r*s≤Tm↔r≤rungOf W x false:=fun r=>(hF r).trans (rung_floor W x h0 hW hx r)
  have hG':∀ r,Tm≤steps r*s↔rungOf W x true≤r:=fun r=>(hG r).trans (rung_ceil W x h0 hW hx r)
  have e1:roundW neg W x up=packW neg (rungOf W x (up != neg)) (up != neg):=if_neg h0;have e2:roundE neg W x up=packE (rungOf W x (up != neg)) (up != neg):=if_neg h0;rw [e1,e2]
  cases neg <;> cases up
  ·obtain⟨p1,p2⟩:=pack_floor false (rungOf W x false)
   refine ⟨fun _=>?_,fun h=>by cases h⟩
   show Down s Tm (packW false (rungOf W x false) false) (packE (rungOf W x false) false)
   rw [p1,p2]; exact floor_pos s Tm _ hF'
  ·refine ⟨fun h=>(by cases h),fun _=>?_⟩
   show Up s Tm (packW false (rungOf W x true) true) (packE (rungOf W x true) true)
   by_cases hb:rungOf W x true≤9218868437227405311
   ·obtain⟨p1,p2⟩:=pack_ceil false _ hb
    rw [p1,p2]; exact ceil_pos s Tm _ hs hG' hb
   ·obtain⟨p1,p2⟩:=pack_over false (rungOf W x true) (by omega)
    rw [←p1,←p2]; exact none_pos s Tm _ hG' (by omega)
  ·refine ⟨fun _=>?_,fun h=>by cases h⟩
   show Down s (-(Tm:Int)) (packW true (rungOf W x true) true) (packE (rungOf W x true) true)
   by_cases hb:rungOf W x true≤9218868437227405311
   ·obtain⟨p1,p2⟩:=pack_ceil true _ hb
    rw [p1,p2]; exact ceil_neg s Tm _ hs hG' hb
   ·obtain⟨p1,p2⟩:=pack_over true (rungOf W x true) (by omega)
    rw [←p1,←p2]; exact none_neg s Tm _ hG' (by omega)
  ·obtain⟨p1,p2⟩:=pack_floor true (rungOf W x false)
   refine ⟨fun h=>(by cases h),fun _=>?_⟩
   show Up s (-(Tm:Int)) (packW true (rungOf W x false) false) (packE (rungOf W x false) false)
   rw [p1,p2]; exact floor_neg s Tm _ hF'
end
section
open Go.RowKit
theorem same_scale (s Tm P R:Nat) (hP:0 < P) (h1:s*P=2 ^ sc) (h2:Tm*P=R) :
  (∀ r,steps r*s≤Tm↔steps r*2 ^ sc≤R)∧(∀ r,Tm≤steps r*s↔R≤steps r*2 ^ sc):=by
 refine ⟨fun r=>?_,fun r=>?_⟩
 ·rw [←h1,←h2,←Nat.mul_assoc]; exact (Nat.mul_le_mul_right_iff hP).symm
 ·rw [←h1,←h2,←Nat.mul_assoc]; exact (Nat.mul_le_mul_right_iff hP).symm
theorem gap_above (a:Nat):steps (rung a+1)=steps (rung a)+2 ^ (expo a+1074).toNat:=by
 rw [steps_succ]
 congr 2
 unfold expo
 split <;> omega
theorem gap_below (a:Nat) (h:-1074 < expo a):0 < rung a∧steps (rung a - 1)+2 ^ (expo a+1073).toNat≤steps (rung a):=by
 have hq:rung a / 4503599627370496≠0∧(expo a+1073).toNat=rung a / 4503599627370496 - 2∧2≤rung a / 4503599627370496:=by
  unfold expo at h ⊢
  split at h
  ·omega
  ·rename_i g; rw [if_neg g]; omega
 have hr:0 < rung a:=by omega
 refine ⟨hr,?_⟩;have e:=steps_succ (rung a - 1);rw [Nat.sub_add_cancel hr] at e;rw [e,hq.2.1];exact Nat.add_le_add_left (Nat.pow_le_pow_right (by decide) (by omega)) _
theorem little (a B B':Nat) (h:-1074 < expo a) (h1:0 < B) (h2:B < 2 ^ (expo a+1073).toNat) (h1':0 < B') (h2':B' < 2 ^ (expo a+1073).toNat) (r:Nat) :
  (steps r≤steps (rung a)+B↔steps r≤steps (rung a)+B')∧(steps (rung a)+B≤steps r↔steps (rung a)+B'≤steps r) ∧
  (steps r≤steps (rung a) - B↔steps r≤steps (rung a) - B')∧(steps (rung a) - B≤steps r↔steps (rung a) - B'≤steps r):=by
 have g1:=gap_above a;obtain⟨hr,g2⟩:=gap_below a h
 have e:2 ^ (expo a+1074).toNat=2*2 ^ (expo a+1073).toNat:=by
  rw [show (expo a+1074).toNat=(expo a+1073).toNat+1 by omega,Nat.pow_succ,Nat.mul_comm]
 rw [e] at g1;generalize 2 ^ (expo a+1073).toNat=H at *
 rcases Nat.lt_trichotomy r (rung a) with c | c | c
 ·have:=steps_le (show r≤rung a - 1 by omega)
  omega
 ·subst c; omega
 ·have:=steps_le (show rung a+1≤r by omega)
  omega
theorem sumW_t (m V:Nat):sumW true m V=m*18446744073709551616+V:=if_pos rfl
theorem sumW_f (m V:Nat):sumW false m V=m*18446744073709551616 - V:=if_neg Bool.false_ne_true
def plusOr (same:Bool) (A B:Nat):Nat:=if same then A+B else A - B
theorem plusOr_t (A B:Nat):plusOr true A B=A+B:=if_pos rfl
theorem plusOr_f (A B:Nat):plusOr false A B=A - B:=if_neg Bool.false_ne_true
theorem scale_a (a:Nat) (h:-1074≤expo a):mant a*18446744073709551616*2 ^ (expo a - 64+1074+(sc:Int)).toNat=steps (rung a)*2 ^ sc:=by
 have hs:=sc_eq
 have e64:(18446744073709551616:Nat)=2 ^ 64:=by decide
 rw [steps_parts,Nat.mul_assoc,Nat.mul_assoc,e64,←Nat.pow_add,←Nat.pow_add]
 congr 2; omega
theorem real_plus (same:Bool) (a V Z:Nat) (h:-1074≤expo a) (hV:V*2 ^ (expo a - 64+1074+(sc:Int)).toNat=Z*2 ^ sc) :
  real (sumW same (mant a) V) (expo a - 64)=plusOr same (steps (rung a)) Z*2 ^ sc:=by
 have eA:=scale_a a h;unfold real
 cases same
 ·rw [sumW_f,plusOr_f,Nat.sub_mul,Nat.sub_mul,eA,hV]
 ·rw [sumW_t,plusOr_t,Nat.add_mul,Nat.add_mul,eA,hV]
theorem below_of (a b:Nat) (xa:-1074≤expo a) (xb:-1074≤expo b) (hord:¬ (expo a < expo b∨expo a=expo b∧(mant a:Int) < mant b)):steps (rung b)≤steps (rung a):=by
 rw [steps_parts,steps_parts]
 by_cases c:expo a=expo b
 ·rw [c]; exact Nat.mul_le_mul_right _ (by omega)
 ·have hlt:expo b < expo a:=by omega
  have hmb:=mant_lt b;have h1:=mant_norm a (by omega)
  have e:(expo a+1074).toNat=(expo b+1074).toNat+(expo a - expo b).toNat:=by omega
  have h2:2 ^ 1≤2 ^ (expo a - expo b).toNat:=Nat.pow_le_pow_right (by decide) (by omega);rw [e,Nat.pow_add,←Nat.mul_assoc,Nat.mul_right_comm];refine Nat.mul_le_mul_right _ ?_;have h3:=Nat.mul_le_mul h1 h2;exact Nat.le_trans (Nat.le_of_lt hmb) h3
theorem lower_small (a b:Nat) (xb:-1074≤expo b) (hd:64 < expo a - expo b):steps (rung b) < 2 ^ (expo a+1073).toNat:=by
 rw [steps_parts]
 have h1:mant b*2 ^ (expo b+1074).toNat < 9007199254740992*2 ^ (expo b+1074).toNat:=Nat.mul_lt_mul_of_pos_right (mant_lt b) (Nat.two_pow_pos _)
 have e53:(9007199254740992:Nat)=2 ^ 53:=by decide
 refine Nat.lt_of_lt_of_le h1 ?_;rw [e53,←Nat.pow_add];exact Nat.pow_le_pow_right (by decide) (by omega)
theorem sum_far (a b:Nat) (xa:-1074≤expo a) (xb:-1074≤expo b) (hd:64 < expo a - expo b) (same:Bool) :
  (∀ r,steps r*1≤plusOr same (steps (rung a)) (steps (rung b))↔steps r*2 ^ sc≤real (sumW same (mant a) (lowerW (mant b) (expo a - expo b))) (expo a - 64)) ∧
  (∀ r,plusOr same (steps (rung a)) (steps (rung b))≤steps r*1↔real (sumW same (mant a) (lowerW (mant b) (expo a - expo b))) (expo a - 64)≤steps r*2 ^ sc):=by
 have hs:=sc_eq
 have hp:0 < 2 ^ sc:=Nat.two_pow_pos _
 have eL:lowerW (mant b) (expo a - expo b)=min (mant b) 1:=lower_far _ _ hd;rw [eL]
 by_cases hb0:mant b=0
 ·have hB0:steps (rung b)=0:=by rw [steps_parts,hb0,Nat.zero_mul]
  rw [hb0,hB0,Nat.zero_min];exact same_scale 1 _ (2 ^ sc) _ hp (Nat.one_mul _) (real_plus same a 0 0 xa (by rw [Nat.zero_mul,Nat.zero_mul])).symm
 ·have hmin:min (mant b) 1=1:=Nat.min_eq_right (Nat.pos_of_ne_zero hb0)
  rw [hmin]
  have hea:-1074 < expo a:=by omega
  have eM:1*2 ^ (expo a - 64+1074+(sc:Int)).toNat=2 ^ (expo a+1010).toNat*2 ^ sc:=by
   rw [Nat.one_mul,←Nat.pow_add]; congr 1; omega
  have hB1:0 < steps (rung b):=by
   rw [steps_parts]; exact Nat.mul_pos (Nat.pos_of_ne_zero hb0) (Nat.two_pow_pos _)
  have hM2:2 ^ (expo a+1010).toNat < 2 ^ (expo a+1073).toNat:=Nat.pow_lt_pow_right (by decide) (by omega)
  have hlit:=little a (steps (rung b)) (2 ^ (expo a+1010).toNat) hea hB1 (lower_small a b xb hd) (Nat.two_pow_pos _) hM2;rw [real_plus same a 1 _ xa eM]
  cases same
  ·rw [plusOr_f,plusOr_f]
   refine ⟨fun r=>?_,fun r=>?_⟩
   ·rw [Nat.mul_one]; exact (hlit r).2.2.1.trans (Nat.mul_le_mul_right_iff hp).symm
   ·rw [Nat.mul_one]; exact (hlit r).2.2.2.trans (Nat.mul_le_mul_right_iff hp).symm
  ·rw [plusOr_t,plusOr_t]
   refine ⟨fun r=>?_,fun r=>?_⟩
   ·rw [Nat.mul_one]; exact (hlit r).1.trans (Nat.mul_le_mul_right_iff hp).symm
   ·rw [Nat.mul_one]; exact (hlit r).2.1.trans (Nat.mul_le_mul_right_iff hp).symm
theorem sum_near (a b:Nat) (xa:-1074≤expo a) (xb:-1074≤expo b) (h0:0≤expo a - expo b) (hd:¬ 64 < expo a - expo b) (same:Bool) :
  (∀ r,steps r*1≤plusOr same (steps (rung a)) (steps (rung b))↔steps r*2 ^ sc≤real (sumW same (mant a) (lowerW (mant b) (expo a - expo b))) (expo a - 64)) ∧
  (∀ r,plusOr same (steps (rung a)) (steps (rung b))≤steps r*1↔real (sumW same (mant a) (lowerW (mant b) (expo a - expo b))) (expo a - 64)≤steps r*2 ^ sc):=by
 have hs:=sc_eq
 have hp:0 < 2 ^ sc:=Nat.two_pow_pos _
 have eL:lowerW (mant b) (expo a - expo b)=mant b*2 ^ (64 - (expo a - expo b).toNat):=if_neg hd;rw [eL]
 have eB:mant b*2 ^ (64 - (expo a - expo b).toNat)*2 ^ (expo a - 64+1074+(sc:Int)).toNat=steps (rung b)*2 ^ sc:=by
  rw [steps_parts,Nat.mul_assoc,Nat.mul_assoc,←Nat.pow_add,←Nat.pow_add]
  congr 2; omega
 exact same_scale 1 _ (2 ^ sc) _ hp (Nat.one_mul _) (real_plus same a _ _ xa eB).symm
theorem sum_real (a b:Nat) (xa:-1074≤expo a) (xb:-1074≤expo b) (hn:nearB (expo a) (expo b) (mant a) (mant b)=false) (same:Bool) :
  steps (rung b)≤steps (rung a) ∧
  (∀ r,steps r*1≤plusOr same (steps (rung a)) (steps (rung b))↔steps r*2 ^ sc≤real (sumW same (mant a) (lowerW (mant b) (expo a - expo b))) (expo a - 64)) ∧
  (∀ r,plusOr same (steps (rung a)) (steps (rung b))≤steps r*1↔real (sumW same (mant a) (lowerW (mant b) (expo a - expo b))) (expo a - 64)≤steps r*2 ^ sc):=by
 have hord:¬ (expo a < expo b∨expo a=expo b∧(mant a:Int) < mant b):=by unfold nearB at hn; exact of_decide_eq_false hn
 refine ⟨below_of a b xa xb hord,?_⟩
 by_cases hd:64 < expo a - expo b
 ·exact sum_far a b xa xb hd same
 ·exact sum_near a b xa xb (by omega) hd same
theorem near_flip (e f m n:Int) (h:nearB e f m n=true):nearB f e n m=false:=by
 unfold nearB at *;have:=of_decide_eq_true h;exact decide_eq_false (by omega)
theorem sg_plus (s t:Bool) (A B:Nat) (h:B≤A):sg s (plusOr (s == t) A B)=sg s A+sg t B:=by
 cases s <;> cases t
 ·show ((plusOr true A B:Nat):Int)=(A:Int)+(B:Int); rw [plusOr_t]; omega
 ·show ((plusOr false A B:Nat):Int)=(A:Int) + -(B:Int); rw [plusOr_f]; omega
 ·show -((plusOr false A B:Nat):Int)=-(A:Int)+(B:Int); rw [plusOr_f]; omega
 ·show -((plusOr true A B:Nat):Int)=-(A:Int) + -(B:Int); rw [plusOr_t]; omega
theorem plus_dir (s t:Bool) (a b:Nat) (ra:rightB a=true) (rb:rightB b=true) (up:Bool) :
  (up=false→Down 1 (sg s (steps (rung a))+sg t (steps (rung b))) (roundW (plusN s t (mant a) (mant b) (expo a) (expo b)) (plusW s t (mant a) (mant b) (expo a) (expo b)) (plusX (mant a) (mant b) (expo a) (expo b)) up) (roundE (plusN s t (mant a) (mant b) (expo a) (expo b)) (plusW s t (mant a) (mant b) (expo a) (expo b)) (plusX (mant a) (mant b) (expo a) (expo b)) up)) ∧
  (up=true→Up 1 (sg s (steps (rung a))+sg t (steps (rung b))) (roundW (plusN s t (mant a) (mant b) (expo a) (expo b)) (plusW s t (mant a) (mant b) (expo a) (expo b)) (plusX (mant a) (mant b) (expo a) (expo b)) up) (roundE (plusN s t (mant a) (mant b) (expo a) (expo b)) (plusW s t (mant a) (mant b) (expo a) (expo b)) (plusX (mant a) (mant b) (expo a) (expo b)) up)):=by
 have xa:=expo_in a ra;have xb:=expo_in b rb;have hlt:=plusW_lt s t (mant a) (mant b) (expo a) (expo b) (mant_lt a) (mant_lt b) (mant_norm a) (mant_norm b) xa.1 xb.1;have hx:=plusX_in (mant a) (mant b) (expo a) (expo b) xa.1 (by omega) xb.1 (by omega)
 cases hn:nearB (expo a) (expo b) (mant a) (mant b)
 ·obtain⟨h1,h2,h3⟩:=sum_real a b xa.1 xb.1 hn (s == t)
  have eN:plusN s t (mant a) (mant b) (expo a) (expo b)=s:=if_neg (by rw [hn]; exact Bool.false_ne_true);have eW:plusW s t (mant a) (mant b) (expo a) (expo b)=sumW (s == t) (mant a) (lowerW (mant b) (expo a - expo b)):=if_neg (by rw [hn]; exact Bool.false_ne_true);have eX:plusX (mant a) (mant b) (expo a) (expo b)=expo a - 64:=if_neg (by rw [hn]; exact Bool.false_ne_true);rw [eW] at hlt;rw [eN,eW,eX,←sg_plus s t _ _ h1];exact round_real s _ _ up 1 _ (by decide) hlt (by omega) h2 h3
 ·obtain⟨h1,h2,h3⟩:=sum_real b a xb.1 xa.1 (near_flip _ _ _ _ hn) (t == s)
  have eN:plusN s t (mant a) (mant b) (expo a) (expo b)=t:=if_pos hn;have eW:plusW s t (mant a) (mant b) (expo a) (expo b)=sumW (t == s) (mant b) (lowerW (mant a) (expo b - expo a)):=if_pos hn;have eX:plusX (mant a) (mant b) (expo a) (expo b)=expo b - 64:=if_pos hn;rw [eW] at hlt;rw [eN,eW,eX,Int.add_comm,←sg_plus t s _ _ h1];exact round_real t _ _ up 1 _ (by decide) hlt (by omega) h2 h3
theorem val_sg (a:Nat):val a=sg (sgnB a) (steps (rung a)):=rfl
theorem neg_sg (s:Bool) (A:Nat):sg (!s) A=-sg s A:=by cases s <;> simp [sg]
theorem add_down (a b:Nat) (ra:rightB a=true) (rb:rightB b=true):Down 1 (val a+val b) (addW a b false) (addE a b false):=by
 have e1:addW a b false=_:=if_pos (by rw [ra,rb]; rfl);have e2:addE a b false=_:=if_pos (by rw [ra,rb]; rfl)
 rw [e1,e2]; exact (plus_dir (sgnB a) (sgnB b) a b ra rb false).1 rfl
theorem add_up (a b:Nat) (ra:rightB a=true) (rb:rightB b=true):Up 1 (val a+val b) (addW a b true) (addE a b true):=by
 have e1:addW a b true=_:=if_pos (by rw [ra,rb]; rfl);have e2:addE a b true=_:=if_pos (by rw [ra,rb]; rfl)
 rw [e1,e2]; exact (plus_dir (sgnB a) (sgnB b) a b ra rb true).2 rfl
theorem sub_down (a b:Nat) (ra:rightB a=true) (rb:rightB b=true):Down 1 (val a - val b) (subW a b false) (subE a b false):=by
 have e1:subW a b false=_:=if_pos (by rw [ra,rb]; rfl);have e2:subE a b false=_:=if_pos (by rw [ra,rb]; rfl)
 rw [e1,e2,Int.sub_eq_add_neg,val_sg b,←neg_sg]; exact (plus_dir (sgnB a) (!sgnB b) a b ra rb false).1 rfl
theorem sub_up (a b:Nat) (ra:rightB a=true) (rb:rightB b=true):Up 1 (val a - val b) (subW a b true) (subE a b true):=by
 have e1:subW a b true=_:=if_pos (by rw [ra,rb]; rfl);have e2:subE a b true=_:=if_pos (by rw [ra,rb]; rfl)
 rw [e1,e2,Int.sub_eq_add_neg,val_sg b,←neg_sg]; exact (plus_dir (sgnB a) (!sgnB b) a b ra rb true).2 rfl
def sq:Nat:=1074
theorem sq_eq:sq=1074:=rfl
theorem mul_real (a b:Nat) (xa:-1074≤expo a) (xb:-1074≤expo b) :
  (∀ r,steps r*2 ^ sq≤steps (rung a)*steps (rung b)↔steps r*2 ^ sc≤real (mant a*mant b) (expo a+expo b)) ∧
  (∀ r,steps (rung a)*steps (rung b)≤steps r*2 ^ sq↔real (mant a*mant b) (expo a+expo b)≤steps r*2 ^ sc):=by
 have hs:=sc_eq;have hq:=sq_eq;refine same_scale _ _ (2 ^ (sc - sq)) _ (Nat.two_pow_pos _) ?_ ?_
 ·rw [←Nat.pow_add]; congr 1
 ·unfold real
  rw [steps_parts,steps_parts,Nat.mul_mul_mul_comm,Nat.mul_assoc,←Nat.pow_add,←Nat.pow_add]
  congr 2; omega
theorem sg_mul (s t:Bool) (A B:Nat):sg (!(s == t)) (A*B)=sg s A*sg t B:=by
 cases s <;> cases t <;> simp [sg,Int.natCast_mul,Int.neg_mul,Int.mul_neg]
theorem mul_dir (a b:Nat) (ra:rightB a=true) (rb:rightB b=true) (up:Bool) :
  (up=false→Down (2 ^ sq) (val a*val b) (mulW a b up) (mulE a b up))∧(up=true→Up (2 ^ sq) (val a*val b) (mulW a b up) (mulE a b up)):=by
 have xa:=expo_in a ra;have xb:=expo_in b rb;obtain⟨h2,h3⟩:=mul_real a b xa.1 xb.1
 have hlt:mant a*mant b < 340282366920938463463374607431768211456:=Nat.lt_of_le_of_lt (Nat.mul_le_mul (Nat.le_of_lt (mant_lt a)) (Nat.le_of_lt (mant_lt b))) (by decide)
 have e1:mulW a b up=_:=if_pos (by rw [ra,rb]; rfl);have e2:mulE a b up=_:=if_pos (by rw [ra,rb]; rfl);rw [e1,e2,val_sg a,val_sg b,←sg_mul];exact round_real _ _ _ up _ _ (Nat.two_pow_pos _) hlt (by omega) h2 h3
end
section
open Go.RowKit
theorem steps_form (r:Nat):∃ u k,steps r=u*2 ^ k∧u < 9007199254740992:=by
 unfold steps
 split
 ·exact ⟨r,0,by rw [Nat.pow_zero,Nat.mul_one],by omega⟩
 ·exact ⟨_,_,rfl,by omega⟩
theorem grain (r q E:Nat) (hq:4611686018427387904≤q):steps r*2 ^ sc≤q*2 ^ E∨∃ t,steps r*2 ^ sc=t*2 ^ E:=by
 obtain⟨u,k,h1,h2⟩:=steps_form r;rw [h1,Nat.mul_assoc,←Nat.pow_add]
 rcases Nat.lt_or_ge (k+sc) E with g | g
 ·left
  have a1:2 ^ (k+sc)≤2 ^ E:=Nat.pow_le_pow_right (by decide) (by omega);exact Nat.mul_le_mul (by omega) a1
 ·right
  refine ⟨u*2 ^ (k+sc - E),?_⟩;rw [Nat.mul_assoc,←Nat.pow_add]
  congr 2; omega
theorem cell_div (Y q P P' N o K:Nat) (hY:Y≤q*P∨∃ t,Y=t*P) (hP:P=K*P') (hP':0 < P') (ho:o < N) (hN:N≤K) :
  (Y*N≤(q*N+o)*P↔Y≤q*P+o*P')∧((q*N+o)*P≤Y*N↔q*P+o*P'≤Y):=by
 have hNp:0 < N:=by omega
 have hPp:0 < P:=by rw [hP]; exact Nat.mul_pos (by omega) hP'
 have hoP:o*P' < P:=by rw [hP]; exact Nat.mul_lt_mul_of_pos_right (by omega) hP'
 by_cases hc:Y≤q*P
 ·have h1:Y*N≤q*N*P:=by rw [Nat.mul_right_comm]; exact Nat.mul_le_mul_right _ hc
  rw [Nat.add_mul];refine ⟨⟨fun _=>by omega,fun _=>by omega⟩,?_⟩
  constructor
  ·intro h
   have ho0:o*P=0:=by omega
   have ho1:o=0:=by rcases Nat.mul_eq_zero.1 ho0 with g | g <;> omega
   subst ho1
   have h2:q*P*N≤Y*N:=by rw [Nat.mul_right_comm]; omega
   have:=Nat.le_of_mul_le_mul_right h2 hNp;omega
  ·intro h
   have ho0:o*P'=0:=by omega
   have ho1:o=0:=by rcases Nat.mul_eq_zero.1 ho0 with g | g <;> omega
   subst ho1
   have h2:q*P≤Y:=by omega
   have h3:=Nat.mul_le_mul_right N h2;rw [Nat.mul_right_comm] at h3;omega
 ·obtain⟨t,rfl⟩:∃ t,Y=t*P:=by
   rcases hY with h | h
   ·exact absurd h hc
   ·exact h
  have ht:q+1≤t:=by
   rcases Nat.lt_or_ge q t with g | g
   ·exact g
   ·exact absurd (Nat.mul_le_mul_right P g) hc
  have h1:(q+1)*P≤t*P:=Nat.mul_le_mul_right _ ht;have h2:(q+1)*N≤t*N:=Nat.mul_le_mul_right _ ht;rw [Nat.add_mul,Nat.one_mul] at h1 h2
  have h3:q*N+o < t*N:=by omega
  have h4:(q*N+o)*P < t*P*N:=by rw [Nat.mul_right_comm]; exact Nat.mul_lt_mul_of_pos_right h3 hPp
  refine ⟨⟨fun h=>by omega,fun h=>by omega⟩,⟨fun _=>by omega,fun _=>by omega⟩⟩
theorem cell_root (Y q P P' V o K:Nat) (hY:Y≤q*P∨∃ t,Y=t*P) (hP:P=K*P') (hP':0 < P') (hK:1 < K) (ho:o≤1) (h1:q*q≤V) (h2:V < (q+1)*(q+1)) (hoz:o=0↔q*q=V) :
  (Y*Y≤V*(P*P)↔Y≤q*P+o*P')∧(V*(P*P)≤Y*Y↔q*P+o*P'≤Y):=by
 have hPp:0 < P:=by rw [hP]; exact Nat.mul_pos (by omega) hP'
 have hPP:0 < P*P:=Nat.mul_pos hPp hPp
 have hoP:o*P' < P:=by rw [hP]; exact Nat.mul_lt_mul_of_pos_right (by omega) hP'
 have hqq:q*P*(q*P)=q*q*(P*P):=Nat.mul_mul_mul_comm _ _ _ _
 by_cases hc:Y≤q*P
 ·have h3:Y*Y≤q*q*(P*P):=by rw [←hqq]; exact Nat.mul_le_mul hc hc
  have h4:=Nat.mul_le_mul_right (P*P) h1;refine ⟨⟨fun _=>by omega,fun _=>by omega⟩,?_⟩
  constructor
  ·intro h
   have h5:V*(P*P)≤q*q*(P*P):=Nat.le_trans h h3;have h6:=Nat.le_of_mul_le_mul_right h5 hPP
   have h7:q*q=V:=by omega
   have ho0:=hoz.2 h7;subst ho0;rw [←h7,←hqq] at h
   rcases Nat.lt_or_ge Y (q*P) with g | g
   ·have:=Nat.mul_lt_mul_of_lt_of_le g hc (by omega); omega
   ·omega
  ·intro h
   have ho0:o*P'=0:=by omega
   have ho1:o=0:=by rcases Nat.mul_eq_zero.1 ho0 with g | g <;> omega
   have h7:=hoz.1 ho1
   have h8:q*P≤Y:=by omega
   rw [←h7,←hqq];exact Nat.mul_le_mul h8 h8
 ·obtain⟨t,rfl⟩:∃ t,Y=t*P:=by
   rcases hY with h | h
   ·exact absurd h hc
   ·exact h
  have ht:q+1≤t:=by
   rcases Nat.lt_or_ge q t with g | g
   ·exact g
   ·exact absurd (Nat.mul_le_mul_right P g) hc
  have h3:(q+1)*P≤t*P:=Nat.mul_le_mul_right _ ht;rw [Nat.add_mul,Nat.one_mul] at h3;have h4:=Nat.mul_le_mul ht ht
  have h5:V*(P*P) < t*P*(t*P):=by
   rw [Nat.mul_mul_mul_comm]; exact Nat.mul_lt_mul_of_pos_right (by omega) hPP
  refine ⟨⟨fun h=>by omega,fun h=>by omega⟩,⟨fun _=>by omega,fun _=>by omega⟩⟩
theorem iff_scale (X Z X' Z' C C':Nat) (hC:0 < C) (hC':0 < C') (h1:X*C=X'*C') (h2:Z*C=Z'*C'):(X≤Z↔X'≤Z')∧(Z≤X↔Z'≤X'):=by
 have a1:X≤Z↔X*C≤Z*C:=(Nat.mul_le_mul_right_iff hC).symm;have a2:X'≤Z'↔X'*C'≤Z'*C':=(Nat.mul_le_mul_right_iff hC').symm;have b1:Z≤X↔Z*C≤X*C:=(Nat.mul_le_mul_right_iff hC).symm;have b2:Z'≤X'↔Z'*C'≤X'*C':=(Nat.mul_le_mul_right_iff hC').symm;rw [a1,a2,b1,b2,h1,h2];exact ⟨Iff.rfl,Iff.rfl⟩
theorem quo_big (m n:Nat) (hm:m < 9007199254740992) (hn:n < 9007199254740992) (hm0:m≠0) (hn0:n≠0):4611686018427387904≤m*2 ^ (lz64 m - 1)*18446744073709551616 / (n*2 ^ lz64 n):=by
 obtain⟨h1,h2⟩:=lz_shift n hn0 (by omega);obtain⟨h3,_⟩:=lz_shift m hm0 (by omega);have hl:=lz_ge m hm
 have e:2 ^ lz64 m=2 ^ (lz64 m - 1)*2:=by rw [←Nat.pow_succ]; congr 1; omega
 rw [e,←Nat.mul_assoc] at h3;rw [Nat.le_div_iff_mul_le (by omega)];have h4:4611686018427387904*(n*2 ^ lz64 n)≤4611686018427387904*18446744073709551616:=Nat.mul_le_mul_left _ (Nat.le_of_lt h2);have h5:4611686018427387904*18446744073709551616≤m*2 ^ (lz64 m - 1)*18446744073709551616:=Nat.mul_le_mul_right _ (by omega);exact Nat.le_trans h4 h5
theorem div_real (a b:Nat) (xa:-1074≤expo a) (xa1:expo a≤971) (xb:-1074≤expo b) (xb1:expo b≤971) (hm0:mant a≠0) (hn0:mant b≠0) (r:Nat) :
  (steps r*steps (rung b)≤steps (rung a)*2 ^ sq↔steps r*2 ^ sc≤real (quoW (mant a) (mant b)) (quoX (mant a) (mant b) (expo a) (expo b))) ∧
  (steps (rung a)*2 ^ sq≤steps r*steps (rung b)↔real (quoW (mant a) (mant b)) (quoX (mant a) (mant b) (expo a) (expo b))≤steps r*2 ^ sc):=by
 have hs:=sc_eq;have hq:=sq_eq;have hqx:=quoX_in (mant a) (mant b) (expo a) (expo b) xa xa1 xb xb1;have hla:=lz_ge (mant a) (mant_lt a);obtain⟨_,hN2⟩:=lz_shift (mant b) hn0 (by have:=mant_lt b; omega);have hbig:=quo_big (mant a) (mant b) (mant_lt a) (mant_lt b) hm0 hn0
 have hNp:0 < mant b*2 ^ lz64 (mant b):=Nat.mul_pos (Nat.pos_of_ne_zero hn0) (Nat.two_pow_pos _)
 have eE:(quoX (mant a) (mant b) (expo a) (expo b)+64+1074+(sc:Int)).toNat=64+(quoX (mant a) (mant b) (expo a) (expo b)+1074+(sc:Int)).toNat:=by omega
 have eP:2 ^ (quoX (mant a) (mant b) (expo a) (expo b)+64+1074+(sc:Int)).toNat=18446744073709551616*2 ^ (quoX (mant a) (mant b) (expo a) (expo b)+1074+(sc:Int)).toNat:=by
  rw [eE,Nat.pow_add]
 have hcell:=cell_div (steps r*2 ^ sc) _ _ _ (mant b*2 ^ lz64 (mant b)) (mant a*2 ^ (lz64 (mant a) - 1)*18446744073709551616 % (mant b*2 ^ lz64 (mant b))) 18446744073709551616
  (grain r _ _ hbig) eP (Nat.two_pow_pos _) (Nat.mod_lt _ hNp) (Nat.le_of_lt hN2)
 have hZ:mant a*2 ^ (lz64 (mant a) - 1)*18446744073709551616 / (mant b*2 ^ lz64 (mant b))*(mant b*2 ^ lz64 (mant b))+mant a*2 ^ (lz64 (mant a) - 1)*18446744073709551616 % (mant b*2 ^ lz64 (mant b))=mant a*2 ^ (lz64 (mant a) - 1)*18446744073709551616:=by
  rw [Nat.mul_comm (_ / _)]; exact Nat.div_add_mod _ _
 rw [hZ] at hcell
 have hR:real (quoW (mant a) (mant b)) (quoX (mant a) (mant b) (expo a) (expo b))=mant a*2 ^ (lz64 (mant a) - 1)*18446744073709551616 / (mant b*2 ^ lz64 (mant b))*2 ^ (quoX (mant a) (mant b) (expo a) (expo b)+64+1074+(sc:Int)).toNat+mant a*2 ^ (lz64 (mant a) - 1)*18446744073709551616 % (mant b*2 ^ lz64 (mant b))*2 ^ (quoX (mant a) (mant b) (expo a) (expo b)+1074+(sc:Int)).toNat:=by
  unfold real quoW;rw [Nat.add_mul,eP,Nat.mul_assoc]
 rw [hR]
 have hsc:=iff_scale (steps r*steps (rung b)) (steps (rung a)*2 ^ sq) (steps r*2 ^ sc*(mant b*2 ^ lz64 (mant b))) (mant a*2 ^ (lz64 (mant a) - 1)*18446744073709551616*2 ^ (quoX (mant a) (mant b) (expo a) (expo b)+64+1074+(sc:Int)).toNat)
  (2 ^ (sc+lz64 (mant b)+(lz64 (mant a) - 1))) (2 ^ ((expo b+1074).toNat+(lz64 (mant a) - 1))) (Nat.two_pow_pos _) (Nat.two_pow_pos _)
  (by
   rw [steps_parts b]
   have e1:steps r*(mant b*2 ^ (expo b+1074).toNat)*2 ^ (sc+lz64 (mant b)+(lz64 (mant a) - 1))=steps r*mant b*(2 ^ (expo b+1074).toNat*2 ^ (sc+lz64 (mant b)+(lz64 (mant a) - 1))):=by simp only [Nat.mul_assoc]
   have e2:steps r*2 ^ sc*(mant b*2 ^ lz64 (mant b))*2 ^ ((expo b+1074).toNat+(lz64 (mant a) - 1))=steps r*mant b*(2 ^ sc*2 ^ lz64 (mant b)*2 ^ ((expo b+1074).toNat+(lz64 (mant a) - 1))):=by
    rw [Nat.mul_mul_mul_comm]; simp only [Nat.mul_assoc]
   rw [e1,e2,←Nat.pow_add,←Nat.pow_add,←Nat.pow_add]
   congr 2; omega)
  (by
   rw [steps_parts a]
   have e64:(18446744073709551616:Nat)=2 ^ 64:=by decide
   rw [e64];simp only [Nat.mul_assoc,←Nat.pow_add]
   congr 2
   unfold quoX at hqx ⊢
   omega)
 exact ⟨hsc.1.trans hcell.1,hsc.2.trans hcell.2⟩
theorem div_dir (a b:Nat) (ra:rightB a=true) (rb:rightB b=true) (hb:b < 18446744073709551616) (hb0:b≠0) (up:Bool) :
  (up=false→Down (steps (rung b)) (sg (!(sgnB a == sgnB b)) (steps (rung a)*2 ^ sq)) (divW a b up) (divE a b up))∧(up=true→Up (steps (rung b)) (sg (!(sgnB a == sgnB b)) (steps (rung a)*2 ^ sq)) (divW a b up) (divE a b up)):=by
 have xa:=expo_in a ra;have xb:=expo_in b rb
 have hrb:rung b≠0:=by
  have:=right_ne b rb;have hm:=right_rung b rb;unfold rung at *;intro h;omega
 have hB:0 < steps (rung b):=by
  rcases Nat.eq_zero_or_pos (steps (rung b)) with h | h
  ·exact absurd ((steps_zero _).1 h) hrb
  ·exact h
 have hn0:mant b≠0:=by
  intro h;rw [steps_parts,h,Nat.zero_mul] at hB;omega
 have hlt:=(quo_hi (mant a) (mant b) (mant_lt a) (mant_lt b) hn0).1;have hqx:=quoX_in (mant a) (mant b) (expo a) (expo b) xa.1 xa.2 xb.1 xb.2;have e1:divW a b up=_:=if_pos (by rw [ra,rb,decide_eq_false hb0]; rfl);have e2:divE a b up=_:=(if_pos (by rw [ra,rb]; rfl)).trans (if_neg hb0);rw [e1,e2]
 by_cases hm0:mant a=0
 ·have hA:steps (rung a)=0:=by rw [steps_parts,hm0,Nat.zero_mul]
  have hW:quoW (mant a) (mant b)=0:=by
   unfold quoW; rw [hm0,Nat.zero_mul,Nat.zero_mul,Nat.zero_div,Nat.zero_mod,Nat.zero_mul]
  have hR:real (quoW (mant a) (mant b)) (quoX (mant a) (mant b) (expo a) (expo b))=0:=by unfold real; rw [hW,Nat.zero_mul]
  refine round_real _ _ _ up _ _ hB hlt (by omega) (fun r=>?_) (fun r=>?_)
  ·rw [hA,hR,Nat.zero_mul,Nat.le_zero,Nat.le_zero,Nat.mul_eq_zero,Nat.mul_eq_zero]
   have:=Nat.two_pow_pos sc
   constructor
   ·rintro (h | h)
    ·exact Or.inl h
    ·omega
   ·rintro (h | h)
    ·exact Or.inl h
    ·omega
  ·rw [hA,hR,Nat.zero_mul]; exact ⟨fun _=>Nat.zero_le _,fun _=>Nat.zero_le _⟩
 ·exact round_real _ _ _ up _ _ hB hlt (by omega) (fun r=>(div_real a b xa.1 xa.2 xb.1 xb.2 hm0 hn0 r).1) (fun r=>(div_real a b xa.1 xa.2 xb.1 xb.2 hm0 hn0 r).2)
theorem root_big (m:Nat) (e:Int) (h0:m≠0) (hm:m < 9007199254740992):4611686018427387904≤Nat.sqrt (rootV m e):=by
 obtain⟨h1,_,_,_⟩:=rootB_in m e h0 hm;have h2:=Nat.lt_succ_sqrt (rootV m e)
 have h3:4611686018427387904*4611686018427387904 < Nat.succ (Nat.sqrt (rootV m e))*Nat.succ (Nat.sqrt (rootV m e)):=by
  refine Nat.lt_of_le_of_lt ?_ h2
  unfold rootV; omega
 have:=sq_lt h3;omega
theorem root_real (a:Nat) (xa:-1074≤expo a) (xa1:expo a≤971) (hm0:mant a≠0) (r:Nat) :
  (steps r*steps r≤steps (rung a)*2 ^ sq↔steps r*2 ^ sc≤real (rootW (mant a) (expo a)) (rootX (mant a) (expo a))) ∧
  (steps (rung a)*2 ^ sq≤steps r*steps r↔real (rootW (mant a) (expo a)) (rootX (mant a) (expo a))≤steps r*2 ^ sc):=by
 have hs:=sc_eq;have hq:=sq_eq;obtain⟨b1,b2,b3,b4⟩:=rootB_in (mant a) (expo a) hm0 (mant_lt a);have hX:rootX (mant a) (expo a)=(expo a - (rootB (mant a) (expo a):Int) - 64) / 2 - 64:=if_neg hm0;have hxin:=rootX_in (mant a) (expo a) (mant_lt a) xa xa1
 have eE:(rootX (mant a) (expo a)+64+1074+(sc:Int)).toNat=64+(rootX (mant a) (expo a)+1074+(sc:Int)).toNat:=by omega
 have eP:2 ^ (rootX (mant a) (expo a)+64+1074+(sc:Int)).toNat=18446744073709551616*2 ^ (rootX (mant a) (expo a)+1074+(sc:Int)).toNat:=by
  rw [eE,Nat.pow_add]
 have hcell:=cell_root (steps r*2 ^ sc) (Nat.sqrt (rootV (mant a) (expo a))) _ _ (rootV (mant a) (expo a)) (restR (rootV (mant a) (expo a))) 18446744073709551616
  (grain r _ _ (root_big _ _ hm0 (mant_lt a))) eP (Nat.two_pow_pos _) (by decide) (restR_le _) (Nat.sqrt_le _) (Nat.lt_succ_sqrt _)
  (by unfold restR; split <;> simp_all)
 have hR:real (rootW (mant a) (expo a)) (rootX (mant a) (expo a))=Nat.sqrt (rootV (mant a) (expo a))*2 ^ (rootX (mant a) (expo a)+64+1074+(sc:Int)).toNat+restR (rootV (mant a) (expo a))*2 ^ (rootX (mant a) (expo a)+1074+(sc:Int)).toNat:=by
  have e:rootW (mant a) (expo a)=_:=if_neg hm0;unfold real;rw [e,Nat.add_mul,eP,Nat.mul_assoc]
 rw [hR]
 have hsc:=iff_scale (steps r*steps r) (steps (rung a)*2 ^ sq) (steps r*2 ^ sc*(steps r*2 ^ sc)) (rootV (mant a) (expo a)*(2 ^ (rootX (mant a) (expo a)+64+1074+(sc:Int)).toNat*2 ^ (rootX (mant a) (expo a)+64+1074+(sc:Int)).toNat))
  (2 ^ sc*2 ^ sc) 1 (Nat.mul_pos (Nat.two_pow_pos _) (Nat.two_pow_pos _)) (by decide)
  (by rw [Nat.mul_one,Nat.mul_mul_mul_comm])
  (by
   rw [steps_parts a,Nat.mul_one];unfold rootV
   have e64:(18446744073709551616:Nat)=2 ^ 64:=by decide
   rw [e64];simp only [Nat.mul_assoc,←Nat.pow_add]
   congr 2
   omega)
 exact ⟨hsc.1.trans hcell.1,hsc.2.trans hcell.2⟩
theorem steps_ge (r:Nat) (h:sq+1≤r / 4503599627370496):2 ^ sq≤steps r:=by
 unfold steps;rw [if_neg (by omega)];have h1:2 ^ sq≤2 ^ (r / 4503599627370496 - 1):=Nat.pow_le_pow_right (by decide) (by omega);exact Nat.le_trans h1 (Nat.le_mul_of_pos_left _ (by omega))
theorem steps_inf:2 ^ sq≤steps 9218868437227405312:=steps_ge _ (by rw [sq_eq]; decide)
theorem sqrt_rungs (a:Nat) (ra:rightB a=true) (sa:sgnB a=false) (up:Bool) :
  sqrtE a up=0∧sqrtW a up≤9218868437227405311∧(up=false→∀ r,steps r*steps r≤steps (rung a)*2 ^ sq↔r≤sqrtW a up)∧(up=true→∀ r,steps (rung a)*2 ^ sq≤steps r*steps r↔sqrtW a up≤r):=by
 have xa:=expo_in a ra;have e1:sqrtW a up=roundW false (rootW (mant a) (expo a)) (rootX (mant a) (expo a)) up:=if_pos (by rw [ra,sa]; rfl);have e2:sqrtE a up=roundE false (rootW (mant a) (expo a)) (rootX (mant a) (expo a)) up:=(if_pos ra).trans (if_neg (by rw [sa]; exact Bool.false_ne_true));rw [e1,e2]
 by_cases hm0:mant a=0
 ·have hA:steps (rung a)=0:=by rw [steps_parts,hm0,Nat.zero_mul]
  have hW:rootW (mant a) (expo a)=0:=if_pos hm0;have r1:roundW false (rootW (mant a) (expo a)) (rootX (mant a) (expo a)) up=0:=if_pos hW;have r2:roundE false (rootW (mant a) (expo a)) (rootX (mant a) (expo a)) up=0:=if_pos hW;rw [r1,r2,hA,Nat.zero_mul];refine ⟨rfl,by decide,fun _ r=>?_,fun _ r=>⟨fun _=>Nat.zero_le _,fun _=>Nat.zero_le _⟩⟩;rw [Nat.le_zero,Nat.le_zero,Nat.mul_eq_zero,or_self];exact steps_zero r
 ·have hlt:=rootW_lt (mant a) (expo a) (mant_lt a)
  have hxin:=rootX_in (mant a) (expo a) (mant_lt a) xa.1 xa.2
  have hW0:rootW (mant a) (expo a)≠0:=by
   have e:rootW (mant a) (expo a)=_:=if_neg hm0;have:=root_big (mant a) (expo a) hm0 (mant_lt a)
   rw [e]; omega
  have hF:∀ r,steps r*steps r≤steps (rung a)*2 ^ sq↔r≤rungOf (rootW (mant a) (expo a)) (rootX (mant a) (expo a)) false:=fun r=>(root_real a xa.1 xa.2 hm0 r).1.trans (rung_floor _ _ hW0 hlt (by omega) r)
  have hG:∀ r,steps (rung a)*2 ^ sq≤steps r*steps r↔rungOf (rootW (mant a) (expo a)) (rootX (mant a) (expo a)) true≤r:=fun r=>(root_real a xa.1 xa.2 hm0 r).2.trans (rung_ceil _ _ hW0 hlt (by omega) r)
  have hAm:steps (rung a) < steps 9218868437227405312:=steps_lt (right_rung a ra)
  have r1:roundW false (rootW (mant a) (expo a)) (rootX (mant a) (expo a)) up=packW false (rungOf (rootW (mant a) (expo a)) (rootX (mant a) (expo a)) (up != false)) (up != false):=if_neg hW0;have r2:roundE false (rootW (mant a) (expo a)) (rootX (mant a) (expo a)) up=packE (rungOf (rootW (mant a) (expo a)) (rootX (mant a) (expo a)) (up != false)) (up != false):=if_neg hW0;rw [r1,r2]
  cases up
  ·have hb:rungOf (rootW (mant a) (expo a)) (rootX (mant a) (expo a)) false≤9218868437227405311:=by
    rcases Nat.lt_or_ge 9218868437227405311 (rungOf (rootW (mant a) (expo a)) (rootX (mant a) (expo a)) false) with g | g
    ·have h1:=(hF 9218868437227405312).2 g
     have h2:=Nat.mul_lt_mul_of_lt_of_le hAm steps_inf (by have:=Nat.two_pow_pos sq; have:=steps_inf; omega);omega
    ·exact g
   obtain⟨p1,p2⟩:=pack_floor false (rungOf (rootW (mant a) (expo a)) (rootX (mant a) (expo a)) false)
   show packE (rungOf (rootW (mant a) (expo a)) (rootX (mant a) (expo a)) false) false=0∧packW false (rungOf (rootW (mant a) (expo a)) (rootX (mant a) (expo a)) false) false≤_∧(_→∀ r,_↔r≤packW false (rungOf (rootW (mant a) (expo a)) (rootX (mant a) (expo a)) false) false)∧_
   rw [p1,p2,Nat.min_eq_left hb,sw_false];exact ⟨rfl,hb,fun _=>hF,fun h=>(by cases h)⟩
  ·have hb:rungOf (rootW (mant a) (expo a)) (rootX (mant a) (expo a)) true≤9218868437227405311:=by
    refine (hG _).1 ?_;have hle:steps (rung a)≤steps 9218868437227405311:=steps_le (rung_max ra);have h3:2 ^ sq≤steps 9218868437227405311:=steps_ge _ (by rw [sq_eq]; decide);exact Nat.mul_le_mul hle h3
   obtain⟨p1,p2⟩:=pack_ceil false (rungOf (rootW (mant a) (expo a)) (rootX (mant a) (expo a)) true) hb
   show packE (rungOf (rootW (mant a) (expo a)) (rootX (mant a) (expo a)) true) true=0∧packW false (rungOf (rootW (mant a) (expo a)) (rootX (mant a) (expo a)) true) true≤_∧_∧(_→∀ r,_↔packW false (rungOf (rootW (mant a) (expo a)) (rootX (mant a) (expo a)) true) true≤r)
   rw [p1,p2,sw_false];exact ⟨rfl,hb,fun h=>(by cases h),fun _=>hG⟩
end
section
open Go.RowKit
theorem order_gt (a b:Nat) (ha:a < 18446744073709551616) (hb:b < 18446744073709551616) (ra:rightB a=true) (rb:rightB b=true):(FloatKind.f64.format.order a b == some Ordering.gt)=decide (val b < val a):=by
 rw [order_val a b ha hb (right_rung a ra) (right_rung b rb)]
 rcases Int.lt_trichotomy (val a) (val b) with g | g | g
 ·rw [Int.compare_eq_lt.2 g,decide_eq_false (by omega)]; rfl
 ·rw [Int.compare_eq_eq.2 g,decide_eq_false (by omega)]; rfl
 ·rw [Int.compare_eq_gt.2 g,decide_eq_true g]; rfl
theorem Down.err {s:Nat} {T:Int} {c:Nat} {e:Int} (h:Down s T c e):e=0∨e=10:=by
 rcases h with ⟨h,_⟩ | ⟨h,_⟩ <;> omega
theorem Up.err {s:Nat} {T:Int} {c:Nat} {e:Int} (h:Up s T c e):e=0∨e=10:=by
 rcases h with ⟨h,_⟩ | ⟨h,_⟩ <;> omega
theorem Down.ok {s:Nat} {T:Int} {c:Nat} (h:Down s T c 0):c < 18446744073709551616∧rightB c=true∧val c*(s:Int)≤T∧∀ d,d < 18446744073709551616→rightB d=true→val d*(s:Int)≤T→val d≤val c:=by
 rcases h with ⟨_,h⟩ | ⟨h,_⟩
 ·exact h
 ·omega
theorem Up.ok {s:Nat} {T:Int} {c:Nat} (h:Up s T c 0):c < 18446744073709551616∧rightB c=true∧T≤val c*(s:Int)∧∀ d,d < 18446744073709551616→rightB d=true→T≤val d*(s:Int)→val c≤val d:=by
 rcases h with ⟨_,h⟩ | ⟨h,_⟩
 ·exact h
 ·omega
end
section
open Go.RowKit
theorem word_parts (a:Nat) (ha:a < 18446744073709551616):a=if sgnB a then 9223372036854775808+rung a else rung a:=by
 unfold sgnB rung
 by_cases g:9223372036854775808≤a
 ·rw [decide_eq_true g,if_pos rfl]; omega
 ·rw [decide_eq_false g,if_neg Bool.false_ne_true]; omega
theorem steps_inj {r s:Nat} (h:steps r=steps s):r=s:=by
 have h1:=(steps_le_iff r s).1 (by omega);have h2:=(steps_le_iff s r).1 (by omega);omega
theorem val_inj {a b:Nat} (ha:a < 18446744073709551616) (hb:b < 18446744073709551616) (ra:rightB a=true) (rb:rightB b=true) (h:val a=val b):a=b:=by
 have na:=val_neg a ha ra;have nb:=val_neg b hb rb
 have hs:sgnB a=sgnB b:=by
  cases sa:sgnB a <;> cases sb:sgnB b <;> simp_all
 have hst:steps (rung a)=steps (rung b):=by
  unfold val at h;rw [hs] at h;revert h
  cases sgnB b
  ·intro h; exact Int.ofNat.inj h
  ·intro h; exact Int.ofNat.inj (Int.neg_inj.1 h)
 rw [word_parts a ha,word_parts b hb,hs,steps_inj hst]
theorem order_eq (a b:Nat) (ha:a < 18446744073709551616) (hb:b < 18446744073709551616) (ra:rightB a=true) (rb:rightB b=true):(FloatKind.f64.format.order a b == some Ordering.eq)=decide (val a=val b):=by
 rw [order_val a b ha hb (right_rung a ra) (right_rung b rb)]
 rcases Int.lt_trichotomy (val a) (val b) with g | g | g
 ·rw [Int.compare_eq_lt.2 g,decide_eq_false (by omega)]; rfl
 ·rw [Int.compare_eq_eq.2 g,decide_eq_true g]; rfl
 ·rw [Int.compare_eq_gt.2 g,decide_eq_false (by omega)]; rfl
theorem order_lt (a b:Nat) (ha:a < 18446744073709551616) (hb:b < 18446744073709551616) (ra:rightB a=true) (rb:rightB b=true):(FloatKind.f64.format.order a b == some Ordering.lt)=decide (val a < val b):=by
 rw [order_val a b ha hb (right_rung a ra) (right_rung b rb)]
 rcases Int.lt_trichotomy (val a) (val b) with g | g | g
 ·rw [Int.compare_eq_lt.2 g,decide_eq_true g]; rfl
 ·rw [Int.compare_eq_eq.2 g,decide_eq_false (by omega)]; rfl
 ·rw [Int.compare_eq_gt.2 g,decide_eq_false (by omega)]; rfl
end
end Go.Proofs.YtnaomilkgfkegaaGreat
