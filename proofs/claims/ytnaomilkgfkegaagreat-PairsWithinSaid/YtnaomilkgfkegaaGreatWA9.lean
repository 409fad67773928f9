/- What the claim stands on, part 10: Ieee, Parts, Near, NearD, UnitM, Fair, Grows. -/
import Derived.Test.YtnaomilkgfkegaaGreatWA8
import Derived.Laws.FloatArith
import Derived.Laws.Cover2
namespace Go.Proofs.YtnaomilkgfkegaaGreat
section
open Go.RowKit
theorem cut_even (neg:Bool) (n drop:Nat):Ieee.Toward.even.cut neg n drop=n / 2 ^ drop∨(Ieee.Toward.even.cut neg n drop=n / 2 ^ drop+1∧n % 2 ^ drop≠0):=by
 unfold Ieee.Toward.cut;simp only [Nat.shiftLeft_eq,Nat.one_mul]
 by_cases h:drop≤n.log2+2
 ·rw [Nat.min_eq_left h]
  have hp:0 < 2 ^ drop:=Nat.two_pow_pos _
  cases hc:(decide (2 ^ drop < 2*(n % 2 ^ drop)) || (2 ^ drop == 2*(n % 2 ^ drop)&&n / 2 ^ drop % 2 == 1))
  ·left; rfl
  ·right
   refine ⟨rfl,?_⟩;intro h0;rw [h0] at hc
   simp at hc
 ·rw [Nat.min_eq_right (by omega)]
  have h1:n < 2 ^ (n.log2+1):=Nat.lt_log2_self
  have e:2 ^ (n.log2+2)=2 ^ (n.log2+1)*2:=Nat.pow_succ ..
  have h2:n < 2 ^ (n.log2+2):=by omega
  have h3:n < 2 ^ drop:=Nat.lt_of_lt_of_le h2 (Nat.pow_le_pow_right (by decide) (by omega))
  left
  rw [Nat.div_eq_of_lt h2,Nat.mod_eq_of_lt h2,Nat.div_eq_of_lt h3]
  have hc:(decide (2 ^ (n.log2+2) < 2*n) || (2 ^ (n.log2+2) == 2*n&&0 % 2 == 1))=false:=by
   rw [decide_eq_false (by omega)]
   simp
  rw [hc]
  rfl
theorem near_rung (neg:Bool) (mag:Nat) (place:Int) (h0:mag≠0) (hp:-6000≤place) :
  ∃ R,Ieee.double.nearest neg mag place=Ieee.double.word neg (min R 9218868437227405312)∧(∀ r,steps r*2 ^ sc≤real mag place→r≤R)∧(∀ r,real mag place≤steps r*2 ^ sc→R≤r):=by
 have hs:=sc_eq;have l1:2 ^ mag.log2≤mag:=Nat.log2_self_le h0
 have l2:mag < 2 ^ (mag.log2+1):=Nat.lt_log2_self
 -- the place of the last digit that is kept
 obtain⟨last,hlast⟩:∃ last:Int,last=max (place+mag.log2 - 52) (-1074):=⟨_,rfl⟩
 have hR:Ieee.double.nearest neg mag place=Ieee.double.word neg (min ((last+1074).toNat*4503599627370496+Ieee.Toward.even.cut neg (mag*2 ^ (place - last).toNat) (last - place).toNat) 9218868437227405312):=by
  unfold Ieee.Format.nearest;rw [if_neg h0,bin64,inf64,lp64]
  have e1:(max (place+(mag.log2:Int) - ((Ieee.double.fractionBits:Nat):Int)) (-1074))=last:=by rw [hlast]; rfl
  simp only [e1,Nat.shiftLeft_eq]
  have e2 : (last - -1074).toNat = (last + 1074).toNat := by omega
  rw [e2]
 refine ⟨_,hR,?_⟩;have hc:=cut_even neg (mag*2 ^ (place - last).toNat) (last - place).toNat
 -- the digits that are kept, and what they stand for
 obtain⟨low,hlow⟩:∃ low,low=mag*2 ^ (place - last).toNat / 2 ^ (last - place).toNat:=⟨_,rfl⟩
 have hd:0 < 2 ^ (last - place).toNat:=Nat.two_pow_pos _
 have hpp:0 < 2 ^ (place+1074+(sc:Int) - (place - last).toNat).toNat:=Nat.two_pow_pos _
 have b1:low*2 ^ (last - place).toNat≤mag*2 ^ (place - last).toNat:=by rw [hlow]; exact Nat.div_mul_le_self _ _
 have b2:mag*2 ^ (place - last).toNat < (low+1)*2 ^ (last - place).toNat:=by
  have:=Nat.lt_mul_div_succ (mag*2 ^ (place - last).toNat) hd
  rw [Nat.mul_comm (2 ^ (last - place).toNat)] at this; rw [hlow]; exact this
 have eK:∀ M,M*2 ^ (last+1074).toNat*2 ^ sc=M*2 ^ (last - place).toNat*2 ^ (place+1074+(sc:Int) - (place - last).toNat).toNat:=by
  intro M;rw [Nat.mul_assoc,Nat.mul_assoc,←Nat.pow_add,←Nat.pow_add]
  congr 2; omega
 have eR:real mag place=mag*2 ^ (place - last).toNat*2 ^ (place+1074+(sc:Int) - (place - last).toNat).toNat:=by
  unfold real;rw [Nat.mul_assoc,←Nat.pow_add]
  congr 2; omega
 have hnorm:low < 9007199254740992∧((last+1074).toNat=0∨4503599627370496≤low):=by
  have e53:(9007199254740992:Nat)=2 ^ 53:=by decide
  have e52:(4503599627370496:Nat)=2 ^ 52:=by decide
  constructor
  ·rw [hlow,Nat.div_lt_iff_lt_mul hd,e53,←Nat.pow_add]
   have:mag*2 ^ (place - last).toNat < 2 ^ (mag.log2+1)*2 ^ (place - last).toNat:=Nat.mul_lt_mul_of_pos_right l2 (Nat.two_pow_pos _)
   rw [←Nat.pow_add] at this;exact Nat.lt_of_lt_of_le this (Nat.pow_le_pow_right (by decide) (by omega))
  ·by_cases c:last=-1074
   ·left; omega
   ·right
    rw [hlow,Nat.le_div_iff_mul_le hd,e52,←Nat.pow_add];have:2 ^ mag.log2*2 ^ (place - last).toNat≤mag*2 ^ (place - last).toNat:=Nat.mul_le_mul_right _ l1;rw [←Nat.pow_add] at this;exact Nat.le_trans (Nat.pow_le_pow_right (by decide) (by omega)) this
 have s1:=steps_km (last+1074).toNat low (by omega) hnorm.2;have s2:=steps_km (last+1074).toNat (low+1) (by omega) (by omega)
 have f1:steps ((last+1074).toNat*4503599627370496+low)*2 ^ sc≤real mag place:=by
  rw [s1,eK,eR]; exact Nat.mul_le_mul_right _ b1
 have f2:real mag place < steps ((last+1074).toNat*4503599627370496+(low+1))*2 ^ sc:=by
  rw [s2,eK,eR]; exact Nat.mul_lt_mul_of_pos_right b2 hpp
 have hsc:0 < 2 ^ sc:=Nat.two_pow_pos _
 have floor:∀ r,steps r*2 ^ sc≤real mag place→r≤(last+1074).toNat*4503599627370496+low:=by
  intro r h;have:=Nat.lt_of_mul_lt_mul_right (Nat.lt_of_le_of_lt h f2)
  rcases Nat.lt_or_ge ((last+1074).toNat*4503599627370496+low) r with g | g
  ·have:=steps_le (show (last+1074).toNat*4503599627370496+(low+1)≤r by omega); omega
  ·exact g
 have ceil0:∀ r,real mag place≤steps r*2 ^ sc→(last+1074).toNat*4503599627370496+low≤r:=by
  intro r h;exact (steps_le_iff _ _).1 (Nat.le_of_mul_le_mul_right (Nat.le_trans f1 h) hsc)
 rw [←hlow] at hc
 rcases hc with hc | ⟨hc,hne⟩
 ·rw [hc]; exact ⟨floor,ceil0⟩
 ·rw [hc]
  refine ⟨fun r h=>by have:=floor r h; omega,fun r h=>?_⟩
  have hlt:steps ((last+1074).toNat*4503599627370496+low)*2 ^ sc < real mag place:=by
   rw [s1,eK,eR];refine Nat.mul_lt_mul_of_pos_right ?_ hpp;have h1:=Nat.div_add_mod (mag*2 ^ (place - last).toNat) (2 ^ (last - place).toNat);rw [←hlow,Nat.mul_comm] at h1;omega
  have:=Nat.lt_of_mul_lt_mul_right (Nat.lt_of_lt_of_le hlt h)
  rcases Nat.lt_or_ge ((last+1074).toNat*4503599627370496+low) r with g | g
  ·omega
  ·have:=steps_le g; omega
end
section
open Go.RowKit
theorem right_0:rightB 0=true:=by decide
theorem pos_sgn {a:Nat} (ha:a < 18446744073709551616) (ra:rightB a=true) (h:0≤val a):sgnB a=false:=by
 cases hc:sgnB a
 ·rfl
 ·have:=(val_neg a ha ra).2 hc; omega
end
section
open Go.RowKit
def Beside (s:Nat) (T:Int) (r:Nat):Prop:=∀ x y,Down s T x 0→Up s T y 0→r < 18446744073709551616∧rung r < 9218868437227405312∧(val r=val x∨val r=val y)
theorem word_sw (neg:Bool) (R:Nat) (h:R < 9218868437227405312):Ieee.double.word neg (min R 9218868437227405312) < 18446744073709551616∧rung (Ieee.double.word neg (min R 9218868437227405312))=R∧val (Ieee.double.word neg (min R 9218868437227405312))=sg neg (steps R):=by
 rw [Nat.min_eq_left (by omega)];unfold Ieee.Format.word;rw [sw64]
 cases neg
 ·have hs:sgnB R=false:=by unfold sgnB; exact decide_eq_false (by omega)
  have hr:rung R=R:=by unfold rung; omega
  refine ⟨by simp; omega,by simpa using hr,?_⟩
  show val R=(steps R:Int)
  unfold val; rw [hs,hr]; rfl
 ·have hs:sgnB (9223372036854775808+R)=true:=by unfold sgnB; exact decide_eq_true (by omega)
  have hr:rung (9223372036854775808+R)=R:=by unfold rung; omega
  refine ⟨by simp; omega,by simpa using hr,?_⟩
  show val (9223372036854775808+R)=-(steps R:Int)
  unfold val; rw [hs,hr]; rfl
theorem beside_of (neg:Bool) (s Tm R:Nat) (hs:0 < s) (h1:∀ r,steps r*s≤Tm→r≤R) (h2:∀ r,Tm≤steps r*s→R≤r) :
  Beside s (sg neg Tm) (Ieee.double.word neg (min R 9218868437227405312)):=by
 intro x y hx hy;obtain⟨x1,x2,x3,x4⟩:=hx.ok;obtain⟨y1,y2,y3,y4⟩:=hy.ok
 cases neg
 ·have e:sg false Tm=(Tm:Int):=rfl
  rw [e] at x3 x4 y3 y4
  have px:0≤val x:=by
   have:=x4 0 (by decide) right_0 (by rw [val_0,Int.zero_mul]; exact Int.natCast_nonneg _)
   rw [val_0] at this; exact this
  have sx:=pos_sgn x1 x2 px
  have py:0≤val y:=by
   rcases Int.lt_or_le (val y) 0 with g | g
   ·have:val y*(s:Int) < 0:=Int.mul_neg_of_neg_of_pos g (by omega)
    have:=Int.natCast_nonneg Tm; omega
   ·exact g
  have sy:=pos_sgn y1 y2 py;rw [val_pos sx,cast_le] at x3;rw [val_pos sy,le_cast] at y3;have hRy:=h2 _ y3;have hRx:=h1 _ x3
  have hRm:R < 9218868437227405312:=by have:=right_rung y y2; omega
  obtain⟨w1,w2,w3⟩:=word_sw false R hRm;refine ⟨w1,by rw [w2]; exact hRm,?_⟩;have w3':val (Ieee.double.word false (min R 9218868437227405312))=(steps R:Int):=w3;obtain⟨f1,f2,f3⟩:=sw_facts false R (by omega);rw [sw_false] at f1 f2 f3;have f3':val R=(steps R:Int):=f3;rw [w3',←f3']
  rcases Nat.le_total (steps R*s) Tm with g | g
  ·left
   have a1:=x4 R f1 f2 (by rw [f3',cast_le]; exact g);have a2:=steps_le hRx
   rw [val_pos sx] at a1 ⊢; rw [f3'] at a1 ⊢; omega
  ·right
   have a1:=y4 R f1 f2 (by rw [f3',le_cast]; exact g);have a2:=steps_le hRy
   rw [val_pos sy] at a1 ⊢; rw [f3'] at a1 ⊢; omega
 ·have e:sg true Tm=-(Tm:Int):=rfl
  rw [e] at x3 x4 y3 y4
  have py:val y≤0:=by
   have:=y4 0 (by decide) right_0 (by rw [val_0,Int.zero_mul]; have:=Int.natCast_nonneg Tm; omega)
   rw [val_0] at this; exact this
  have px:val x≤0:=by
   rcases Int.lt_or_le 0 (val x) with g | g
   ·have:0 < val x*(s:Int):=Int.mul_pos g (by omega)
    have:=Int.natCast_nonneg Tm; omega
   ·exact g
  have ex:val x=-(steps (rung x):Int):=by
   cases hc:sgnB x
   ·have:=val_pos hc; omega
   ·exact val_negs hc
  have ey:val y=-(steps (rung y):Int):=by
   cases hc:sgnB y
   ·have:=val_pos hc; omega
   ·exact val_negs hc
  rw [ex,neg_cast_le] at x3;rw [ey,le_neg_cast] at y3;have hRx:=h2 _ x3;have hRy:=h1 _ y3
  have hRm:R < 9218868437227405312:=by have:=right_rung x x2; omega
  obtain⟨w1,w2,w3⟩:=word_sw true R hRm;refine ⟨w1,by rw [w2]; exact hRm,?_⟩;have w3':val (Ieee.double.word true (min R 9218868437227405312))=-(steps R:Int):=w3;obtain⟨f1,f2,f3⟩:=sw_facts true R (by omega);have f3':val (sw true R)=-(steps R:Int):=f3;rw [w3',←f3']
  rcases Nat.le_total (steps R*s) Tm with g | g
  ·right
   have a1:=y4 _ f1 f2 (by rw [f3',le_neg_cast]; exact g);have a2:=steps_le hRy
   rw [ey] at a1 ⊢; rw [f3'] at a1 ⊢; omega
  ·left
   have a1:=x4 _ f1 f2 (by rw [f3',neg_cast_le]; exact g);have a2:=steps_le hRx
   rw [ex] at a1 ⊢; rw [f3'] at a1 ⊢; omega
theorem beside_near (neg:Bool) (mag:Nat) (place:Int) (s Tm:Nat) (hs:0 < s) (hp:-6000≤place)
  (hF:∀ r,steps r*s≤Tm↔steps r*2 ^ sc≤real mag place) (hG:∀ r,Tm≤steps r*s↔real mag place≤steps r*2 ^ sc) :
  Beside s (sg neg Tm) (Ieee.double.nearest neg mag place):=by
 by_cases h0:mag=0
 ·subst h0
  have e:Ieee.double.nearest neg 0 place=Ieee.double.word neg (min 0 9218868437227405312):=by
   unfold Ieee.Format.nearest; rw [if_pos rfl]; rfl
  have hr:real 0 place=0:=Nat.zero_mul _;have hp2:=Nat.two_pow_pos sc;rw [e];refine beside_of neg s Tm 0 hs (fun r h=>?_) (fun r _=>Nat.zero_le _);have:=(hF r).1 h;rw [hr,Nat.le_zero,Nat.mul_eq_zero] at this
  rcases this with g | g
  ·rw [(steps_zero r).1 g]; exact Nat.le_refl _
  ·omega
 ·obtain⟨R,e,h1,h2⟩:=near_rung neg mag place h0 hp
  rw [e];exact beside_of neg s Tm R hs (fun r h=>h1 r ((hF r).1 h)) (fun r h=>h2 r ((hG r).1 h))
theorem mul_beside (a b:Nat) (ha:a < 18446744073709551616) (hb:b < 18446744073709551616) (ra:rightB a=true) (rb:rightB b=true) :
  ∃ r,floatBits .mul .f64 a b=some r∧Beside (2 ^ sq) (val a*val b) r:=by
 have xa:=expo_in a ra;have xb:=expo_in b rb;obtain⟨h2,h3⟩:=mul_real a b xa.1 xb.1;refine ⟨Ieee.double.nearest (sgnB a ^^ sgnB b) (mant a*mant b) (expo a+expo b),?_,?_⟩
 ·show (((Ieee.double.read a).product (Ieee.double.read b)).map Ieee.double.write)=_
  rw [read_num a ha (right_rung a ra),read_num b hb (right_rung b rb)]
  rfl
 ·have e:val a*val b=sg (sgnB a ^^ sgnB b) (steps (rung a)*steps (rung b)):=by
   rw [val_sg a,val_sg b,←sg_mul]
   cases sgnB a <;> cases sgnB b <;> rfl
  rw [e];exact beside_near _ _ _ _ _ (Nat.two_pow_pos _) (by omega) h2 h3
theorem sum_beside (s t:Bool) (a b:Nat) (xa:-1074≤expo a) (xb:-1074≤expo b) :
  ∃ r,((Ieee.Datum.number s (mant a) (expo a)).sum (.number t (mant b) (expo b))).map Ieee.double.write=some r∧Beside 1 (sg s (steps (rung a))+sg t (steps (rung b))) r:=by
 have hs:=sc_eq;obtain⟨base,hbase⟩:∃ base:Int,base=min (expo a) (expo b):=⟨_,rfl⟩;obtain⟨total,htot⟩:∃ total:Int,total=Ieee.signed s (mant a) (expo a - base).toNat+Ieee.signed t (mant b) (expo b - base).toNat:=⟨_,rfl⟩
 have e1:sg s (steps (rung a))=Ieee.signed s (mant a) (expo a - base).toNat*((2 ^ (base+1074).toNat:Nat):Int):=by
  rw [←signed_mul,show (expo a - base).toNat+(base+1074).toNat=(expo a+1074).toNat by omega]
  unfold Ieee.signed sg; rw [steps_parts,Nat.shiftLeft_eq]
 have e2:sg t (steps (rung b))=Ieee.signed t (mant b) (expo b - base).toNat*((2 ^ (base+1074).toNat:Nat):Int):=by
  rw [←signed_mul,show (expo b - base).toNat+(base+1074).toNat=(expo b+1074).toNat by omega]
  unfold Ieee.signed sg; rw [steps_parts,Nat.shiftLeft_eq]
 have eT:sg s (steps (rung a))+sg t (steps (rung b))=total*((2 ^ (base+1074).toNat:Nat):Int):=by
  rw [e1,e2,htot,Int.add_mul]
 have hsame:=same_scale 1 (total.natAbs*2 ^ (base+1074).toNat) (2 ^ sc) (real total.natAbs base) (Nat.two_pow_pos _) (Nat.one_mul _) (by
  unfold real; rw [Nat.mul_assoc,←Nat.pow_add]; congr 2; omega)
 refine ⟨Ieee.double.nearest (if total=0 then s&&t else decide (total < 0)) total.natAbs base,?_,?_⟩
 ·unfold Ieee.Datum.sum
  simp only [←hbase,←htot]
  rfl
 ·have eS:sg s (steps (rung a))+sg t (steps (rung b))=sg (if total=0 then s&&t else decide (total < 0)) (total.natAbs*2 ^ (base+1074).toNat):=by
   rw [eT]
   by_cases h0:total=0
   ·rw [h0,if_pos rfl,Int.zero_mul]
    cases (s&&t) <;> simp [sg]
   ·rw [if_neg h0]
    by_cases h1:total < 0
    ·rw [decide_eq_true h1]
     show _=-((total.natAbs*2 ^ (base+1074).toNat:Nat):Int)
     rw [Int.natCast_mul,←Int.neg_mul]; congr 1; omega
    ·rw [decide_eq_false h1]
     show _=((total.natAbs*2 ^ (base+1074).toNat:Nat):Int)
     rw [Int.natCast_mul]; congr 1; omega
  rw [eS];exact beside_near _ _ _ 1 _ (by decide) (by omega) hsame.1 hsame.2
theorem add_beside (a b:Nat) (ha:a < 18446744073709551616) (hb:b < 18446744073709551616) (ra:rightB a=true) (rb:rightB b=true) :
  ∃ r,floatBits .add .f64 a b=some r∧Beside 1 (val a+val b) r:=by
 obtain⟨r,h1,h2⟩:=sum_beside (sgnB a) (sgnB b) a b (expo_in a ra).1 (expo_in b rb).1;refine ⟨r,?_,h2⟩
 show ((Ieee.double.read a).sum (Ieee.double.read b)).map Ieee.double.write=_
 rw [read_num a ha (right_rung a ra),read_num b hb (right_rung b rb)];exact h1
theorem sub_beside (a b:Nat) (ha:a < 18446744073709551616) (hb:b < 18446744073709551616) (ra:rightB a=true) (rb:rightB b=true) :
  ∃ r,floatBits .sub .f64 a b=some r∧Beside 1 (val a - val b) r:=by
 obtain⟨r,h1,h2⟩:=sum_beside (sgnB a) (!sgnB b) a b (expo_in a ra).1 (expo_in b rb).1;refine ⟨r,?_,?_⟩
 ·show ((Ieee.double.read a).sum (Ieee.double.read b).opposite).map Ieee.double.write=_
  rw [read_num a ha (right_rung a ra),read_num b hb (right_rung b rb)];exact h1
 ·rw [neg_sg,←Int.sub_eq_add_neg] at h2
  exact h2
end
section
open Go.RowKit
theorem grain2 (r q E:Nat) (hq:9007199254740992≤q):steps r*2 ^ sc≤q*2 ^ E∨∃ t,steps r*2 ^ sc=t*2 ^ E:=by
 obtain⟨u,k,h1,h2⟩:=steps_form r;rw [h1,Nat.mul_assoc,←Nat.pow_add]
 rcases Nat.lt_or_ge (k+sc) E with g | g
 ·left
  have a1:2 ^ (k+sc)≤2 ^ E:=Nat.pow_le_pow_right (by decide) (by omega);exact Nat.mul_le_mul (by omega) a1
 ·right
  refine ⟨u*2 ^ (k+sc - E),?_⟩;rw [Nat.mul_assoc,←Nat.pow_add]
  congr 2; omega
theorem cell_mark (Y q P P' N o m:Nat) (hY:Y≤q*P∨∃ t,Y=t*P) (hP:P=2*P') (hP':0 < P') (ho:o < N) (hm:m≤1) (hz:o=0↔m=0) :
  (Y*N≤(q*N+o)*P↔Y≤q*P+m*P')∧((q*N+o)*P≤Y*N↔q*P+m*P'≤Y):=by
 have hNp:0 < N:=by omega
 have hPp:0 < P:=by omega
 have hmP:m*P' < P:=by
  have:=Nat.mul_le_mul_right P' hm;omega
 by_cases hc:Y≤q*P
 ·have h1:Y*N≤q*N*P:=by rw [Nat.mul_right_comm]; exact Nat.mul_le_mul_right _ hc
  rw [Nat.add_mul];refine ⟨⟨fun _=>by omega,fun _=>by omega⟩,?_⟩
  constructor
  ·intro h
   have ho0:o*P=0:=by omega
   have ho1:o=0:=by rcases Nat.mul_eq_zero.1 ho0 with g | g <;> omega
   have hm0:=hz.1 ho1
   subst ho1; subst hm0
   have h2:q*P*N≤Y*N:=by rw [Nat.mul_right_comm]; omega
   have:=Nat.le_of_mul_le_mul_right h2 hNp;omega
  ·intro h
   have hm0:m*P'=0:=by omega
   have hm1:m=0:=by rcases Nat.mul_eq_zero.1 hm0 with g | g <;> omega
   have ho0:=hz.2 hm1
   subst ho0; subst hm1
   have h2:q*P≤Y:=by omega
   have h3:=Nat.mul_le_mul_right N h2;rw [Nat.mul_right_comm] at h3;omega
 ·obtain⟨t,rfl⟩:∃ t,Y=t*P:=by
   rcases hY with h | h
   ·exact absurd h hc
   ·exact h
  have ht:q+1≤t:=by
   rcases Nat.lt_or_ge q t with g | g
   ·exact g
   ·exact absurd (Nat.mul_le_mul_right P g) hc
  have h1:(q+1)*P≤t*P:=Nat.mul_le_mul_right _ ht;have h2:(q+1)*N≤t*N:=Nat.mul_le_mul_right _ ht;rw [Nat.add_mul,Nat.one_mul] at h1 h2
  have h3:q*N+o < t*N:=by omega
  have h4:(q*N+o)*P < t*P*N:=by rw [Nat.mul_right_comm]; exact Nat.mul_lt_mul_of_pos_right h3 hPp
  refine ⟨⟨fun h=>by omega,fun h=>by omega⟩,⟨fun _=>by omega,fun _=>by omega⟩⟩
theorem div_mark (a b:Nat) (xa:-1074≤expo a) (xa1:expo a≤971) (xb:-1074≤expo b) (xb1:expo b≤971) (hm0:mant a≠0) (hn0:mant b≠0) (more:Nat) (hmore:more=54+(mant b).log2 - (mant a).log2) (r:Nat) :
  (steps r*steps (rung b)≤steps (rung a)*2 ^ sq↔steps r*2 ^ sc≤real (2*(mant a*2 ^ more / mant b)+(mant a*2 ^ more % mant b != 0).toNat) (expo a - expo b - more - 1)) ∧
  (steps (rung a)*2 ^ sq≤steps r*steps (rung b)↔real (2*(mant a*2 ^ more / mant b)+(mant a*2 ^ more % mant b != 0).toNat) (expo a - expo b - more - 1)≤steps r*2 ^ sc):=by
 have hs:=sc_eq;have hq:=sq_eq
 have la:(mant a).log2 < 53:=(Nat.log2_lt hm0).2 (mant_lt a)
 have lb:(mant b).log2 < 53:=(Nat.log2_lt hn0).2 (mant_lt b)
 have hsum:(mant a).log2+more=54+(mant b).log2:=by omega
 have hbig:9007199254740992≤mant a*2 ^ more / mant b:=by
  rw [Nat.le_div_iff_mul_le (Nat.pos_of_ne_zero hn0)]
  have h1:mant b < 2 ^ ((mant b).log2+1):=Nat.lt_log2_self
  have h2:2 ^ (mant a).log2≤mant a:=Nat.log2_self_le hm0;have h3:9007199254740992*mant b≤9007199254740992*2 ^ ((mant b).log2+1):=Nat.mul_le_mul_left _ (Nat.le_of_lt h1)
  have e53:(9007199254740992:Nat)=2 ^ 53:=by decide
  have h4:9007199254740992*2 ^ ((mant b).log2+1)=2 ^ (mant a).log2*2 ^ more:=by
   rw [e53,←Nat.pow_add,←Nat.pow_add]; congr 1; omega
  have h5:2 ^ (mant a).log2*2 ^ more≤mant a*2 ^ more:=Nat.mul_le_mul_right _ h2;rw [h4] at h3;exact Nat.le_trans h3 h5
 have eE:(expo a - expo b - (more:Int)+1074+(sc:Int)).toNat=(expo a - expo b - (more:Int) - 1+1074+(sc:Int)).toNat+1:=by omega
 have eP:2 ^ (expo a - expo b - (more:Int)+1074+(sc:Int)).toNat=2*2 ^ (expo a - expo b - (more:Int) - 1+1074+(sc:Int)).toNat:=by
  rw [eE,Nat.pow_succ,Nat.mul_comm]
 have hcell:=cell_mark (steps r*2 ^ sc) _ _ _ (mant b) (mant a*2 ^ more % mant b) ((mant a*2 ^ more % mant b != 0).toNat)
  (grain2 r _ _ hbig) eP (Nat.two_pow_pos _) (Nat.mod_lt _ (Nat.pos_of_ne_zero hn0)) (by cases (mant a*2 ^ more % mant b != 0) <;> decide)
  (by
   by_cases c:mant a*2 ^ more % mant b=0
   ·simp [c]
   ·simp [c])
 have hZ:mant a*2 ^ more / mant b*mant b+mant a*2 ^ more % mant b=mant a*2 ^ more:=by
  rw [Nat.mul_comm (_ / _)]; exact Nat.div_add_mod _ _
 rw [hZ] at hcell
 have hR:real (2*(mant a*2 ^ more / mant b)+(mant a*2 ^ more % mant b != 0).toNat) (expo a - expo b - more - 1)=mant a*2 ^ more / mant b*2 ^ (expo a - expo b - (more:Int)+1074+(sc:Int)).toNat+(mant a*2 ^ more % mant b != 0).toNat*2 ^ (expo a - expo b - (more:Int) - 1+1074+(sc:Int)).toNat:=by
  unfold real;rw [Nat.add_mul,eP,Nat.mul_assoc,Nat.mul_left_comm]
 rw [hR]
 have hsc:=iff_scale (steps r*steps (rung b)) (steps (rung a)*2 ^ sq) (steps r*2 ^ sc*mant b) (mant a*2 ^ more*2 ^ (expo a - expo b - (more:Int)+1074+(sc:Int)).toNat)
  (2 ^ sc) (2 ^ (expo b+1074).toNat) (Nat.two_pow_pos _) (Nat.two_pow_pos _)
  (by rw [steps_parts b]; simp only [Nat.mul_assoc,Nat.mul_comm,Nat.mul_left_comm])
  (by
   rw [steps_parts a];simp only [Nat.mul_assoc,←Nat.pow_add]
   congr 2
   omega)
 exact ⟨hsc.1.trans hcell.1,hsc.2.trans hcell.2⟩
theorem div_beside (a b:Nat) (ha:a < 18446744073709551616) (hb:b < 18446744073709551616) (ra:rightB a=true) (rb:rightB b=true) (hb0:b≠0) :
  ∃ r,floatBits .quo .f64 a b=some r∧Beside (steps (rung b)) (sg (!(sgnB a == sgnB b)) (steps (rung a)*2 ^ sq)) r:=by
 have xa:=expo_in a ra;have xb:=expo_in b rb
 have hrb:rung b≠0:=by
  have:=right_ne b rb;unfold rung at *;omega
 have hB:0 < steps (rung b):=by
  rcases Nat.eq_zero_or_pos (steps (rung b)) with h | h
  ·exact absurd ((steps_zero _).1 h) hrb
  ·exact h
 have hn0:mant b≠0:=by
  intro h;rw [steps_parts,h,Nat.zero_mul] at hB;omega
 have hx:(sgnB a ^^ sgnB b)=!(sgnB a == sgnB b):=by cases sgnB a <;> cases sgnB b <;> rfl
 obtain⟨more,hmore⟩:∃ more,more=54+(mant b).log2 - (mant a).log2:=⟨_,rfl⟩;refine ⟨Ieee.double.nearest (sgnB a ^^ sgnB b) (2*(mant a*2 ^ more / mant b)+(mant a*2 ^ more % mant b != 0).toNat) (expo a - expo b - more - 1),?_,?_⟩
 ·show ((Ieee.double.read a).quotient (Ieee.double.fractionBits+2) (Ieee.double.read b)).map Ieee.double.write=_
  rw [read_num a ha (right_rung a ra),read_num b hb (right_rung b rb)];unfold Ieee.Datum.quotient;simp only [if_neg hn0,Nat.shiftLeft_eq]
  have e:Ieee.double.fractionBits+2+(mant b).log2 - (mant a).log2=more:=by rw [hmore]; rfl
  rw [e]
  rfl
 ·rw [←hx]
  by_cases hm0:mant a=0
  ·have hA:steps (rung a)=0:=by rw [steps_parts,hm0,Nat.zero_mul]
   have hM:2*(mant a*2 ^ more / mant b)+(mant a*2 ^ more % mant b != 0).toNat=0:=by
    rw [hm0,Nat.zero_mul,Nat.zero_div,Nat.zero_mod]; rfl
   have hR:real 0 (expo a - expo b - more - 1)=0:=Nat.zero_mul _
   have hm1:more≤107:=by
    have lb:(mant b).log2 < 53:=(Nat.log2_lt hn0).2 (mant_lt b)
    omega
   rw [hM,hA,Nat.zero_mul];refine beside_near _ _ _ _ _ hB (by omega) (fun r=>?_) (fun r=>?_)
   ·rw [hR,Nat.le_zero,Nat.le_zero,Nat.mul_eq_zero,Nat.mul_eq_zero]
    have:=Nat.two_pow_pos sc
    constructor
    ·rintro (h | h)
     ·exact Or.inl h
     ·omega
    ·rintro (h | h)
     ·exact Or.inl h
     ·omega
   ·rw [hR]; exact ⟨fun _=>Nat.zero_le _,fun _=>Nat.zero_le _⟩
  ·have la:(mant a).log2 < 53:=(Nat.log2_lt hm0).2 (mant_lt a)
   have lb:(mant b).log2 < 53:=(Nat.log2_lt hn0).2 (mant_lt b)
   exact beside_near _ _ _ _ _ hB (by omega) (fun r=>(div_mark a b xa.1 xa.2 xb.1 xb.2 hm0 hn0 more hmore r).1) (fun r=>(div_mark a b xa.1 xa.2 xb.1 xb.2 hm0 hn0 more hmore r).2)
end
section
open Go.RowKit
theorem num_at (m k:Nat) (hm:m < 9007199254740992) (h1:53≤k) (h2:k≤1900):∃ r,r < 9218868437227405312∧steps r=m*2 ^ k:=by
 by_cases h0:m=0
 ·subst h0; exact ⟨0,by decide,by rw [Nat.zero_mul]; rfl⟩
 ·have l1:2 ^ m.log2≤m:=Nat.log2_self_le h0
  have l2:m < 2 ^ (m.log2+1):=Nat.lt_log2_self
  have e53:(9007199254740992:Nat)=2 ^ 53:=by decide
  have e52:(4503599627370496:Nat)=2 ^ 52:=by decide
  have hl:m.log2 < 53:=(Nat.pow_lt_pow_iff_right (by decide:1 < 2)).1 (by omega)
  obtain⟨j,hj⟩:∃ j,j=52 - m.log2:=⟨_,rfl⟩
  have b1:m*2 ^ j < 9007199254740992:=by
   have h:=Nat.mul_lt_mul_of_pos_right l2 (Nat.two_pow_pos j);rw [←Nat.pow_add,show m.log2+1+j=53 by omega] at h;omega
  have b2:4503599627370496≤m*2 ^ j:=by
   have h:=Nat.mul_le_mul_right (2 ^ j) l1;rw [←Nat.pow_add,show m.log2+j=52 by omega] at h;omega
  refine ⟨(k - j)*4503599627370496+m*2 ^ j,by omega,?_⟩;rw [steps_km _ _ (by omega) (Or.inr b2),Nat.mul_assoc,←Nat.pow_add]
  congr 2; omega
theorem pos_facts (c:Nat) (h:c < 9218868437227405312):c < 18446744073709551616∧rightB c=true∧sgnB c=false∧rung c=c∧val c=(steps c:Int):=by
 obtain⟨f1,f2,f3⟩:=sw_facts false c (by omega);rw [sw_false] at f1 f2 f3;refine ⟨f1,f2,?_,?_,f3⟩
 ·unfold sgnB; exact decide_eq_false (by omega)
 ·unfold rung; omega
theorem pos_word (c:Nat) (hc:c < 18446744073709551616) (rc:rightB c=true) (h:0≤val c):c < 9218868437227405312:=by
 have h1:=right_rung c rc
 have h2:sgnB c≠true:=fun h'=>by have:=(val_neg c hc rc).2 h'; omega
 have h3:¬ 9223372036854775808≤c:=fun h'=>h2 (by unfold sgnB; exact decide_eq_true h')
 unfold rung at h1;omega
theorem from_int (n:Nat) (h:n < 9007199254740992):FloatKind.f64.nearest (n:Int) < 9218868437227405312∧steps (FloatKind.f64.nearest (n:Int))=n*2 ^ sq:=by
 by_cases h0:n=0
 ·subst h0
  have e:FloatKind.f64.nearest ((0:Nat):Int)=0:=by decide +kernel
  rw [e,Nat.zero_mul]; exact ⟨by decide,rfl⟩
 ·have e:FloatKind.f64.nearest (n:Int)=Ieee.double.nearest false n 0:=by
   unfold FloatKind.nearest FloatKind.encode Ieee.Format.write;rw [fmt64];have:decide ((n:Int) < 0)=false:=decide_eq_false (by omega);simp only [this,Int.natAbs_natCast]
  have hq:=sq_eq;have hs:=sc_eq;obtain⟨R,r1,r2,r3⟩:=near_rung false n 0 h0 (by omega);obtain⟨r,hr,hv⟩:=num_at n sq h (by omega) (by omega)
  have er:real n 0=steps r*2 ^ sc:=by
   unfold real;rw [hv,Nat.mul_assoc,←Nat.pow_add]
   congr 2
  have q1:=r2 r (by rw [er]; exact Nat.le_refl _);have q2:=r3 r (by rw [er]; exact Nat.le_refl _)
  have hR:R=r:=by omega
  rw [e,r1,hR,Nat.min_eq_left (by omega)];exact ⟨hr,hv⟩
end
section
open Go.RowKit
def turnW (d:Nat):Nat:=if d=0 then 0 else if d < 9223372036854775808 then d+9223372036854775808 else d - 9223372036854775808
theorem turn_facts (d:Nat) (hd:d < 18446744073709551616) (rd:rightB d=true):turnW d < 18446744073709551616∧rightB (turnW d)=true∧val (turnW d)=-val d:=by
 unfold turnW
 by_cases h0:d=0
 ·subst h0; rw [if_pos rfl]; decide
 ·rw [if_neg h0]
  have hr:=right_rung d rd
  have hn:d≠9223372036854775808:=fun h=>by subst h; exact absurd rd (by decide)
  by_cases h1:d < 9223372036854775808
  ·rw [if_pos h1]
   have e1:rung (d+9223372036854775808)=rung d:=by unfold rung; omega
   have e2:sgnB (d+9223372036854775808)=true:=by unfold sgnB; exact decide_eq_true (by omega)
   have e3:sgnB d=false:=by unfold sgnB; exact decide_eq_false (by omega)
   refine ⟨by omega,?_,?_⟩
   ·unfold rung at hr
    unfold rightB
    rw [decide_eq_true (by omega),decide_eq_false (by omega)]; rfl
   ·rw [val_negs e2,val_pos e3,e1]
  ·rw [if_neg h1]
   have e1:rung (d - 9223372036854775808)=rung d:=by unfold rung; omega
   have e2:sgnB (d - 9223372036854775808)=false:=by unfold sgnB; exact decide_eq_false (by omega)
   have e3:sgnB d=true:=by unfold sgnB; exact decide_eq_true (by omega)
   refine ⟨by omega,?_,?_⟩
   ·unfold rung at hr
    unfold rightB
    rw [decide_eq_true (by omega),decide_eq_false (by omega)]; rfl
   ·rw [val_pos e2,val_negs e3,e1,Int.neg_neg]
structure Fair (x y r:Nat):Prop where
 lx:x < 18446744073709551616
 ly:y < 18446744073709551616
 rx:rightB x=true
 ry:rightB y=true
 gt:(FloatKind.f64.format.order x y == some Ordering.gt)=false
 step:(FloatKind.f64.format.order x y == some Ordering.eq)=true∨(FloatKind.f64.format.order x y == some Ordering.eq)=false∧(FloatKind.f64.format.order (addW x 1 true) y == some Ordering.eq)=true
 near:(FloatKind.f64.format.order r x == some Ordering.eq)=true∨(FloatKind.f64.format.order r y == some Ordering.eq)=true
end
section
open Go.RowKit
theorem abs_any (c:Nat) (w:World) (hc:c < 18446744073709551616) :
  Calls Tryz.prog 102 #[c] w fun r w'=>r = .returned (.float .f64 (rung c))∧w=w':=by
 have h1:=run_bits;have h2:=run_frombits;have h3:=andNot_sign c hc;go_enter Tryz.func102,Tryz.ntmps102;go_wp2;go_ret;exact ⟨rfl,rfl⟩
theorem run_min (a b:Nat) (ts:Array TypeId) (t:TypeId) (w:World) (h:FloatKind.f64.format.order a b=some Ordering.lt∨a=b∧FloatKind.f64.format.order a b=some Ordering.eq) :
  (Builtin.min_ ts t #[a,b]).run Tryz.prog w = .ok (a:Value) w∧(Builtin.max_ ts t #[a,b]).run Tryz.prog w = .ok (b:Value) w:=by
 rcases h with h | ⟨rfl,h⟩
 ·simp [Builtin.min_,Builtin.min2,Builtin.max_,Builtin.max2,h]
 ·simp [Builtin.min_,Builtin.min2,Builtin.max_,Builtin.max2,h]
theorem run_max (a b:Nat) (ts:Array TypeId) (t:TypeId) (w:World) (h:FloatKind.f64.format.order a b=some Ordering.gt) :
  (Builtin.min_ ts t #[a,b]).run Tryz.prog w = .ok (b:Value) w∧(Builtin.max_ ts t #[a,b]).run Tryz.prog w = .ok (a:Value) w:=by
 simp [Builtin.min_,Builtin.min2,Builtin.max_,Builtin.max2,h]
end
end Go.Proofs.YtnaomilkgfkegaaGreat
