/- What the claim stands on, part 2: Num, DivM, RootM, Float. -/
import Derived.Laws.Bits64b
import Derived.Lib.ItoaNum
import Derived.RowKit
import Ieee.Arith
import GoSem.Core.Float
namespace Go.Proofs.YtnaomilkgfkegaaGreat
section
open Go.RowKit
def rightB (a:Nat):Bool:=decide (a % 9223372036854775808 < 9218868437227405312)&&!decide (a=9223372036854775808)
def sgnB (a:Nat):Bool:=decide (9223372036854775808≤a)
def rung (a:Nat):Nat:=a % 9223372036854775808
def mant (a:Nat):Nat:=if rung a / 4503599627370496=0 then rung a else 4503599627370496+rung a % 4503599627370496
def expo (a:Nat):Int:=if rung a / 4503599627370496=0 then -1074 else -1075+(rung a / 4503599627370496:Nat)
theorem and_mask (a k:Nat):a &&& (2 ^ k - 1)=a % 2 ^ k:=Nat.and_two_pow_sub_one_eq_mod a k
theorem bits_andNot_u64_nat (a b:Nat) (ha:a < 18446744073709551616) (hb:b < 18446744073709551616) :
  bits .andNot .u64 (a:Int) (b:Int)=((a &&& (18446744073709551615 - b):Nat):Int):=by
 have hx:a &&& (18446744073709551615 - b) < 2 ^ 64:=Nat.and_lt_two_pow _ (by omega)
 have h1:(BitVec.ofInt 64 (a:Int)).toNat=a:=by
  rw [BitVec.ofInt_natCast,BitVec.toNat_ofNat]; exact Nat.mod_eq_of_lt (by omega)
 have h2:(BitVec.ofInt 64 (b:Int)).toNat=b:=by
  rw [BitVec.ofInt_natCast,BitVec.toNat_ofNat]; exact Nat.mod_eq_of_lt (by omega)
 show IntKind.u64.wrap ((BitVec.ofInt 64 (a:Int) &&& ~~~ BitVec.ofInt 64 (b:Int)).toNat:Int)=_
 rw [BitVec.toNat_and,BitVec.toNat_not,h1,h2,IntKind.wrap_u64];have:(2 ^ 64 - 1 - b:Nat)=18446744073709551615 - b:=rfl;rw [this];omega
theorem andNot_sign (a:Nat) (ha:a < 18446744073709551616):bits .andNot .u64 (a:Int) 9223372036854775808=(rung a:Int):=by
 rw [show (9223372036854775808:Int)=((9223372036854775808:Nat):Int) from rfl,bits_andNot_u64_nat a _ ha (by omega)];have h:=and_mask a 63
 have e1:(2 ^ 63 - 1:Nat)=18446744073709551615 - 9223372036854775808:=by decide
 have e2:(2 ^ 63:Nat)=9223372036854775808:=by decide
 rw [e1,e2] at h
 rw [h]; rfl
theorem and_fract (a:Nat) (ha:a < 18446744073709551616):bits .and .u64 (a:Int) 4503599627370495=((a % 4503599627370496:Nat):Int):=by
 rw [show (4503599627370495:Int)=((4503599627370495:Nat):Int) from rfl,bits_and_u64_nat a _ ha (by omega)];have h:=and_mask a 52
 have e1:(2 ^ 52 - 1:Nat)=4503599627370495:=by decide
 have e2:(2 ^ 52:Nat)=4503599627370496:=by decide
 rw [e1,e2] at h;rw [h]
theorem and_two_pow_eq (a k:Nat):a &&& 2 ^ k=a / 2 ^ k % 2*2 ^ k:=by
 have h1:(a &&& 2 ^ k) / 2 ^ k=a / 2 ^ k % 2:=by
  rw [Nat.and_div_two_pow,Nat.div_self (Nat.two_pow_pos k),Nat.and_one_is_mod]
 have h2:(a &&& 2 ^ k) % 2 ^ k=0:=by
  rw [Nat.and_mod_two_pow,Nat.mod_self,Nat.and_zero]
 have h3:=Nat.div_add_mod (a &&& 2 ^ k) (2 ^ k);rw [h1,h2,Nat.add_zero,Nat.mul_comm] at h3;exact h3.symm
theorem and_sign (a:Nat) (ha:a < 18446744073709551616):(bits .and .u64 (a:Int) 9223372036854775808 != 0)=sgnB a:=by
 rw [show (9223372036854775808:Int)=((9223372036854775808:Nat):Int) from rfl,bits_and_u64_nat a _ ha (by omega)];have h:=and_two_pow_eq a 63
 have e2:(2 ^ 63:Nat)=9223372036854775808:=by decide
 rw [e2] at h;rw [h];unfold sgnB
 by_cases g:9223372036854775808≤a
 ·rw [decide_eq_true g,bne_iff_ne]; omega
 ·rw [decide_eq_false g]
  have:a / 9223372036854775808 % 2*9223372036854775808=0:=by omega
  rw [this]; rfl
theorem or_lead (m:Nat) (h:m < 4503599627370496):bits .or .u64 (m:Int) 4503599627370496=((4503599627370496+m:Nat):Int):=by
 rw [show (4503599627370496:Int)=((4503599627370496:Nat):Int) from rfl,bits_or_u64_nat m _ (by omega) (by omega)]
 have e2:(2 ^ 52:Nat)=4503599627370496:=by decide
 have g:=Nat.two_pow_add_eq_or_of_lt (i:=52) (b:=m) (by omega) 1;rw [e2,Nat.mul_one] at g;rw [g,Nat.or_comm]
theorem or_sign (m:Nat) (h:m < 9223372036854775808):bits .or .u64 (m:Int) 9223372036854775808=((9223372036854775808+m:Nat):Int):=by
 rw [show (9223372036854775808:Int)=((9223372036854775808:Nat):Int) from rfl,bits_or_u64_nat m _ (by omega) (by omega)]
 have e2:(2 ^ 63:Nat)=9223372036854775808:=by decide
 have g:=Nat.two_pow_add_eq_or_of_lt (i:=63) (b:=m) (by omega) 1;rw [e2,Nat.mul_one] at g;rw [g,Nat.or_comm]
theorem wrap64_in (n:Int) (h0:-9223372036854775808≤n) (h1:n≤9223372036854775807):wrap64 n=n:=by
 unfold wrap64; omega
theorem split_vals (a:Nat) (h:((rung a:Int) / 4503599627370496 != 0)=true) :
  bits BinOp.or IntKind.u64 ((a:Int) % 4503599627370496) 4503599627370496=(mant a:Int)∧wrap64 (-1074+wrap64 (wrap64 ((rung a:Int) / 4503599627370496) - 1))=expo a:=by
 rw [bne_iff_ne] at h
 have hr:rung a < 9223372036854775808:=Nat.mod_lt _ (by decide)
 have e:((a:Int) % 4503599627370496)=((a % 4503599627370496:Nat):Int):=by omega
 have hm:rung a % 4503599627370496=a % 4503599627370496:=by unfold rung; omega
 have hn:¬ rung a / 4503599627370496=0:=by omega
 refine ⟨?_,?_⟩
 ·rw [e,or_lead _ (Nat.mod_lt _ (by decide))]; unfold mant; rw [if_neg hn,hm]
 ·unfold expo
  rw [if_neg hn,wrap64_in ((rung a:Int) / 4503599627370496) (by omega) (by omega),wrap64_in ((rung a:Int) / 4503599627370496 - 1) (by omega) (by omega),wrap64_in _ (by omega) (by omega)];omega
theorem split_vals0 (a:Nat) (h:((rung a:Int) / 4503599627370496 != 0)=false):((a:Int) % 4503599627370496)=(mant a:Int)∧(-1074:Int)=expo a:=by
 have hr:rung a / 4503599627370496=0:=by
  rw [bne_eq_false_iff_eq] at h; omega
 unfold mant expo; rw [if_pos hr,if_pos hr]
 refine ⟨?_,rfl⟩
 unfold rung at *; omega
def hiW (W:Nat):Nat:=W / 18446744073709551616
def loW (W:Nat):Nat:=W % 18446744073709551616
theorem hi_lo (W:Nat):hiW W*18446744073709551616+loW W=W:=by unfold hiW loW; omega
theorem lo_lt (W:Nat):loW W < 18446744073709551616:=Nat.mod_lt _ (by decide)
theorem hi_lt (W:Nat) (h:W < 340282366920938463463374607431768211456):hiW W < 18446744073709551616:=by unfold hiW; omega
theorem hi_mk (h l:Nat) (hl:l < 18446744073709551616):hiW (h*18446744073709551616+l)=h:=by unfold hiW; omega
theorem lo_mk (h l:Nat) (hl:l < 18446744073709551616):loW (h*18446744073709551616+l)=l:=by unfold loW; omega
def lowerW (m:Nat) (d:Int):Nat:=if 64 < d then min m 1 else m*2 ^ (64 - d.toNat)
theorem lower_far (m:Nat) (d:Int) (h:64 < d):lowerW m d=min m 1:=by unfold lowerW; rw [if_pos h]
theorem pow_split (k:Nat) (h:k≤64):2 ^ k*2 ^ (64 - k)=18446744073709551616:=by
 rw [←Nat.pow_add,show k+(64 - k)=64 by omega]
theorem lower_near (m k:Nat) (h:k≤64):((m:Int) / 2 ^ (k:Int).toNat)=(hiW (lowerW m k):Int)∧IntKind.u64.wrap ((m:Int)*2 ^ ((64:Int) - k).toNat)=(loW (lowerW m k):Int):=by
 have e1:((64:Int) - k).toNat=64 - k:=by omega
 have e2:(k:Int).toNat=k:=by omega
 have e3:lowerW m k=m*2 ^ (64 - k):=by unfold lowerW; rw [if_neg (by omega),e2]
 have hp:=pow_split k h
 have p1:0 < 2 ^ k:=Nat.two_pow_pos k
 have p2:0 < 2 ^ (64 - k):=Nat.two_pow_pos _
 rw [e1,e2,e3,IntKind.wrap_u64];refine ⟨?_,?_⟩
 ·unfold hiW
  rw [←hp,Nat.mul_comm (2 ^ k),Nat.mul_comm m,Nat.mul_div_mul_left _ _ p2,Int.natCast_ediv]
  simp
 ·unfold loW
  rw [Int.natCast_emod,Int.natCast_mul]
  simp
def nearB (e f m n:Int):Bool:=decide (e < f∨e=f∧m < n)
end
section
open Go.RowKit
structure Guess (y1 y0 u d q r:Nat):Prop where
 y1lo:2147483648≤y1
 y1hi:y1 < 4294967296
 y0hi:y0 < 4294967296
 dhi:d < 4294967296
 ulo:u < y1*4294967296+y0
 eq:q*y1+r=u
 rlo:r < 4294967296
 qlo:(u*4294967296+d) / (y1*4294967296+y0)≤q
 qhi:q≤8589934592
theorem Guess.start (y1 y0 u d:Nat) (y1lo:2147483648≤y1) (y1hi:y1 < 4294967296) (y0hi:y0 < 4294967296) (dhi:d < 4294967296) (ulo:u < y1*4294967296+y0) :
  Guess y1 y0 u d (u / y1) (u % y1):=by
 have h1:u / y1*y1+u % y1=u:=by rw [Nat.mul_comm]; exact Nat.div_add_mod u y1
 have h2:u % y1 < y1:=Nat.mod_lt _ (by omega)
 refine ⟨y1lo,y1hi,y0hi,dhi,ulo,h1,by omega,?_,?_⟩
 ·-- (u * 2^32 + d) / N ≤ (u * 2^32 + d) / (y1 * 2^32) = u / y1
  have a1:(u*4294967296+d) / (y1*4294967296+y0)≤(u*4294967296+d) / (y1*4294967296):=Nat.div_le_div_left (by omega) (by omega)
  have a2:(u*4294967296+d) / (y1*4294967296)=u / y1:=by
   rw [Nat.mul_comm y1,←Nat.div_div_eq_div_mul]
   congr 1; omega
  omega
 ·have:u / y1≤u / 2147483648:=Nat.div_le_div_left y1lo (by decide)
  omega
theorem mulN (q y1 y0 r u d:Nat) (h:q*y1+r=u):q*(y1*4294967296+y0)+(r*4294967296+d)=u*4294967296+d+q*y0:=by
 rw [Nat.mul_add,←Nat.mul_assoc,←h,Nat.add_mul]; omega
theorem Guess.fits {y1 y0 u d q r:Nat} (g:Guess y1 y0 u d q r) (h:q*y0≤4294967296*r+d):q=(u*4294967296+d) / (y1*4294967296+y0):=by
 have m:=mulN q y1 y0 r u d g.eq
 have hN:0 < y1*4294967296+y0:=by have:=g.y1lo; omega
 have:q≤(u*4294967296+d) / (y1*4294967296+y0):=(Nat.le_div_iff_mul_le hN).2 (by omega);have:=g.qlo;omega
theorem digit_of (u d N:Nat) (h:u < N) (hd:d < 4294967296):(u*4294967296+d) / N < 4294967296:=by
 rw [Nat.div_lt_iff_lt_mul (by omega)];have:(u+1)*4294967296≤N*4294967296:=Nat.mul_le_mul_right _ h;omega
theorem digit_lt {y1 y0 u d:Nat} (h:u < y1*4294967296+y0) (hd:d < 4294967296):(u*4294967296+d) / (y1*4294967296+y0) < 4294967296:=digit_of u d _ h hd
theorem Guess.less {y1 y0 u d q r:Nat} (g:Guess y1 y0 u d q r) (h:4294967296≤q∨4294967296*r+d < q*y0):1≤q∧(u*4294967296+d) / (y1*4294967296+y0)≤q - 1:=by
 have hN:0 < y1*4294967296+y0:=by have:=g.y1lo; omega
 have key:(u*4294967296+d) / (y1*4294967296+y0) < q:=by
  rcases h with h | h
  ·exact Nat.lt_of_lt_of_le (digit_lt g.ulo g.dhi) h
  ·rw [Nat.div_lt_iff_lt_mul hN]
   have m:=mulN q y1 y0 r u d g.eq;omega
 exact ⟨Nat.lt_of_le_of_lt (Nat.zero_le _) key,Nat.le_sub_one_of_lt key⟩
theorem Guess.on {y1 y0 u d q r:Nat} (g:Guess y1 y0 u d q r) (h:4294967296≤q∨4294967296*r+d < q*y0) (hr:r+y1 < 4294967296):Guess y1 y0 u d (q - 1) (r+y1):=by
 obtain⟨h1,h2⟩:=g.less h;have e:=g.eq;have hq:=g.qhi
 have e2:(q - 1)*y1+(r+y1)=u:=by
  rw [←e,Nat.sub_mul,Nat.one_mul];have:y1≤q*y1:=Nat.le_mul_of_pos_left y1 h1;omega
 exact ⟨g.y1lo,g.y1hi,g.y0hi,g.dhi,g.ulo,e2,hr,h2,by omega⟩
theorem Guess.out {y1 y0 u d q r:Nat} (g:Guess y1 y0 u d q r) (h:4294967296≤q∨4294967296*r+d < q*y0) (hr:4294967296≤r+y1):q - 1=(u*4294967296+d) / (y1*4294967296+y0):=by
 obtain⟨h1,h2⟩:=g.less h;have e:=g.eq
 have hN:0 < y1*4294967296+y0:=by have:=g.y1lo; omega
 have e2:(q - 1)*y1+(r+y1)=u:=by
  rw [←e,Nat.sub_mul,Nat.one_mul];have:y1≤q*y1:=Nat.le_mul_of_pos_left y1 h1;omega
 have hq:q - 1≤4294967296:=by
  -- (q - 1) * y1 ≤ u < (y1 + 1) * 2^32, and r + y1 ≥ 2^32
  have:=g.ulo; have:=g.y0hi; have:=g.y1lo
  by_cases hc:q - 1≤4294967296
  ·exact hc
  ·have h3:4294967297*y1≤(q - 1)*y1:=Nat.mul_le_mul_right _ (by omega)
   omega
 have hy:(q - 1)*y0≤4294967296*4294967296:=Nat.mul_le_mul hq (Nat.le_of_lt g.y0hi);have m:=mulN (q - 1) y1 y0 (r+y1) u d e2;have h4:4294967296*4294967296≤(r+y1)*4294967296:=Nat.mul_le_mul_right _ hr;have:q - 1≤(u*4294967296+d) / (y1*4294967296+y0):=(Nat.le_div_iff_mul_le hN).2 (by omega);omega
theorem sub_word (a u z x M:Nat) (hM:M=18446744073709551616) (h:a*4294967296+u=z+x) (hx:x < M) :
  IntKind.u64.wrap (IntKind.u64.wrap (IntKind.u64.wrap ((a:Int)*4294967296)+u) - IntKind.u64.wrap (z:Int))=x:=by
 subst hM;simp only [IntKind.wrap_u64];omega
theorem join_word (a b:Nat) (ha:a < 4294967296) (hb:b < 4294967296):IntKind.u64.wrap (IntKind.u64.wrap ((a:Int)*4294967296)+b)=((a*4294967296+b:Nat):Int):=by
 simp only [IntKind.wrap_u64];omega
theorem two_steps (X K u N q r:Nat) (h:N*q+r=X) (hN:0 < N):(X*K+u) / N=q*K+(r*K+u) / N∧(X*K+u) % N=(r*K+u) % N:=by
 have e2:X*K+u=N*(q*K)+(r*K+u):=by
  rw [←h,Nat.add_mul,Nat.mul_assoc,Nat.add_assoc]
 rw [e2];exact ⟨by rw [Nat.mul_add_div hN],by rw [Nat.mul_add_mod]⟩
theorem two_digits (U u1 u0 N:Nat) (hN:0 < N) :
  (U*18446744073709551616+(u1*4294967296+u0)) / N=(U*4294967296+u1) / N*4294967296+((U*4294967296+u1) % N*4294967296+u0) / N ∧
  (U*18446744073709551616+(u1*4294967296+u0)) % N=((U*4294967296+u1) % N*4294967296+u0) % N:=by
 have e:U*18446744073709551616+(u1*4294967296+u0)=(U*4294967296+u1)*4294967296+u0:=by omega
 rw [e];exact two_steps (U*4294967296+u1) 4294967296 u0 N _ _ (Nat.div_add_mod (U*4294967296+u1) N) hN
end
section
theorem amgm (a b:Nat):4*(a*b)≤(a+b)*(a+b):=by
 rcases Nat.le_total a b with h | h
 ·obtain⟨c,rfl⟩:=Nat.le.dest h
  have:(a+(a+c))*(a+(a+c))=4*(a*(a+c))+c*c:=by
   simp only [Nat.add_mul,Nat.mul_add];have e:c*a=a*c:=Nat.mul_comm _ _;omega
  omega
 ·obtain⟨c,rfl⟩:=Nat.le.dest h
  have:(b+c+b)*(b+c+b)=4*((b+c)*b)+c*c:=by
   simp only [Nat.add_mul,Nat.mul_add];have e:c*b=b*c:=Nat.mul_comm _ _;omega
  omega
theorem newton (W r:Nat) (hr:0 < r):W < ((r+W / r) / 2+1)*((r+W / r) / 2+1):=by
 have h1:W < r*(W / r+1):=by
  have:=Nat.div_add_mod W r;have:=Nat.mod_lt W hr
  rw [Nat.mul_add]; omega
 have h2:=amgm r (W / r+1)
 have h3:r+(W / r+1)≤2*((r+W / r) / 2+1):=by omega
 have h4:=Nat.mul_le_mul h3 h3
 have e:2*((r+W / r) / 2+1)*(2*((r+W / r) / 2+1))=4*(((r+W / r) / 2+1)*((r+W / r) / 2+1)):=by
  rw [Nat.mul_mul_mul_comm]
 rw [e] at h4;omega
theorem sq_lt {a b:Nat} (h:a*a < b*b):a < b:=by
 rcases Nat.lt_or_ge a b with g | g
 ·exact g
 ·exact absurd (Nat.mul_le_mul g g) (by omega)
structure Above (W r:Nat):Prop where
 wlo:21267647932558653966460912964485513216≤W
 whi:W≤85070591730234615847396907784232501248
 lo:4611686018427387904≤r
 hi:r≤9223372036854775808
 above:W < (r+1)*(r+1)
theorem Above.start (W:Nat) (h1:21267647932558653966460912964485513216≤W) (h2:W≤85070591730234615847396907784232501248):Above W 9223372036854775808:=
 ⟨h1,h2,by decide,by decide,by omega⟩
theorem Above.sum {W r:Nat} (h:Above W r):r+W / r < 18446744073709551616:=by
 obtain⟨h1,h2,h3,h4,h5⟩:=h
 have hr:0 < r:=by omega
 by_cases c1:r≤9223372036854775806
 ·have:W / r < r+3:=by
   rw [Nat.div_lt_iff_lt_mul hr]
   have e:(r+3)*r=r*r+3*r:=by rw [Nat.add_mul]
   have e2:(r+1)*(r+1)=r*r+2*r+1:=by simp only [Nat.add_mul,Nat.mul_add]; omega
   omega
  omega
 ·by_cases c2:r=9223372036854775807
  ·subst c2
   have:W / 9223372036854775807 < 9223372036854775807:=by
    rw [Nat.div_lt_iff_lt_mul hr]; omega
   omega
  ·have c3:r=9223372036854775808:=by omega
   subst c3
   have:W / 9223372036854775808 < 9223372036854775808:=by
    rw [Nat.div_lt_iff_lt_mul hr]; omega
   omega
theorem Above.next {W r:Nat} (h:Above W r) (hlt:(r+W / r) / 2 < r):Above W ((r+W / r) / 2):=by
 have hn:=newton W r (by have:=h.lo; omega);refine ⟨h.wlo,h.whi,?_,by have:=h.hi; omega,hn⟩;have h1:=h.wlo
 have:4611686018427387904*4611686018427387904 < ((r+W / r) / 2+1)*((r+W / r) / 2+1):=by omega
 have:=sq_lt this;omega
theorem Above.stop {W r:Nat} (h:Above W r) (hge:r≤(r+W / r) / 2):r*r≤W:=by
 have h1:r≤W / r:=by omega
 have:=(Nat.le_div_iff_mul_le (by have:=h.lo; omega)).1 h1;exact this
end
section
open Go.RowKit
theorem fmt64:FloatKind.f64.format=Ieee.double:=rfl
theorem sw64:Ieee.double.signWeight=9223372036854775808:=by decide
theorem bin64:Ieee.double.binade=4503599627370496:=by decide
theorem inf64:Ieee.double.infRung=9218868437227405312:=by decide
theorem lp64:Ieee.double.leastPlace=-1074:=by decide
theorem read_num (a:Nat) (ha:a < 18446744073709551616) (h:rung a < 9218868437227405312):Ieee.double.read a = .number (sgnB a) (mant a) (expo a):=by
 unfold Ieee.Format.read;rw [sw64,bin64,inf64,lp64]
 have hs:(a / 9223372036854775808 % 2 == 1)=sgnB a:=by
  unfold sgnB
  by_cases g:9223372036854775808≤a
  ·rw [decide_eq_true g,beq_iff_eq]; omega
  ·rw [decide_eq_false g,beq_eq_false_iff_ne]; omega
 have hr:a % 9223372036854775808=rung a:=rfl;dsimp only;rw [hs,hr];unfold mant expo
 by_cases g:rung a < 4503599627370496
 ·have g':rung a / 4503599627370496=0:=by omega
  rw [if_pos g,if_pos g',if_pos g']
 ·have g':¬ rung a / 4503599627370496=0:=by omega
  rw [if_neg g,if_pos h,if_neg g',if_neg g']
  have:(-1074:Int)+((rung a / 4503599627370496 - 1:Nat):Int)=-1075+((rung a / 4503599627370496:Nat):Int):=by omega
  rw [this]
theorem right_rung (a:Nat) (h:rightB a=true):rung a < 9218868437227405312:=by
 unfold rightB at h; simp at h; exact h.1
theorem right_ne (a:Nat) (h:rightB a=true):a≠9223372036854775808:=by
 unfold rightB at h; simp at h; exact h.2
def steps (r:Nat):Nat:=if r / 4503599627370496=0 then r else (4503599627370496+r % 4503599627370496)*2 ^ (r / 4503599627370496 - 1)
def val (a:Nat):Int:=if sgnB a then -(steps (rung a):Int) else (steps (rung a):Int)
theorem steps_parts (a:Nat):steps (rung a)=mant a*2 ^ (expo a+1074).toNat:=by
 unfold steps mant expo
 by_cases g:rung a / 4503599627370496=0
 ·rw [if_pos g,if_pos g,if_pos g]
  show _=rung a*2 ^ 0
  rw [Nat.pow_zero,Nat.mul_one]
 ·rw [if_neg g,if_neg g,if_neg g]
  congr 2
  omega
theorem signed_mul (s:Bool) (m i k:Nat):Ieee.signed s m (i+k)=Ieee.signed s m i*((2 ^ k:Nat):Int):=by
 unfold Ieee.signed;rw [Nat.shiftLeft_eq,Nat.shiftLeft_eq,Nat.pow_add,←Nat.mul_assoc]
 cases s <;> simp [Int.natCast_mul,Int.neg_mul]
theorem val_signed (a:Nat):val a=Ieee.signed (sgnB a) (mant a) (expo a+1074).toNat:=by
 unfold val Ieee.signed;rw [steps_parts,Nat.shiftLeft_eq]
theorem compare_mul (x y:Int) (k:Nat) (hk:0 < k):compare (x*(k:Int)) (y*(k:Int))=compare x y:=by
 have hk':(0:Int) < k:=by omega
 rcases Int.lt_trichotomy x y with h | h | h
 ·rw [Int.compare_eq_lt.2 h,Int.compare_eq_lt.2 (Int.mul_lt_mul_of_pos_right h hk')]
 ·subst h; rw [Int.compare_eq_eq.2 rfl,Int.compare_eq_eq.2 rfl]
 ·rw [Int.compare_eq_gt.2 h,Int.compare_eq_gt.2 (Int.mul_lt_mul_of_pos_right h hk')]
theorem expo_ge (a:Nat):-1074≤expo a:=by unfold expo; split <;> omega
theorem order_val (a b:Nat) (ha:a < 18446744073709551616) (hb:b < 18446744073709551616) (ra:rung a < 9218868437227405312) (rb:rung b < 9218868437227405312) :
  FloatKind.f64.format.order a b=some (compare (val a) (val b)):=by
 rw [fmt64];unfold Ieee.Format.order;rw [read_num a ha ra,read_num b hb rb];unfold Ieee.Datum.order;have ea:=expo_ge a;have eb:=expo_ge b
 have hpos:0 < 2 ^ (min (expo a) (expo b)+1074).toNat:=Nat.two_pow_pos _
 have e1:val a=Ieee.signed (sgnB a) (mant a) (expo a - min (expo a) (expo b)).toNat*((2 ^ (min (expo a) (expo b)+1074).toNat:Nat):Int):=by
  rw [val_signed,←signed_mul]; congr 1; omega
 have e2:val b=Ieee.signed (sgnB b) (mant b) (expo b - min (expo a) (expo b)).toNat*((2 ^ (min (expo a) (expo b)+1074).toNat:Nat):Int):=by
  rw [val_signed,←signed_mul]; congr 1; omega
 rw [e1,e2,compare_mul _ _ _ hpos]
end
end Go.Proofs.YtnaomilkgfkegaaGreat
