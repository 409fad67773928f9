/- What the claim stands on, part 5: DirB, DirC. -/
import Derived.Test.YtnaomilkgfkegaaGreatWA2
import Derived.Test.YtnaomilkgfkegaaGreatWA3
import Derived.Laws.StructEq
set_option maxHeartbeats 1000000
set_option maxRecDepth 100000
namespace Go.Proofs.YtnaomilkgfkegaaGreat
section
open Go.RowKit
def lz64 (x:Nat):Nat:=if x=0 then 64 else 63 - x.log2
theorem bitLen_log2 (x:Nat) (h0:x≠0) (h:x < 2 ^ 64):Lib.bitLen x=x.log2+1:=by
 obtain⟨h1,h2,h3⟩:=Lib.bitLenAux_bounds 64 x h h0
 have e1:x.log2 < Lib.bitLenAux 64 x:=(Nat.log2_lt h0).2 h3
 have e2:Lib.bitLenAux 64 x - 1≤x.log2:=(Nat.le_log2 h0).2 h2
 show Lib.bitLenAux 64 x=_
 omega
theorem lz_eq (x:Nat) (h:x < 18446744073709551616):(64 - (Lib.bitLen (x:Int).toNat:Int))=(lz64 x:Int):=by
 rw [Int.toNat_natCast];unfold lz64
 by_cases h0:x=0
 ·rw [if_pos h0,h0]; decide
 ·rw [if_neg h0,bitLen_log2 x h0 h]
  have:x.log2 < 64:=(Nat.log2_lt h0).2 h
  omega
theorem lz_any (x:Nat) (w:World) (h:x < 18446744073709551616) :
  Calls Tryz.prog 178 #[.int .u64 x] w fun e w'=>e = .returned (.int .i64 (lz64 x))∧w=w':=
 (Tryz.bits_LeadingZeros64 x w (by omega) (by omega)).mono fun _ _ ⟨he,hw⟩=>⟨by rw [he,lz_eq x h],hw.symm⟩
theorem lz_le (x:Nat) (h0:x≠0):lz64 x≤63:=by unfold lz64; rw [if_neg h0]; omega
theorem lz_shift (x:Nat) (h0:x≠0) (h:x < 18446744073709551616):9223372036854775808≤x*2 ^ lz64 x∧x*2 ^ lz64 x < 18446744073709551616:=by
 unfold lz64; rw [if_neg h0]
 have hl:x.log2 < 64:=(Nat.log2_lt h0).2 h
 have a1:2 ^ x.log2≤x:=Nat.log2_self_le h0
 have a2:x < 2 ^ (x.log2+1):=Nat.lt_log2_self
 have e1:2 ^ x.log2*2 ^ (63 - x.log2)=9223372036854775808:=by rw [←Nat.pow_add,show x.log2+(63 - x.log2)=63 by omega]
 have e2:2 ^ (x.log2+1)*2 ^ (63 - x.log2)=18446744073709551616:=by rw [←Nat.pow_add,show x.log2+1+(63 - x.log2)=64 by omega]
 have p:0 < 2 ^ (63 - x.log2):=Nat.two_pow_pos _
 exact ⟨by rw [←e1]; exact Nat.mul_le_mul_right _ a1,by rw [←e2]; exact Nat.mul_lt_mul_of_pos_right a2 p⟩
theorem times_any (x y:Nat) (w:World) (hx:x < 18446744073709551616) (hy:y < 18446744073709551616) :
  Calls Tryz.prog 144 #[.int .u64 x,.int .u64 y] w (Rt (.agg #[.int .u64 (hiW (x*y)),.int .u64 (loW (x*y))]) w):=by
 have cM:∀ w,Calls Tryz.prog 179 #[.int .u64 x,.int .u64 y] w fun e w'=>e = .returned (.tuple #[.int .u64 (hiW (x*y)),.int .u64 (loW (x*y))])∧w=w':=
  fun w=>(Tryz.bits_Mul64 x y hx hy w).mono fun _ _ ⟨he,hw⟩=>⟨he,hw.symm⟩
 have CM:=Hd cM; clear cM
 go_enter Tryz.func144,Tryz.ntmps144;go_wp2_with (refine (CM.out _).mono ?_; rintro e w' ⟨rfl,rfl⟩);exact bodyPost_ret (v:=.agg #[.int .u64 (hiW (x*y)),.int .u64 (loW (x*y))]) (by simp [results,Tryz.results144,go_sem]) rfl ⟨rfl,bel1 _ _⟩
def lzW (W:Nat):Nat:=127 - W.log2
theorem lzW_low (W:Nat) (h0:W≠0) (h:hiW W=0):lzW W=64+lz64 (loW W)∧loW W=W:=by
 have e:loW W=W:=by have:=hi_lo W; omega
 have hl:W < 2 ^ 64:=by have:=lo_lt W; omega
 have:W.log2 < 64:=(Nat.log2_lt h0).2 hl
 unfold lzW lz64; rw [e,if_neg h0]
 exact ⟨by omega,rfl⟩
theorem log2_hi (W:Nat) (h:hiW W≠0):W.log2=64+(hiW W).log2:=by
 have h0:W≠0:=fun e=>h (by rw [e]; rfl)
 have a1:2 ^ (hiW W).log2≤hiW W:=Nat.log2_self_le h
 have a2:hiW W < 2 ^ ((hiW W).log2+1):=Nat.lt_log2_self
 have e:=hi_lo W;have hl:=lo_lt W;have b1:64+(hiW W).log2≤W.log2:=(Nat.le_log2 h0).2 (by rw [Nat.pow_add]; omega)
 have b2:W.log2 < 64+(hiW W).log2+1:=(Nat.log2_lt h0).2 (by rw [Nat.add_assoc,Nat.pow_add]; omega)
 omega
theorem lzW_high (W:Nat) (h:hiW W≠0):lzW W=lz64 (hiW W):=by
 have:=log2_hi W h
 unfold lzW lz64; rw [if_neg h]; omega
theorem ahead_low (W:Nat) (h0:W≠0) (h:hiW W=0):IntKind.u64.wrap ((loW W:Int)*2 ^ (lz64 (loW W):Int).toNat)=(hiW (W*2 ^ lzW W):Int)∧(0:Int)=(loW (W*2 ^ lzW W):Int):=by
 obtain⟨e1,e2⟩:=lzW_low W h0 h;have hs:=lz_shift (loW W) (by omega) (lo_lt W);rw [e1,Nat.pow_add,Int.toNat_natCast,IntKind.wrap_u64];rw [e2] at hs ⊢;generalize hp:2 ^ lz64 W=p at *
 have ep:((2:Int) ^ lz64 W)=(p:Int):=by rw [←hp]; simp
 rw [ep]
 have e3:W*(2 ^ 64*p)=W*p*18446744073709551616+0:=by
  rw [Nat.mul_comm (2 ^ 64),←Nat.mul_assoc,Nat.add_zero]
 rw [e3,hi_mk _ 0 (by decide),lo_mk _ 0 (by decide),←Int.natCast_mul];omega
theorem or_add (h l k:Nat) (hl:l < 2 ^ k):h*2 ^ k ||| l=h*2 ^ k+l:=by
 rw [Nat.mul_comm,←Nat.two_pow_add_eq_or_of_lt hl]
theorem ahead_high (W:Nat) (hW:W < 340282366920938463463374607431768211456) (h:hiW W≠0) :
  bits .or .u64 (IntKind.u64.wrap ((hiW W:Int)*2 ^ (lz64 (hiW W):Int).toNat)) ((loW W:Int) / 2 ^ ((64:Int) - (lz64 (hiW W):Int)).toNat)=(hiW (W*2 ^ lzW W):Int)∧IntKind.u64.wrap ((loW W:Int)*2 ^ (lz64 (hiW W):Int).toNat)=(loW (W*2 ^ lzW W):Int):=by
 have hs:=lz_shift (hiW W) h (hi_lt W hW);have hk:=lz_le (hiW W) h;have hl:=lo_lt W;rw [lzW_high W h];generalize hk':lz64 (hiW W)=k at *
 have e1:((64:Int) - (k:Int)).toNat=64 - k:=by omega
 rw [e1,Int.toNat_natCast,IntKind.wrap_u64,IntKind.wrap_u64];have hp:=pow_split k (by omega)
 have ep:((2:Int) ^ k)=((2 ^ k:Nat):Int):=by simp
 have eq:((2:Int) ^ (64 - k))=((2 ^ (64 - k):Nat):Int):=by simp
 have c1:((hiW W:Int)*((2 ^ k:Nat):Int)) % 18446744073709551616=((hiW W*2 ^ k:Nat):Int):=by rw [←Int.natCast_mul]; omega
 have p1:0 < 2 ^ k:=Nat.two_pow_pos k
 have p2:0 < 2 ^ (64 - k):=Nat.two_pow_pos _
 have hd:loW W / 2 ^ (64 - k) < 2 ^ k:=by
  rw [Nat.div_lt_iff_lt_mul p2,hp]; exact hl
 have e2:loW W / 2 ^ (64 - k)=loW W*2 ^ k / 18446744073709551616:=by
  rw [←hp,Nat.mul_comm (2 ^ k) (2 ^ (64 - k)),Nat.mul_div_mul_right _ _ p1]
 rw [ep,eq,c1,←Int.natCast_ediv,bits_or_u64_nat _ _ hs.2 (Nat.lt_of_le_of_lt (Nat.div_le_self _ _) hl),or_add _ _ _ hd]
 have e3:W*2 ^ k=hiW W*2 ^ k*18446744073709551616+loW W*2 ^ k:=by
  have:=hi_lo W
  calc W*2 ^ k=(hiW W*18446744073709551616+loW W)*2 ^ k:=by rw [this]
   _=_:=by rw [Nat.add_mul,Nat.mul_right_comm]
 rw [e3,e2,←Int.natCast_mul];generalize hiW W*2 ^ k=A;generalize loW W*2 ^ k=B;unfold hiW loW;omega
theorem ahead_any (W:Nat) (w:World) (h0:W≠0) (hW:W < 340282366920938463463374607431768211456) :
  Calls Tryz.prog 142 #[.agg #[.int .u64 (hiW W),.int .u64 (loW W)]] w (Rt (.tuple #[.agg #[.int .u64 (hiW (W*2 ^ lzW W)),.int .u64 (loW (W*2 ^ lzW W))],.int .i64 (lzW W)]) w):=by
 by_cases hh:hiW W=0
 ·have hb:((hiW W:Int) == 0)=true:=by rw [beq_iff_eq]; omega
  have hl0:loW W≠0:=by have:=hi_lo W; omega
  have cL:=Hd (fun w=>lz_any (loW W) w (lo_lt W));have Hv:=Hd (ahead_low W h0 hh);have Hk:=Hd (lzW_low W h0 hh).1
  have k1:(lz64 (loW W):Int)≤63:=by have:=lz_le (loW W) hl0; omega
  have k2:(lz64 (loW W):Int)≤64:=by omega
  have HH:=Hd hh;clear hh hl0 hW;go_enter Tryz.func142,Tryz.ntmps142;go_wp2_with (refine (cL.out _).mono ?_; rintro e w' ⟨rfl,rfl⟩);refine bodyPost_ret (v:=.tuple #[.agg #[.int .u64 (IntKind.u64.wrap ((loW W:Int)*2 ^ (lz64 (loW W):Int).toNat)),.int .u64 0],.int .i64 (64+(lz64 (loW W):Int))]) (by simp [results,Tryz.results142,go_sem]) rfl ⟨?_,bel2 _ _ _⟩;rw [agg_two Hv.out,show (64+(lz64 (loW W):Int))=(lzW W:Int) by rw [Hk.out]; omega]
 ·have hb:((hiW W:Int) == 0)=false:=by rw [beq_eq_false_iff_ne]; omega
  have cL:=Hd (fun w=>lz_any (hiW W) w (hi_lt W hW));have Hv:=Hd (ahead_high W hW hh);have Hk:=Hd (lzW_high W hh)
  have k1:(lz64 (hiW W):Int)≤63:=by have:=lz_le (hiW W) hh; omega
  have k2:(lz64 (hiW W):Int)≤64:=by omega
  have k3:0≤64 - (lz64 (hiW W):Int):=by omega
  have k4:64 - (lz64 (hiW W):Int)≤64:=by omega
  clear hW;go_enter Tryz.func142,Tryz.ntmps142;go_wp2_with (refine (cL.out _).mono ?_; rintro e w' ⟨rfl,rfl⟩)
  go_region
  all_goals go_wp2
  all_goals refine bodyPost_ret (v:=.tuple #[.agg #[.int .u64 (bits .or .u64 (IntKind.u64.wrap ((hiW W:Int)*2 ^ (lz64 (hiW W):Int).toNat)) ((loW W:Int) / 2 ^ ((64:Int) - (lz64 (hiW W):Int)).toNat)),.int .u64 (IntKind.u64.wrap ((loW W:Int)*2 ^ (lz64 (hiW W):Int).toNat))],.int .i64 (lz64 (hiW W))]) (by simp [results,Tryz.results142,go_sem]) rfl ⟨?_,(bel2 _ _ _).drew⟩
  all_goals rw [agg_two Hv.out,Hk.out]
def packW (neg:Bool) (b:Nat) (away:Bool):Nat:=
 if 9218868437227405312≤b then (if away then 0 else if neg then 18442240474082181119 else 9218868437227405311)
 else if neg&&b != 0 then 9223372036854775808+b else b
def packE (b:Nat) (away:Bool):Int:=if 9218868437227405312≤b∧away=true then 10 else 0
theorem ret_pair {a b:Nat} {x y:Int} (h:a=b∧x=y):(Ending.returned (.tuple #[a,.int .i64 x])) = .returned (.tuple #[b,.int .i64 y]):=by rw [h.1,h.2]
theorem packE_ok (b:Nat) (away:Bool) (h:¬ (9218868437227405312≤b∧away=true)):(0:Int)=packE b away:=by unfold packE; rw [if_neg h]
theorem pack_over (neg:Bool) (b:Nat) (h:9218868437227405312≤b):0=packW neg b true∧(10:Int)=packE b true:=
 ⟨by unfold packW; rw [if_pos h]; rfl,by unfold packE; rw [if_pos ⟨h,rfl⟩]⟩
theorem pack_max (b:Nat) (h:9218868437227405312≤b):(9218868437227405311:Int).toNat=packW false b false∧(0:Int)=packE b false:=
 ⟨by unfold packW; rw [if_pos h]; rfl,packE_ok _ _ (by simp)⟩
theorem pack_min (b:Nat) (h:9218868437227405312≤b):(bits .or .u64 9218868437227405311 9223372036854775808).toNat=packW true b false∧(0:Int)=packE b false:=by
 have e:=or_sign 9218868437227405311 (by decide);have e':bits .or .u64 9218868437227405311 9223372036854775808=(18442240474082181119:Int):=e;exact ⟨by unfold packW; rw [if_pos h,e']; rfl,packE_ok _ _ (by simp)⟩
theorem pack_pos (k m:Nat) (away:Bool) (h:¬ 9218868437227405312≤k*4503599627370496+m):((k:Int)*4503599627370496+m).toNat=packW false (k*4503599627370496+m) away∧(0:Int)=packE (k*4503599627370496+m) away:=
 ⟨by unfold packW; rw [if_neg h]; simp; omega,packE_ok _ _ (fun g=>h g.1)⟩
theorem pack_zero (k m:Nat) (away:Bool) (h:k*4503599627370496+m=0):((k:Int)*4503599627370496+m).toNat=packW true (k*4503599627370496+m) away∧(0:Int)=packE (k*4503599627370496+m) away:=by
 have e:((k:Int)*4503599627370496+m).toNat=0:=by omega
 rw [h,e]; cases away <;> exact ⟨rfl,rfl⟩
theorem pack_neg (k m:Nat) (away:Bool) (h:¬ 9218868437227405312≤k*4503599627370496+m) (h0:k*4503599627370496+m≠0):(bits .or .u64 ((k:Int)*4503599627370496+m) 9223372036854775808).toNat=packW true (k*4503599627370496+m) away∧(0:Int)=packE (k*4503599627370496+m) away:=by
 have e:((k:Int)*4503599627370496+m)=((k*4503599627370496+m:Nat):Int):=by omega
 rw [e,or_sign _ (by omega)]
 have hb:(k*4503599627370496+m != 0)=true:=by rw [bne_iff_ne]; exact h0
 exact ⟨by unfold packW; rw [if_neg h,hb]; rfl,packE_ok _ _ (fun g=>h g.1)⟩
theorem pack_any (neg:Bool) (m k:Nat) (away:Bool) (w:World) (hm:m≤9007199254740992) (hk:k < 4000) :
  Calls Tryz.prog 143 #[.bool neg,.int .u64 m,.int .i64 ((k:Int) - 1074),.bool away] w fun r w'=>r = .returned (.tuple #[.float .f64 (packW neg (k*4503599627370496+m) away),.int .i64 (packE (k*4503599627370496+m) away)])∧w=w':=by
 have hf:=run_frombits
 by_cases c1:9218868437227405312≤k*4503599627370496+m
 ·have c1':decide (9218868437227405312≤(k:Int)*4503599627370496+m)=true:=by simp; omega
  cases away
  ·cases neg
   ·have Hv:=Hd (pack_max _ c1); clear c1
    go_enter Tryz.func143,Tryz.ntmps143;go_wp2
    go_ret2
    exact ⟨ret_pair Hv.out,rfl⟩
   ·have Hv:=Hd (pack_min _ c1); clear c1
    go_enter Tryz.func143,Tryz.ntmps143;go_wp2
    go_ret2
    exact ⟨ret_pair Hv.out,rfl⟩
  ·have Hv:=Hd (pack_over neg _ c1); clear c1
   go_enter Tryz.func143,Tryz.ntmps143;go_wp2
   go_ret2
   exact ⟨ret_pair Hv.out,rfl⟩
 ·have c1':decide (9218868437227405312≤(k:Int)*4503599627370496+m)=false:=by simp; omega
  cases neg
  ·have Hv:=Hd (pack_pos k m away c1); clear c1
   go_enter Tryz.func143,Tryz.ntmps143;go_wp2
   go_ret2
   exact ⟨ret_pair Hv.out,rfl⟩
  ·by_cases c2:k*4503599627370496+m=0
   ·have c2':((k:Int)*4503599627370496+m != 0)=false:=by rw [bne_eq_false_iff_eq]; omega
    have Hv:=Hd (pack_zero k m away c2); clear c1 c2
    go_enter Tryz.func143,Tryz.ntmps143;go_wp2
    go_ret2
    exact ⟨ret_pair Hv.out,rfl⟩
   ·have c2':((k:Int)*4503599627370496+m != 0)=true:=by rw [bne_iff_ne]; omega
    have Hv:=Hd (pack_neg k m away c1 c2); clear c1 c2
    go_enter Tryz.func143,Tryz.ntmps143;go_wp2
    go_ret2
    exact ⟨ret_pair Hv.out,rfl⟩
end
section
open Go.RowKit
def shrN (x y:Nat):Nat:=x / 2 ^ y
def shlN (x y:Nat):Nat:=x*2 ^ y % 18446744073709551616
theorem shift_shr_any (x y:Nat) (hx:x < 18446744073709551616):Op.shift .shr .u64 (x:Int) .u64 (y:Int)=pure (.int .u64 (shrN x y)):=by
 by_cases h:y≤64
 ·rw [shift_shr .u64 .u64 x y (by omega) (by show (y:Int)≤64; omega),Int.toNat_natCast]
  unfold shrN
  rw [Int.natCast_ediv]; simp
 ·have hm:min (y:Int).toNat IntKind.u64.bits=64:=by show min _ 64=64; omega
  have e:shrN x y=0:=by
   unfold shrN;refine Nat.div_eq_of_lt (Nat.lt_of_lt_of_le hx ?_);rw [show (18446744073709551616:Nat)=2 ^ 64 by decide];exact Nat.pow_le_pow_right (by decide) (by omega)
  have n:¬ (y:Int) < 0:=by omega
  unfold Op.shift;rw [if_neg n]
  show pure (Value.int IntKind.u64 ((x:Int).fdiv (2 ^ (min (y:Int).toNat IntKind.u64.bits))))=_
  rw [hm,e,Int.fdiv_eq_ediv_of_nonneg _ (by decide)];rw [show ((x:Int) / 2 ^ 64)=((0:Nat):Int) by omega]
theorem shift_shl_any (x y:Nat):Op.shift .shl .u64 (x:Int) .u64 (y:Int)=pure (.int .u64 (shlN x y)):=by
 by_cases h:y≤64
 ·rw [shift_shl .u64 .u64 x y (by omega) (by show (y:Int)≤64; omega),Int.toNat_natCast,IntKind.wrap_u64]
  unfold shlN
  rw [Int.natCast_emod,Int.natCast_mul]; simp
 ·have hm:min (y:Int).toNat IntKind.u64.bits=64:=by show min _ 64=64; omega
  have e:shlN x y=0:=by
   unfold shlN;rw [show y=64+(y - 64) by omega,Nat.pow_add,show x*(2 ^ 64*2 ^ (y - 64))=2 ^ 64*(x*2 ^ (y - 64)) by rw [Nat.mul_left_comm]];exact Nat.mul_mod_right _ _
  have n:¬ (y:Int) < 0:=by omega
  unfold Op.shift;rw [if_neg n]
  show pure (Value.int IntKind.u64 (IntKind.u64.wrap ((x:Int)*(2 ^ (min (y:Int).toNat IntKind.u64.bits)))))=_
  rw [hm,e,IntKind.wrap_u64];rw [show ((x:Int)*2 ^ 64 % 18446744073709551616)=((0:Nat):Int) by omega]
theorem run_eq_words (a b c d:Int) (w:World):(Op.equalIn 10000 126 (.agg #[.int .u64 a,.int .u64 b]) (.agg #[.int .u64 c,.int .u64 d])).run Tryz.prog w = .ok (a == c&&b == d) w:=by
 have hu:=run_underlying Tryz.underlying126 (w:=w)
 show (Op.equalIn (9999+1) 126 _ _).run Tryz.prog w=_
 rw [Op.equalIn];simp only [Sem.run_bind,hu,Result.andThen]
 have e:∀ (x y:Int),(Op.equalIn 9999 45 (.int .u64 x) (.int .u64 y)).run Tryz.prog w = .ok (x == y) w:=fun x y=>run_equalIn_int w 9998 45 .u64 .u64 x y Tryz.underlying45
 have s40:Sem.run Tryz.prog (sizeOf 45) w = .ok 1 w:=by simp [go_sem,Tryz.sizeOf45]
 simp [s40,Result.andThen,Std.Legacy.Range.forIn_eq_forIn_range',List.range',go_sem,e,part]
 by_cases h1:a=c
 ·subst h1
  by_cases h2:b=d
  ·subst h2; simp [Result.andThen,go_sem,e]
  ·have:(b == d)=false:=by simpa using h2
   simp [Result.andThen,go_sem,e,h2]
 ·simp [h1]
theorem round_zero (neg:Bool) (e:Int) (up:Bool) (w:World) :
  Calls Tryz.prog 96 #[.agg #[.bool neg,.int .u64 0,.int .u64 0,.int .i64 e],.bool up] w (Rt (.tuple #[(),true]) w):=by
 have hq:=run_eq_words;go_enter Tryz.func96,Tryz.ntmps96;go_wp2
 go_ret2
 exact ⟨rfl,bel1 _ _⟩
theorem words_ne (W:Nat) (h0:W≠0):(((hiW W:Int) == 0)&&((loW W:Int) == 0))=false:=by
 rw [Bool.and_eq_false_iff,beq_eq_false_iff_ne,beq_eq_false_iff_ne]
 have:=hi_lo W; omega
def keptK (W:Nat) (x:Int):Nat:=(max (x - (lzW W:Int)+64+64 - 53) (-1074)+1074).toNat
def keptC (W:Nat) (x:Int):Nat:=(max (x - (lzW W:Int)+64+64 - 53) (-1074) - (x - (lzW W:Int)+64)).toNat
def keptM (W:Nat) (x:Int):Nat:=shrN (hiW (W*2 ^ lzW W)) (keptC W x)
def keptAll (W:Nat) (x:Int):Bool:=decide (hiW (W*2 ^ lzW W)=shlN (keptM W x) (keptC W x)∧loW (W*2 ^ lzW W)=0)
def rungOf (W:Nat) (x:Int) (away:Bool):Nat:=keptK W x*4503599627370496+if away&&!keptAll W x then keptM W x+1 else keptM W x
def roundW (neg:Bool) (W:Nat) (x:Int) (up:Bool):Nat:=if W=0 then 0 else packW neg (rungOf W x (up != neg)) (up != neg)
def roundE (neg:Bool) (W:Nat) (x:Int) (up:Bool):Int:=if W=0 then 0 else packE (rungOf W x (up != neg)) (up != neg)
theorem keptC_ge (W:Nat) (x:Int):11≤keptC W x:=by unfold keptC; omega
theorem keptM_le (W:Nat) (x:Int) (h:hiW (W*2 ^ lzW W) < 18446744073709551616):keptM W x≤9007199254740991:=by
 unfold keptM shrN;have hc:=keptC_ge W x;have h1:2 ^ 11≤2 ^ keptC W x:=Nat.pow_le_pow_right (by decide) hc;have h2:hiW (W*2 ^ lzW W) / 2 ^ keptC W x≤hiW (W*2 ^ lzW W) / 2 ^ 11:=Nat.div_le_div_left h1 (by decide)
 have h3:hiW (W*2 ^ lzW W) / 2 ^ 11≤9007199254740991:=by omega
 omega
theorem ahead_lt (W:Nat) (h0:W≠0) (hW:W < 340282366920938463463374607431768211456):W*2 ^ lzW W < 340282366920938463463374607431768211456∧170141183460469231731687303715884105728≤W*2 ^ lzW W:=by
 unfold lzW
 have hl:W.log2 < 128:=(Nat.log2_lt h0).2 hW
 have a1:2 ^ W.log2≤W:=Nat.log2_self_le h0
 have a2:W < 2 ^ (W.log2+1):=Nat.lt_log2_self
 have e1:2 ^ W.log2*2 ^ (127 - W.log2)=170141183460469231731687303715884105728:=by rw [←Nat.pow_add,show W.log2+(127 - W.log2)=127 by omega]
 have e2:2 ^ (W.log2+1)*2 ^ (127 - W.log2)=340282366920938463463374607431768211456:=by rw [←Nat.pow_add,show W.log2+1+(127 - W.log2)=128 by omega]
 have p:0 < 2 ^ (127 - W.log2):=Nat.two_pow_pos _
 exact ⟨by rw [←e2]; exact Nat.mul_lt_mul_of_pos_right a2 p,by rw [←e1]; exact Nat.mul_le_mul_right _ a1⟩
theorem round_in (neg up:Bool) (h l L V M C K:Nat) (x:Int) (w:World) (hx0:-5000≤x) (hx1:x≤2500) (hl:(L:Int)≤127)
  (hn:(((h:Int) == 0)&&((l:Int) == 0))=false)
  (cA:CH 142 #[.agg #[.int .u64 h,.int .u64 l]] (.tuple #[.agg #[.int .u64 (hiW V),.int .u64 (loW V)],.int .i64 L]))
  (hM:M≤9007199254740991) (hK:K < 3999)
  (hk:max (x - (L:Int)+64+64 - 53) (-1074)=(K:Int) - 1074) (hc:(K:Int) - 1074 - (x - (L:Int)+64)=(C:Int))
  (hs1:Op.shift .shr .u64 (hiW V:Int) .u64 (C:Int)=pure (.int .u64 M))
  (haw:(up != neg)=false) :
  Calls Tryz.prog 96 #[.agg #[.bool neg,.int .u64 h,.int .u64 l,.int .i64 x],.bool up] w (Rt (.tuple #[.float .f64 (packW neg (K*4503599627370496+M) false),.int .i64 (packE (K*4503599627370496+M) false)]) w):=by
 have hq:=run_eq_words
 have hm0:(M:Int)≤9007199254740991:=by omega
 have cP:=Hd (fun w=>pack_any neg M K false w (by omega) (by omega))
 cases neg <;> cases up <;> first | (cases haw; done) | skip
 all_goals
  go_enter Tryz.func96,Tryz.ntmps96;go_wp2_with fail;refine (cA.out _).mono ?_;rintro e w1 ⟨rfl,hb⟩;obtain⟨hz,hcl,hfr,HB⟩:=after1 hb;clear hb;go_wp2_with fail;refine (cP.out _).mono ?_;rintro e w2 ⟨rfl,rfl⟩;go_wp2
  go_ret2
  exact ⟨rfl,HB.alloc (Nat.le_of_lt hz) _⟩
theorem round_all (neg up:Bool) (h l L V M C K S:Nat) (x:Int) (w:World) (hx0:-5000≤x) (hx1:x≤2500) (hl:(L:Int)≤127)
  (hn:(((h:Int) == 0)&&((l:Int) == 0))=false)
  (cA:CH 142 #[.agg #[.int .u64 h,.int .u64 l]] (.tuple #[.agg #[.int .u64 (hiW V),.int .u64 (loW V)],.int .i64 L]))
  (hM:M≤9007199254740991) (hK:K < 3999)
  (hk:max (x - (L:Int)+64+64 - 53) (-1074)=(K:Int) - 1074) (hc:(K:Int) - 1074 - (x - (L:Int)+64)=(C:Int))
  (hs1:Op.shift .shr .u64 (hiW V:Int) .u64 (C:Int)=pure (.int .u64 M)) (hs2:Op.shift .shl .u64 (M:Int) .u64 (C:Int)=pure (.int .u64 S))
  (haw:(up != neg)=true) (hall:((hiW V:Int) == (S:Int)&&(loW V:Int) == 0)=true) :
  Calls Tryz.prog 96 #[.agg #[.bool neg,.int .u64 h,.int .u64 l,.int .i64 x],.bool up] w (Rt (.tuple #[.float .f64 (packW neg (K*4503599627370496+M) true),.int .i64 (packE (K*4503599627370496+M) true)]) w):=by
 have hq:=run_eq_words
 have hm0:(M:Int)≤9007199254740991:=by omega
 have cP:=Hd (fun w=>pack_any neg M K true w (by omega) (by omega))
 cases neg <;> cases up <;> first | (cases haw; done) | skip
 all_goals
  go_enter Tryz.func96,Tryz.ntmps96;go_wp2_with fail;refine (cA.out _).mono ?_;rintro e w1 ⟨rfl,hb⟩;obtain⟨hz,hcl,hfr,HB⟩:=after1 hb;clear hb;go_wp2_with fail;refine (cP.out _).mono ?_;rintro e w2 ⟨rfl,rfl⟩;go_wp2
  go_ret2
  exact ⟨rfl,HB.alloc (Nat.le_of_lt hz) _⟩
theorem round_away (neg up:Bool) (h l L V M C K S:Nat) (x:Int) (w:World) (hx0:-5000≤x) (hx1:x≤2500) (hl:(L:Int)≤127)
  (hn:(((h:Int) == 0)&&((l:Int) == 0))=false)
  (cA:CH 142 #[.agg #[.int .u64 h,.int .u64 l]] (.tuple #[.agg #[.int .u64 (hiW V),.int .u64 (loW V)],.int .i64 L]))
  (hM:M≤9007199254740991) (hK:K < 3999)
  (hk:max (x - (L:Int)+64+64 - 53) (-1074)=(K:Int) - 1074) (hc:(K:Int) - 1074 - (x - (L:Int)+64)=(C:Int))
  (hs1:Op.shift .shr .u64 (hiW V:Int) .u64 (C:Int)=pure (.int .u64 M)) (hs2:Op.shift .shl .u64 (M:Int) .u64 (C:Int)=pure (.int .u64 S))
  (haw:(up != neg)=true) (hall:((hiW V:Int) == (S:Int)&&(loW V:Int) == 0)=false) :
  Calls Tryz.prog 96 #[.agg #[.bool neg,.int .u64 h,.int .u64 l,.int .i64 x],.bool up] w (Rt (.tuple #[.float .f64 (packW neg (K*4503599627370496+(M+1)) true),.int .i64 (packE (K*4503599627370496+(M+1)) true)]) w):=by
 have hq:=run_eq_words
 have hm0:(M:Int)≤9007199254740991:=by omega
 have cP:=Hd (fun w=>pack_any neg (M+1) K true w (by omega) (by omega))
 cases neg <;> cases up <;> first | (cases haw; done) | skip
 all_goals
  go_enter Tryz.func96,Tryz.ntmps96;go_wp2_with fail;refine (cA.out _).mono ?_;rintro e w1 ⟨rfl,hb⟩;obtain⟨hz,hcl,hfr,HB⟩:=after1 hb;clear hb;go_wp2_with fail;refine (cP.out _).mono ?_;rintro e w2 ⟨rfl,rfl⟩;go_wp2
  go_ret2
  exact ⟨rfl,HB.alloc (Nat.le_of_lt hz) _⟩
theorem round_some (neg:Bool) (W:Nat) (x:Int) (up:Bool) (w:World) (h0:W≠0) (hW:W < 340282366920938463463374607431768211456) (hx0:-5000≤x) (hx1:x≤2500) :
  Calls Tryz.prog 96 #[.agg #[.bool neg,.int .u64 (hiW W),.int .u64 (loW W),.int .i64 x],.bool up] w (Rt (.tuple #[.float .f64 (roundW neg W x up),.int .i64 (roundE neg W x up)]) w):=by
 have hr1:roundW neg W x up=packW neg (rungOf W x (up != neg)) (up != neg):=by unfold roundW; rw [if_neg h0]
 have hr2:roundE neg W x up=packE (rungOf W x (up != neg)) (up != neg):=by unfold roundE; rw [if_neg h0]
 have Hr1:=Hd hr1; have Hr2:=Hd hr2; clear hr1 hr2
 have hq:=run_eq_words;have hn:=words_ne W h0
 have hl:(lzW W:Int)≤127:=by unfold lzW; omega
 have cA:=Hd (fun w=>ahead_any W w h0 hW);have hV:=(ahead_lt W h0 hW).1;have hH:=hi_lt _ hV;have hM:=keptM_le W x hH
 have hK:keptK W x < 3999:=by unfold keptK; omega
 have hk:max (x - (lzW W:Int)+64+64 - 53) (-1074)=(keptK W x:Int) - 1074:=by unfold keptK; omega
 have hc:(keptK W x:Int) - 1074 - (x - (lzW W:Int)+64)=(keptC W x:Int):=by unfold keptK keptC; omega
 have hs1:Op.shift .shr .u64 (hiW (W*2 ^ lzW W):Int) .u64 (keptC W x:Int)=pure (.int .u64 (keptM W x)):=shift_shr_any _ _ hH;have hs2:Op.shift .shl .u64 (keptM W x:Int) .u64 (keptC W x:Int)=pure (.int .u64 (shlN (keptM W x) (keptC W x))):=shift_shl_any _ _
 have hall:((hiW (W*2 ^ lzW W):Int) == (shlN (keptM W x) (keptC W x):Int)&&(loW (W*2 ^ lzW W):Int) == 0)=keptAll W x:=by
  unfold keptAll;rw [Bool.eq_iff_iff,Bool.and_eq_true,beq_iff_eq,beq_iff_eq,decide_eq_true_eq];omega
 cases haw:(up != neg)
 ·have e:rungOf W x false=keptK W x*4503599627370496+keptM W x:=rfl
  rw [Hr1.out,Hr2.out,haw,e];exact round_in neg up _ _ _ _ _ _ _ _ _ hx0 hx1 hl hn cA hM hK hk hc hs1 haw
 ·cases hA:keptAll W x
  ·have e:rungOf W x true=keptK W x*4503599627370496+(keptM W x+1):=by unfold rungOf; rw [hA]; rfl
   rw [Hr1.out,Hr2.out,haw,e];exact round_away neg up _ _ _ _ _ _ _ _ _ _ hx0 hx1 hl hn cA hM hK hk hc hs1 hs2 haw (hall.trans hA)
  ·have e:rungOf W x true=keptK W x*4503599627370496+keptM W x:=by unfold rungOf; rw [hA]; rfl
   rw [Hr1.out,Hr2.out,haw,e];exact round_all neg up _ _ _ _ _ _ _ _ _ _ hx0 hx1 hl hn cA hM hK hk hc hs1 hs2 haw (hall.trans hA)
theorem round_any (neg:Bool) (W:Nat) (x:Int) (up:Bool) (w:World) (hW:W < 340282366920938463463374607431768211456) (hx0:-5000≤x) (hx1:x≤2500) :
  Calls Tryz.prog 96 #[.agg #[.bool neg,.int .u64 (hiW W),.int .u64 (loW W),.int .i64 x],.bool up] w (Rt (.tuple #[.float .f64 (roundW neg W x up),.int .i64 (roundE neg W x up)]) w):=by
 by_cases h0:W=0
 ·subst h0; exact round_zero neg x up w
 ·exact round_some neg W x up w h0 hW hx0 hx1
end
end Go.Proofs.YtnaomilkgfkegaaGreat
