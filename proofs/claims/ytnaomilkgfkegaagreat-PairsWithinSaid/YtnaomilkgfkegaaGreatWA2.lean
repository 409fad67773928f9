/- What the claim stands on, part 3: DirA. -/
import Derived.Test.YtnaomilkgfkegaaGreatWA0
import Derived.Test.YtnaomilkgfkegaaGreatWA1
import Derived.Deep.QuietTactic
import Derived.BigQuiet
import Derived.RegionTactic
import Derived.Deep.DeepCutAuto
set_option maxHeartbeats 400000
set_option maxRecDepth 100000
namespace Go.Proofs.YtnaomilkgfkegaaGreat
section
open Go.RowKit
theorem right_any (a:Nat) (w:World) (ha:a < 18446744073709551616) :
  Calls Tryz.prog 93 #[a] w fun e w'=>e = .returned (.bool (rightB a))∧w=w':=by
 have hb:=run_bits;have h1:=andNot_sign a ha
 by_cases c1:rung a < 9218868437227405312
 ·have c1':decide ((rung a:Int) < 9218868437227405312)=true:=by simp; omega
  by_cases c2:a=9223372036854775808
  ·have c2':((a:Int) != 9223372036854775808)=false:=by rw [bne_eq_false_iff_eq]; omega
   have H2:=Hd c2; clear c2
   go_enter Tryz.func93,Tryz.ntmps93;go_wp2;go_ret;exact ⟨by simp [rightB,H2.out],rfl⟩
  ·have c2':((a:Int) != 9223372036854775808)=true:=by rw [bne_iff_ne]; omega
   go_enter Tryz.func93,Tryz.ntmps93;go_wp2;go_ret;exact ⟨by simp [rightB,c2]; exact c1,rfl⟩
 ·have c1':decide ((rung a:Int) < 9218868437227405312)=false:=by simp; omega
  go_enter Tryz.func93,Tryz.ntmps93;go_wp2;go_ret;exact ⟨by simp [rightB]; intro h; exact absurd h c1,rfl⟩
theorem split_any (a:Nat) (w:World) (ha:a < 18446744073709551616) :
  Calls Tryz.prog 95 #[a] w (Rt (.agg #[.bool (sgnB a),.int .u64 (mant a),.int .i64 (expo a)]) w):=by
 have hb:=run_bits;have h1:=andNot_sign a ha;have h2:=and_sign a ha;have h3:=and_fract a ha;go_enter Tryz.func95,Tryz.ntmps95;go_wp2
 ·have hne:((rung a:Int) / 4503599627370496 != 0)=true:=by assumption
  obtain⟨e1,e2⟩:=split_vals a hne;rw [e1,e2];exact bodyPost_ret (v:=.agg #[.bool (sgnB a),.int .u64 (mant a),.int .i64 (expo a)]) (by simp [results,Tryz.results95,go_sem]) rfl ⟨rfl,bel2 _ _ _⟩
 ·have hne:((rung a:Int) / 4503599627370496 != 0)=false:=by assumption
  obtain⟨e1,e2⟩:=split_vals0 a hne;rw [e1,e2];exact bodyPost_ret (v:=.agg #[.bool (sgnB a),.int .u64 (mant a),.int .i64 (expo a)]) (by simp [results,Tryz.results95,go_sem]) rfl ⟨rfl,bel2 _ _ _⟩
theorem negative_any (s:Bool) (m e:Int) (w:World) :
  Calls Tryz.prog 98 #[.agg #[.bool s,.int .u64 m,.int .i64 e]] w (Rt (.agg #[.bool (!s),.int .u64 m,.int .i64 e]) w):=by
 go_enter Tryz.func98,Tryz.ntmps98;go_wp2;exact bodyPost_ret (v:=.agg #[.bool (!s),.int .u64 m,.int .i64 e]) (by simp [results,Tryz.results98,go_sem]) rfl ⟨rfl,bel2 _ _ _⟩
theorem nearer_any (s t:Bool) (m n e f:Int) (w:World) :
  Calls Tryz.prog 138 #[.agg #[.bool s,.int .u64 m,.int .i64 e],.agg #[.bool t,.int .u64 n,.int .i64 f]] w (Rt (.bool (nearB e f m n)) w):=by
 by_cases h1:e < f
 ·have h1':decide (e < f)=true:=by simpa using h1
  have hres:nearB e f m n=true:=by unfold nearB; simp; omega
  have Hres:=Hd hres; clear hres
  go_enter Tryz.func138,Tryz.ntmps138;go_wp2;go_ret;exact ⟨by rw [Hres.out]; rfl,bel2 _ _ _⟩
 ·have h1':decide (e < f)=false:=by simpa using h1
  by_cases h2:e=f
  ·have h2':(e == f)=true:=by simpa using h2
   have hres:nearB e f m n=decide (m < n):=by unfold nearB; simp [h2]
   have Hres:=Hd hres; clear hres
   have H2:=Hd h2; clear h2
   go_enter Tryz.func138,Tryz.ntmps138;go_wp2;go_ret;exact ⟨by rw [Hres.out]; rfl,bel2 _ _ _⟩
  ·have h2':(e == f)=false:=by simpa using h2
   have hres:nearB e f m n=false:=by unfold nearB; simp; omega
   have Hres:=Hd hres; clear hres
   go_enter Tryz.func138,Tryz.ntmps138;go_wp2;go_ret;exact ⟨by rw [Hres.out]; rfl,bel2 _ _ _⟩
theorem lower_one (m:Nat) (d:Int) (h:64 < d) (hm:(m:Int)≤1):(0:Int)=(hiW (lowerW m d):Int)∧(m:Int)=(loW (lowerW m d):Int):=by
 rw [lower_far m d h]; unfold hiW loW; omega
theorem lower_more (m:Nat) (d:Int) (h:64 < d) (hm:1 < (m:Int)):(0:Int)=(hiW (lowerW m d):Int)∧(1:Int)=(loW (lowerW m d):Int):=by
 rw [lower_far m d h]; unfold hiW loW; omega
theorem agg_two {a b c d:Int} (h:a=c∧b=d):(Value.agg #[.int .u64 a,.int .u64 b]) = .agg #[.int .u64 c,.int .u64 d]:=by rw [h.1,h.2]
theorem lowered_any (m:Nat) (d:Int) (w:World) (h0:0≤d) :
  Calls Tryz.prog 139 #[.int .u64 m,.int .i64 d] w (Rt (.agg #[.int .u64 (hiW (lowerW m d)),.int .u64 (loW (lowerW m d))]) w):=by
 by_cases h1:64 < d
 ·go_enter Tryz.func139,Tryz.ntmps139
  go_wp2
  ·have hm:1 < (m:Int):=by assumption
   exact bodyPost_ret (v:=.agg #[.int .u64 0,.int .u64 1]) (by simp [results,Tryz.results139,go_sem]) rfl ⟨congrArg _ (agg_two (lower_more m d h1 hm)),(Below.refl _ _).alloc (Nat.le_refl _) _⟩
  ·have hm:(m:Int)≤1:=by assumption
   exact bodyPost_ret (v:=.agg #[.int .u64 0,.int .u64 m]) (by simp [results,Tryz.results139,go_sem]) rfl ⟨congrArg _ (agg_two (lower_one m d h1 hm)),(Below.refl _ _).alloc (Nat.le_refl _) _⟩
 ·obtain⟨k,rfl⟩:=Int.eq_ofNat_of_zero_le h0
  have h1':decide ((64:Int) < k)=false:=by simpa using h1
  have h2:(k:Int)≤64:=by omega
  have h3:0≤64 - (k:Int):=by omega
  have h4:64 - (k:Int)≤64:=by omega
  have Hv:=Hd (lower_near m k (by omega));go_enter Tryz.func139,Tryz.ntmps139;go_wp2
  go_region
  all_goals go_wp2
  all_goals exact bodyPost_ret (v:=.agg #[.int .u64 ((m:Int) / 2 ^ (k:Int).toNat),.int .u64 (IntKind.u64.wrap ((m:Int)*2 ^ ((64:Int) - k).toNat))]) (by simp [results,Tryz.results139,go_sem]) rfl ⟨congrArg _ (agg_two Hv.out),((Below.refl _ _).alloc (Nat.le_refl _) _).drew⟩
theorem plus_vals (W V:Nat) (h:W+V < 340282366920938463463374607431768211456):(addLo (hiW W) (hiW V) (addHi (loW W) (loW V) 0):Int)=(hiW (W+V):Int)∧(addLo (loW W) (loW V) 0:Int)=(loW (W+V):Int):=by
 unfold addLo addHi hiW loW; omega
theorem plus_any (W V:Nat) (w:World) (h:W+V < 340282366920938463463374607431768211456) :
  Calls Tryz.prog 140 #[.agg #[.int .u64 (hiW W),.int .u64 (loW W)],.agg #[.int .u64 (hiW V),.int .u64 (loW V)]] w (Rt (.agg #[.int .u64 (hiW (W+V)),.int .u64 (loW (W+V))]) w):=by
 have r1:=run_add64_0;have r2:=run_add64 (hiW W) (hiW V) (addHi (loW W) (loW V) 0) (by have:=lo_lt W; have:=lo_lt V; unfold addHi; omega);have Hv:=Hd (plus_vals W V h);clear h;go_enter Tryz.func140,Tryz.ntmps140;go_wp2;exact bodyPost_ret (v:=.agg #[.int .u64 (addLo (hiW W) (hiW V) (addHi (loW W) (loW V) 0)),.int .u64 (addLo (loW W) (loW V) 0)]) (by simp [results,Tryz.results140,go_sem]) rfl ⟨congrArg _ (agg_two Hv.out),bel3 _ _ _ _⟩
theorem minus_vals (W V:Nat) (h:V≤W) (hW:W < 340282366920938463463374607431768211456):(subLo (hiW W) (hiW V) (subHi (loW W) (loW V) 0):Int)=(hiW (W - V):Int)∧(subLo (loW W) (loW V) 0:Int)=(loW (W - V):Int):=by
 unfold subLo subHi hiW loW
 split <;> omega
theorem minus_any (W V:Nat) (w:World) (h:V≤W) (hW:W < 340282366920938463463374607431768211456) :
  Calls Tryz.prog 141 #[.agg #[.int .u64 (hiW W),.int .u64 (loW W)],.agg #[.int .u64 (hiW V),.int .u64 (loW V)]] w (Rt (.agg #[.int .u64 (hiW (W - V)),.int .u64 (loW (W - V))]) w):=by
 have r1:=run_sub64_0;have r2:=run_sub64 (hiW W) (hiW V) (subHi (loW W) (loW V) 0) (by unfold subHi; split <;> omega);have Hv:=Hd (minus_vals W V h hW);clear h hW;go_enter Tryz.func141,Tryz.ntmps141;go_wp2;exact bodyPost_ret (v:=.agg #[.int .u64 (subLo (hiW W) (hiW V) (subHi (loW W) (loW V) 0)),.int .u64 (subLo (loW W) (loW V) 0)]) (by simp [results,Tryz.results141,go_sem]) rfl ⟨congrArg _ (agg_two Hv.out),bel3 _ _ _ _⟩
end
end Go.Proofs.YtnaomilkgfkegaaGreat
