/- What the claim stands on, part 6: DivW, DivN. -/
import Derived.Test.YtnaomilkgfkegaaGreatWA4
import Derived.Test.YtnaomilkgfkegaaGreatWA1
import Derived.Deep.CutBlock
import Derived.Deep.QuietTactic
import Derived.BigQuiet
set_option maxHeartbeats 2000000
set_option maxRecDepth 100000
namespace Go.Proofs.YtnaomilkgfkegaaGreat
section
open Go.RowKit
def AtDigit (n:Nat) (w:World) (a b:Value) (w':World):Prop:=a = .int .u64 n∧(∃ r:Nat,b = .int .u64 r)∧w=w'
theorem mulw (q y:Nat) (hq:q < 4294967296) (hy:y < 4294967296):IntKind.u64.wrap ((q:Int)*(y:Int))=((q*y:Nat):Int):=by
 have:q*y≤4294967295*4294967295:=Nat.mul_le_mul (by omega) (by omega);rw [IntKind.wrap_u64,←Int.natCast_mul];generalize q*y=z at *;omega
theorem digit_sub {q n:Nat} {r y:Nat} {w:World} (h:q - 1=n) (h1:1≤q):AtDigit n w (.int .u64 ((q:Int) - 1)) (.int .u64 ((r:Int)+(y:Int))) w:=
 ⟨by rw [←h]; congr 1; omega,⟨r+y,by rw [Int.natCast_add]⟩,rfl⟩
theorem digit_end {q n r:Nat} {w:World} (h:q=n):AtDigit n w (.int .u64 (q:Int)) (.int .u64 (r:Int)) w:=⟨by rw [h],⟨r,rfl⟩,rfl⟩
theorem guess_on {Y1 Y0 u d q r:Nat} (h:Guess Y1 Y0 u d (q - 1) (r+Y1)) (h1:1≤q):∃ q' r':Nat,Value.int .u64 ((q:Int) - 1) = .int .u64 q'∧Value.int .u64 ((r:Int)+(Y1:Int)) = .int .u64 r'∧Guess Y1 Y0 u d q' r':=
 ⟨q - 1,r+Y1,by congr 1; omega,by rw [Int.natCast_add],h⟩
theorem div64_walk (hi lo y s N Y1 Y0 H L U32 U10 U1 U0 Q P R D1 U21 Q2 P2 R2 D0 QQ RR:Nat) (w:World)
  (hy0:((y:Int) == 0)=false) (hle:decide (y≤hi)=false) (hh:((hi:Int) == 0)=false)
  (cL:Hid (∀ w,Calls Tryz.prog 178 #[.int .u64 y] w fun e w'=>e = .returned (.int .i64 s)∧w=w')) (hs:(s:Int)≤63)
  (e1:IntKind.u64.wrap ((y:Int)*2 ^ s)=N)
  (e2:(N:Int) / 4294967296=Y1) (e3:bits .and .u64 (N:Int) 4294967295=Y0)
  (e4:IntKind.u64.wrap ((hi:Int)*2 ^ s)=H)
  (e5:(lo:Int) / 2 ^ (64 - s)=L)
  (e6:bits .or .u64 (H:Int) (L:Int)=U32)
  (e7:IntKind.u64.wrap ((lo:Int)*2 ^ s)=U10)
  (e8:(U10:Int) / 4294967296=U1) (e9:bits .and .u64 (U10:Int) 4294967295=U0)
  (hY:¬ Y1=0) (e10:IntKind.u64.wrap ((U32:Int) / Y1)=Q) (e11:IntKind.u64.wrap ((Q:Int)*Y1)=P) (e12:IntKind.u64.wrap ((U32:Int) - P)=R)
  (HG:Hid (Guess Y1 Y0 U32 U1 Q R)) (HD1:Hid ((U32*4294967296+U1) / (Y1*4294967296+Y0)=D1))
  (e13:IntKind.u64.wrap (IntKind.u64.wrap (IntKind.u64.wrap ((U32:Int)*4294967296)+U1) - IntKind.u64.wrap ((D1:Int)*N))=U21)
  (e14:IntKind.u64.wrap ((U21:Int) / Y1)=Q2) (e15:IntKind.u64.wrap ((Q2:Int)*Y1)=P2) (e16:IntKind.u64.wrap ((U21:Int) - P2)=R2)
  (HG2:Hid (Guess Y1 Y0 U21 U0 Q2 R2)) (HD0:Hid ((U21*4294967296+U0) / (Y1*4294967296+Y0)=D0))
  (e17:IntKind.u64.wrap (IntKind.u64.wrap ((D1:Int)*4294967296)+D0)=QQ)
  (e18:IntKind.u64.wrap (IntKind.u64.wrap (IntKind.u64.wrap ((U21:Int)*4294967296)+U0) - IntKind.u64.wrap ((D0:Int)*N))=RR) :
  Calls Tryz.prog 195 #[.int .u64 hi,.int .u64 lo,.int .u64 y] w fun r w'=>r = .returned (.tuple #[.int .u64 QQ,.int .u64 ((RR:Int) / 2 ^ s)])∧w=w':=by
 go_enter Tryz.func195,Tryz.ntmps195;go_wp2_with fail;refine (cL.out _).mono ?_;rintro e w1 ⟨rfl,rfl⟩
 go_upto_block 0 with fail
 go_cut [15,16] (AtDigit D1 w)
 case first =>
  go_wp2_with fail
  go_loop [15,16] (fun a b=>∃ q r:Nat,a = .int .u64 q∧b = .int .u64 r∧Guess Y1 Y0 U32 U1 q r) (fun _ b=>8589934592 - (intOf b).toNat)
  case atStart=>exact ⟨Q,R,rfl,rfl,HG.out⟩
  case round =>
   obtain⟨q,r,rfl,rfl,g⟩:=hrel;have r1:=g.rlo;have r2:=g.qhi;have y1:=g.y1lo;have y2:=g.y1hi;have d1:=g.dhi;have G:=Hd g
   by_cases ca:4294967296≤q
   ·have ca':decide (4294967296≤(q:Int))=true:=by simp; omega
    have ca'':decide (4294967296≤q)=true:=by simp; omega
    have cG:=Hd (g.less (Or.inl ca)).1;clear g
    by_cases cr:4294967296≤r+Y1
    ·have cr':decide (4294967296≤(r:Int)+(Y1:Int))=true:=by simp; omega
     have HF:=Hd (G.out.out (Or.inl ca) cr);go_wp2_with fail
     go_meet
     exact digit_sub (HF.out.trans HD1.out) cG.out
    ·have cr':decide (4294967296≤(r:Int)+(Y1:Int))=false:=by simp; omega
     have HF:=Hd (G.out.on (Or.inl ca) (by omega));go_wp2_with fail;exact ⟨guess_on HF.out cG.out,by simp [intOf]; omega⟩
   ·have ca':decide (4294967296≤(q:Int))=false:=by simp; omega
    have ca'':decide (4294967296≤q)=false:=by simp; omega
    have hm:=mulw q Y0 (by omega) g.y0hi;obtain⟨z,hz⟩:∃ z,z=q*Y0:=⟨_,rfl⟩;rw [←hz] at hm
    by_cases cb:4294967296*r+U1 < z
    ·have cG:=Hd (g.less (Or.inr (by rw [←hz]; exact cb)))
     clear g;have cG1:1≤q:=cG.out.1
     by_cases cr:4294967296≤r+Y1
     ·have cr':decide (4294967296≤(r:Int)+(Y1:Int))=true:=by simp; omega
      have HF:=Hd (G.out.out (Or.inr (by rw [←hz]; exact cb)) cr)
      have Hz:=Hd hz; clear hz
      go_wp2_with fail
      go_meet
      exact digit_sub (HF.out.trans HD1.out) cG1
     ·have cr':decide (4294967296≤(r:Int)+(Y1:Int))=false:=by simp; omega
      have HF:=Hd (G.out.on (Or.inr (by rw [←hz]; exact cb)) (by omega))
      have Hz:=Hd hz; clear hz
      go_wp2_with fail;exact ⟨guess_on HF.out cG1,by simp [intOf]; omega⟩
    ·have HF:=Hd (g.fits (by rw [←hz]; omega))
     have Hz:=Hd hz; clear hz g
     go_wp2_with fail
     go_meet
     exact digit_end (HF.out.trans HD1.out)
 case rest =>
  obtain⟨rfl,⟨r0,rfl⟩,rfl⟩:=hcut
  go_upto_block 2 with fail
  go_cut [18,16] (AtDigit D0 w)
  case first =>
   go_wp2_with fail
   go_loop [18,16] (fun a b=>∃ q r:Nat,a = .int .u64 q∧b = .int .u64 r∧Guess Y1 Y0 U21 U0 q r) (fun _ b=>8589934592 - (intOf b).toNat)
   case atStart=>exact ⟨Q2,R2,rfl,rfl,HG2.out⟩
   case round =>
    obtain⟨q,r,rfl,rfl,g⟩:=hrel;have r1:=g.rlo;have r2:=g.qhi;have y1:=g.y1lo;have y2:=g.y1hi;have d1:=g.dhi;have G:=Hd g
    by_cases ca:4294967296≤q
    ·have ca':decide (4294967296≤(q:Int))=true:=by simp; omega
     have ca'':decide (4294967296≤q)=true:=by simp; omega
     have cG:=Hd (g.less (Or.inl ca)).1;clear g
     by_cases cr:4294967296≤r+Y1
     ·have cr':decide (4294967296≤(r:Int)+(Y1:Int))=true:=by simp; omega
      have HF:=Hd (G.out.out (Or.inl ca) cr);go_wp2_with fail
      go_meet
      exact digit_sub (HF.out.trans HD0.out) cG.out
     ·have cr':decide (4294967296≤(r:Int)+(Y1:Int))=false:=by simp; omega
      have HF:=Hd (G.out.on (Or.inl ca) (by omega));go_wp2_with fail;exact ⟨guess_on HF.out cG.out,by simp [intOf]; omega⟩
    ·have ca':decide (4294967296≤(q:Int))=false:=by simp; omega
     have ca'':decide (4294967296≤q)=false:=by simp; omega
     have hm:=mulw q Y0 (by omega) g.y0hi;obtain⟨z,hz⟩:∃ z,z=q*Y0:=⟨_,rfl⟩;rw [←hz] at hm
     by_cases cb:4294967296*r+U0 < z
     ·have cG:=Hd (g.less (Or.inr (by rw [←hz]; exact cb)))
      clear g;have cG1:1≤q:=cG.out.1
      by_cases cr:4294967296≤r+Y1
      ·have cr':decide (4294967296≤(r:Int)+(Y1:Int))=true:=by simp; omega
       have HF:=Hd (G.out.out (Or.inr (by rw [←hz]; exact cb)) cr)
       have Hz:=Hd hz; clear hz
       go_wp2_with fail
       go_meet
       exact digit_sub (HF.out.trans HD0.out) cG1
      ·have cr':decide (4294967296≤(r:Int)+(Y1:Int))=false:=by simp; omega
       have HF:=Hd (G.out.on (Or.inr (by rw [←hz]; exact cb)) (by omega))
       have Hz:=Hd hz; clear hz
       go_wp2_with fail;exact ⟨guess_on HF.out cG1,by simp [intOf]; omega⟩
     ·have HF:=Hd (g.fits (by rw [←hz]; omega))
      have Hz:=Hd hz; clear hz g
      go_wp2_with fail
      go_meet
      exact digit_end (HF.out.trans HD0.out)
  case rest =>
   obtain⟨rfl,⟨r3,rfl⟩,rfl⟩:=hcut;go_wp2
   go_ret2
   exact ⟨rfl,rfl⟩
end
section
open Go.RowKit
theorem and_low32 (a:Nat) (ha:a < 18446744073709551616):bits .and .u64 (a:Int) 4294967295=((a % 4294967296:Nat):Int):=by
 rw [show (4294967295:Int)=((4294967295:Nat):Int) from rfl,bits_and_u64_nat a _ ha (by omega)];have h:=and_mask a 32
 have e1:(2 ^ 32 - 1:Nat)=4294967295:=by decide
 have e2:(2 ^ 32:Nat)=4294967296:=by decide
 rw [e1,e2] at h;rw [h]
theorem div64_zero (lo y a b:Nat) (w:World) (hy:0 < y) (ha:IntKind.u64.wrap ((lo:Int) / y)=a) (hb:(lo:Int) % y=b) :
  Calls Tryz.prog 195 #[.int .u64 0,.int .u64 lo,.int .u64 y] w fun r w'=>r = .returned (.tuple #[.int .u64 a,.int .u64 b])∧∃ m,w'=w.drewN m:=by
 have hy0:((y:Int) == 0)=false:=by rw [beq_eq_false_iff_ne]; omega
 have hle:decide ((y:Int)≤0)=false:=by simp; omega
 have hle2:decide (y≤0)=false:=by simp; omega
 have hY:¬ y=0:=by omega
 go_enter Tryz.func195,Tryz.ntmps195;go_wp2
 go_region
 all_goals (go_wp2; go_ret2; exact ⟨by rw [hb]; rfl,1,rfl⟩)
theorem wrap_nat (z:Nat) (h:z < 18446744073709551616):IntKind.u64.wrap (z:Int)=z:=by rw [IntKind.wrap_u64]; omega
theorem shl_word (x k:Nat) (h:x*2 ^ k < 18446744073709551616):IntKind.u64.wrap ((x:Int)*2 ^ k)=((x*2 ^ k:Nat):Int):=by
 rw [show ((2:Int) ^ k)=((2 ^ k:Nat):Int) by simp,←Int.natCast_mul];exact wrap_nat _ h
theorem shl_mod (x k:Nat):IntKind.u64.wrap ((x:Int)*2 ^ k)=((x*2 ^ k % 18446744073709551616:Nat):Int):=by
 rw [IntKind.wrap_u64,show ((2:Int) ^ k)=((2 ^ k:Nat):Int) by simp,←Int.natCast_mul];omega
theorem quo_word (x y:Nat) (h:x < 18446744073709551616):IntKind.u64.wrap ((x:Int) / y)=((x / y:Nat):Int):=by
 have h1:=Nat.lt_of_le_of_lt (Nat.div_le_self x y) h;rw [←Int.natCast_ediv];exact wrap_nat _ h1
theorem mul_word (x y:Nat) (h:x*y < 18446744073709551616):IntKind.u64.wrap ((x:Int)*y)=((x*y:Nat):Int):=by
 rw [←Int.natCast_mul];exact wrap_nat _ h
theorem sub_le_word (x y:Nat) (h:y≤x) (hx:x < 18446744073709551616):IntKind.u64.wrap ((x:Int) - y)=((x - y:Nat):Int):=by
 rw [IntKind.wrap_u64];omega
theorem moved (hi lo y s:Nat) (h:hi < y) (hlo:lo < 18446744073709551616) (hs:s≤63) :
  (hi*2 ^ s+lo / 2 ^ (64 - s))*18446744073709551616+lo*2 ^ s % 18446744073709551616=(hi*18446744073709551616+lo)*2 ^ s∧hi*2 ^ s+lo / 2 ^ (64 - s) < y*2 ^ s∧lo / 2 ^ (64 - s) < 2 ^ s:=by
 have hp:=pow_split s (by omega)
 have p2:0 < 2 ^ (64 - s):=Nat.two_pow_pos _
 have p1:0 < 2 ^ s:=Nat.two_pow_pos _
 have hd:lo / 2 ^ (64 - s) < 2 ^ s:=by rw [Nat.div_lt_iff_lt_mul p2,hp]; exact hlo
 have e2:lo / 2 ^ (64 - s)=lo*2 ^ s / 18446744073709551616:=by
  rw [←hp,Nat.mul_comm (2 ^ s) (2 ^ (64 - s)),Nat.mul_div_mul_right _ _ p1]
 have h3:(hi+1)*2 ^ s≤y*2 ^ s:=Nat.mul_le_mul_right _ h;rw [Nat.add_mul] at h3;refine ⟨?_,by omega,hd⟩;rw [e2,Nat.add_mul (hi*18446744073709551616),Nat.mul_right_comm hi];omega
theorem rest_of (U Y:Nat):U - U / Y*Y=U % Y:=by
 have h:=Nat.div_add_mod U Y;rw [Nat.mul_comm] at h;omega
theorem rest_word (U Y:Nat) (hU:U < 18446744073709551616):IntKind.u64.wrap ((U:Int) - ((U / Y*Y:Nat):Int))=((U % Y:Nat):Int):=by
 rw [sub_le_word _ _ (Nat.div_mul_le_self U Y) hU,rest_of]
theorem mul_rest (U Y:Nat) (hU:U < 18446744073709551616):IntKind.u64.wrap (((U / Y:Nat):Int)*Y)=((U / Y*Y:Nat):Int):=
 mul_word _ _ (Nat.lt_of_le_of_lt (Nat.div_mul_le_self U Y) hU)
theorem sub_digit (a u N:Nat) (hN:0 < N) (h:N < 18446744073709551616) :
  IntKind.u64.wrap (IntKind.u64.wrap (IntKind.u64.wrap ((a:Int)*4294967296)+u) - IntKind.u64.wrap ((((a*4294967296+u) / N:Nat):Int)*N))=(((a*4294967296+u) % N:Nat):Int):=by
 have e:=Nat.div_add_mod (a*4294967296+u) N;rw [Nat.mul_comm] at e;rw [←Int.natCast_mul];exact sub_word a u ((a*4294967296+u) / N*N) ((a*4294967296+u) % N) 18446744073709551616 rfl e.symm (Nat.lt_trans (Nat.mod_lt _ hN) h)
theorem div64_vars (hi lo y s N H L U U10 Y1 Y0 U1 U0 V:Nat) (w:World) (h0:hi≠0) (h:hi < y)
  (cL:Hid (∀ w,Calls Tryz.prog 178 #[.int .u64 y] w fun e w'=>e = .returned (.int .i64 s)∧w=w')) (hs:s≤63)
  (e1:IntKind.u64.wrap ((y:Int)*2 ^ s)=N) (e4:IntKind.u64.wrap ((hi:Int)*2 ^ s)=H) (e5:(lo:Int) / 2 ^ (64 - s)=L) (e6:bits .or .u64 (H:Int) (L:Int)=U) (e7:IntKind.u64.wrap ((lo:Int)*2 ^ s)=U10)
  (e2:(N:Int) / 4294967296=Y1) (e3:bits .and .u64 (N:Int) 4294967295=Y0) (e8:(U10:Int) / 4294967296=U1) (e9:bits .and .u64 (U10:Int) 4294967295=U0)
  (eN:Y1*4294967296+Y0=N) (y1lo:2147483648≤Y1) (y1hi:Y1 < 4294967296) (y0hi:Y0 < 4294967296) (u1:U1 < 4294967296) (u0:U0 < 4294967296)
  (hN2:N < 18446744073709551616) (hU:U < N) (hV:(U*4294967296+U1) % N=V) :
  Calls Tryz.prog 195 #[.int .u64 hi,.int .u64 lo,.int .u64 y] w fun r w'=>r = .returned (.tuple #[.int .u64 (((U*4294967296+U1) / N*4294967296+(V*4294967296+U0) / N:Nat):Int),.int .u64 ((((V*4294967296+U0) % N:Nat):Int) / 2 ^ s)])∧w=w':=by
 have hN:0 < N:=by omega
 have hV2:V < N:=by rw [←hV]; exact Nat.mod_lt _ hN
 have hU2:U < 18446744073709551616:=Nat.lt_trans hU hN2
 have hV3:V < 18446744073709551616:=Nat.lt_trans hV2 hN2
 have g1:=Guess.start Y1 Y0 U U1 y1lo y1hi y0hi u1 (by rw [eN]; exact hU);have g2:=Guess.start Y1 Y0 V U0 y1lo y1hi y0hi u0 (by rw [eN]; exact hV2);have d1:=digit_of U U1 N hU u1;have d0:=digit_of V U0 N hV2 u0;have t1:=sub_digit U U1 N hN hN2;have t2:=sub_digit V U0 N hN hN2;rw [hV] at t1
 have a1:((y:Int) == 0)=false:=by rw [beq_eq_false_iff_ne]; omega
 have a2:decide (y≤hi)=false:=decide_eq_false (by omega)
 have a3:((hi:Int) == 0)=false:=by rw [beq_eq_false_iff_ne]; omega
 exact div64_walk hi lo y s N Y1 Y0 H L U U10 U1 U0 (U / Y1) (U / Y1*Y1) (U % Y1) ((U*4294967296+U1) / N) V (V / Y1) (V / Y1*Y1) (V % Y1) ((V*4294967296+U0) / N) _ _ w a1 a2 a3 cL (by omega) e1 e2 e3 e4 e5 e6 e7 e8 e9 (by omega)
  (quo_word U Y1 hU2) (mul_rest U Y1 hU2) (rest_word U Y1 hU2) (Hd g1) (Hd (by rw [eN])) t1 (quo_word V Y1 hV3) (mul_rest V Y1 hV3) (rest_word V Y1 hV3) (Hd g2) (Hd (by rw [eN])) (join_word _ _ d1 d0) t2
theorem split32 (N:Nat):N / 4294967296*4294967296+N % 4294967296=N:=by omega
theorem div64_mid (hi lo y s N H L U U10:Nat) (w:World) (h0:hi≠0) (h:hi < y)
  (cL:Hid (∀ w,Calls Tryz.prog 178 #[.int .u64 y] w fun e w'=>e = .returned (.int .i64 s)∧w=w')) (hs:s≤63)
  (e1:IntKind.u64.wrap ((y:Int)*2 ^ s)=N) (e4:IntKind.u64.wrap ((hi:Int)*2 ^ s)=H) (e5:(lo:Int) / 2 ^ (64 - s)=L) (e6:bits .or .u64 (H:Int) (L:Int)=U) (e7:IntKind.u64.wrap ((lo:Int)*2 ^ s)=U10)
  (hN1:9223372036854775808≤N) (hN2:N < 18446744073709551616) (hU:U < N) (hU10:U10 < 18446744073709551616) :
  Calls Tryz.prog 195 #[.int .u64 hi,.int .u64 lo,.int .u64 y] w fun r w'=>r = .returned (.tuple #[.int .u64 (((U*18446744073709551616+U10) / N:Nat):Int),.int .u64 ((((U*18446744073709551616+U10) % N:Nat):Int) / 2 ^ s)])∧w=w':=by
 have t:=two_digits U (U10 / 4294967296) (U10 % 4294967296) N (by omega);rw [split32 U10] at t;rw [t.1,t.2]
 exact div64_vars hi lo y s N H L U U10 (N / 4294967296) (N % 4294967296) (U10 / 4294967296) (U10 % 4294967296) _ w h0 h cL hs e1 e4 e5 e6 e7 (Int.natCast_ediv _ _).symm (and_low32 N hN2) (Int.natCast_ediv _ _).symm (and_low32 U10 hU10)
  (split32 N) (by clear e1 e4 e5 e6 e7 t; omega) (by clear e1 e4 e5 e6 e7 t; omega) (by clear e1 e4 e5 e6 e7 t; omega) (by clear e1 e4 e5 e6 e7 t; omega) (by clear e1 e4 e5 e6 e7 t; omega) hN2 hU rfl
theorem div64_some (hi lo y:Nat) (w:World) (h0:hi≠0) (h:hi < y) (hlo:lo < 18446744073709551616) (hy:y < 18446744073709551616) :
  Calls Tryz.prog 195 #[.int .u64 hi,.int .u64 lo,.int .u64 y] w fun r w'=>r = .returned (.tuple #[.int .u64 (((hi*18446744073709551616+lo) / y:Nat):Int),.int .u64 (((hi*18446744073709551616+lo) % y:Nat):Int)])∧w=w':=by
 have hy0:y≠0:=by omega
 have hs:=lz_le y hy0;obtain⟨hN1,hN2⟩:=lz_shift y hy0 hy;obtain⟨m1,m2,m3⟩:=moved hi lo y (lz64 y) h hlo hs
 have p1:0 < 2 ^ lz64 y:=Nat.two_pow_pos _
 have hh2:hi*2 ^ lz64 y < 18446744073709551616:=Nat.lt_of_le_of_lt (Nat.le_add_right _ _) (Nat.lt_trans m2 hN2)
 have c:=div64_mid hi lo y (lz64 y) (y*2 ^ lz64 y) (hi*2 ^ lz64 y) (lo / 2 ^ (64 - lz64 y)) (hi*2 ^ lz64 y+lo / 2 ^ (64 - lz64 y)) (lo*2 ^ lz64 y % 18446744073709551616) w h0 h
  (Hd (fun w=>lz_any y w hy)) hs (shl_word y _ hN2) (shl_word hi _ hh2) (by rw [Int.natCast_ediv]; simp) (by rw [bits_or_u64_nat _ _ hh2 (Nat.lt_of_le_of_lt (Nat.div_le_self _ _) hlo),or_add _ _ _ m3]) (shl_mod lo _) hN1 hN2 m2 (Nat.mod_lt _ (by decide))
 rw [m1,Nat.mul_div_mul_right _ _ p1,Nat.mul_mod_mul_right] at c
 refine c.mono fun e w' ⟨he,hw⟩=>⟨?_,hw⟩
 rw [he,show ((2:Int) ^ lz64 y)=((2 ^ lz64 y:Nat):Int) by simp,←Int.natCast_ediv,Nat.mul_div_cancel _ p1]
theorem div64_any (hi lo y:Nat) (w:World) (h:hi < y) (hlo:lo < 18446744073709551616) (hy:y < 18446744073709551616) :
  Calls Tryz.prog 195 #[.int .u64 hi,.int .u64 lo,.int .u64 y] w fun r w'=>r = .returned (.tuple #[.int .u64 (((hi*18446744073709551616+lo) / y:Nat):Int),.int .u64 (((hi*18446744073709551616+lo) % y:Nat):Int)])∧∃ m,w'=w.drewN m:=by
 by_cases h0:hi=0
 ·subst h0
  rw [Nat.zero_mul,Nat.zero_add];exact div64_zero lo y _ _ w h (quo_word lo y hlo) (Int.natCast_emod _ _).symm
 ·exact (div64_some hi lo y w h0 h hlo hy).mono fun e w' ⟨he,hw⟩=>⟨he,0,by rw [←hw]; rfl⟩
end
end Go.Proofs.YtnaomilkgfkegaaGreat
