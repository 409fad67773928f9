/- What the claim stands on, part 26: QHm, QO2. -/
import Derived.Test.YtnaomilkgfkegaaGreatWA24
namespace Go.Proofs.YtnaomilkgfkegaaGreat
section
open Go.RowKit
def Nul (f:Nat→Rat):Prop:=∀ e:Rat,0 < e→∃ M:Nat,∀ m,M≤m → -e≤f m∧f m≤e
def Bd (f:Nat→Rat):Prop:=∃ B:Rat,0 < B∧∃ M:Nat,∀ m,M≤m → -B≤f m∧f m≤B
def Eqv (f g:Nat→Rat):Prop:=Nul fun m=>f m - g m
def Abv (d:Rat) (f:Nat→Rat):Prop:=∃ M:Nat,∀ m,M≤m→d≤f m
theorem rat_mul {x y B e:Rat} (h1:-B≤x) (h2:x≤B) (h3:-e≤y) (h4:y≤e):-(B*e)≤x*y∧x*y≤B*e:=by
 have a:=Rat.mul_nonneg (by grind:0≤B - x) (by grind:0≤e+y);have b:=Rat.mul_nonneg (by grind:0≤B+x) (by grind:0≤e - y);have c:=Rat.mul_nonneg (by grind:0≤B - x) (by grind:0≤e - y);have d:=Rat.mul_nonneg (by grind:0≤B+x) (by grind:0≤e+y)
 constructor <;> grind
section
variable {f g f' g':Nat→Rat}
theorem Nul.add (h:Nul f) (k:Nul g):Nul fun m=>f m+g m:=fun e he=>by
 obtain⟨M,hM⟩:=h (e / 2) (by grind);obtain⟨N,hN⟩:=k (e / 2) (by grind);refine ⟨M+N,fun m hm=>?_⟩;have a:=hM m (by omega);have b:=hN m (by omega)
 constructor <;> grind
theorem Nul.neg (h:Nul f):Nul fun m => -f m:=fun e he=>by
 obtain⟨M,hM⟩:=h e he;refine ⟨M,fun m hm=>?_⟩;have a:=hM m hm
 constructor <;> grind
theorem Nul.zero:Nul fun _=>0:=fun e he=>⟨0,fun _ _=>by constructor <;> grind⟩
theorem Nul.of (h:Nul f) (e:∀ m,f m=g m):Nul g:=by
 have:f=g:=funext e
 rw [←this]; exact h
theorem Nul.mul (k:Bd f) (h:Nul g):Nul fun m=>f m*g m:=fun e he=>by
 obtain⟨B,hB,N,hN⟩:=k
 have hd:0 < e / B:=by
  have:=Rat.mul_pos he (Rat.inv_pos.2 hB)
  rw [Rat.div_def]; exact this
 obtain⟨M,hM⟩:=h (e / B) hd;refine ⟨M+N,fun m hm=>?_⟩;have a:=hM m (by omega);have b:=hN m (by omega);have c:=rat_mul b.1 b.2 a.1 a.2
 have e1:B*(e / B)=e:=by grind
 rw [e1] at c;exact c
theorem Nul.bd (h:Nul f):Bd f:=by
 obtain⟨M,hM⟩:=h 1 (by grind);exact ⟨1,by grind,M,hM⟩
theorem Bd.add (h:Bd f) (k:Bd g):Bd fun m=>f m+g m:=by
 obtain⟨B,hB,M,hM⟩:=h;obtain⟨C,hC,N,hN⟩:=k;refine ⟨B+C,by grind,M+N,fun m hm=>?_⟩;have a:=hM m (by omega);have b:=hN m (by omega)
 constructor <;> grind
theorem Bd.neg (h:Bd f):Bd fun m => -f m:=by
 obtain⟨B,hB,M,hM⟩:=h;refine ⟨B,hB,M,fun m hm=>?_⟩;have a:=hM m hm
 constructor <;> grind
theorem Bd.sub (h:Bd f) (k:Bd g):Bd fun m=>f m - g m:=by
 obtain⟨B,hB,M,hM⟩:=h.add k.neg;refine ⟨B,hB,M,fun m hm=>?_⟩;have a:=hM m hm
 constructor <;> grind
theorem Bd.mul (h:Bd f) (k:Bd g):Bd fun m=>f m*g m:=by
 obtain⟨B,hB,M,hM⟩:=h;obtain⟨C,hC,N,hN⟩:=k;refine ⟨B*C,Rat.mul_pos hB hC,M+N,fun m hm=>?_⟩;have a:=hM m (by omega);have b:=hN m (by omega);exact rat_mul a.1 a.2 b.1 b.2
theorem Bd.const (c:Rat):Bd fun _=>c:=by
 rcases Rat.le_total (a:=0) (b:=c) with h | h
 ·exact ⟨c+1,by grind,0,fun _ _=>by constructor <;> grind⟩
 ·exact ⟨1 - c,by grind,0,fun _ _=>by constructor <;> grind⟩
theorem Eqv.rfl:Eqv f f:=Nul.zero.of fun m=>by grind
theorem Eqv.symm (h:Eqv f g):Eqv g f:=(Nul.neg h).of fun m=>by grind
theorem Eqv.trans {k:Nat→Rat} (h:Eqv f g) (h':Eqv g k):Eqv f k:=(Nul.add h h').of fun m=>by grind
theorem Eqv.of (e:∀ m,f m=g m):Eqv f g:=Nul.zero.of fun m=>by rw [e m]; grind
theorem Eqv.bd (h:Eqv f g) (k:Bd f):Bd g:=by
 obtain⟨B,hB,M,hM⟩:=k.sub (Nul.bd h);refine ⟨B,hB,M,fun m hm=>?_⟩;have a:=hM m hm
 constructor <;> grind
theorem Eqv.mul (h:Eqv f f') (k:Eqv g g') (bf:Bd f) (bg:Bd g):Eqv (fun m=>f m*g m) fun m=>f' m*g' m:=
 (Nul.add (Nul.mul (h.bd bf) k) (Nul.mul bg h)).of fun m=>by grind
theorem Abv.of_eqv {d d':Rat} (h:Abv d f) (k:Eqv f g) (hd:d' < d):Abv d' g:=by
 obtain⟨M,hM⟩:=h;obtain⟨N,hN⟩:=k (d - d') (by grind);refine ⟨M+N,fun m hm=>?_⟩;have a:=hM m (by omega);have b:=hN m (by omega)
 grind
theorem Abv.inv {d:Rat} (h0:0 < d) (h:Abv d f):Bd fun m=>(f m)⁻¹:=by
 obtain⟨M,hM⟩:=h;refine ⟨d⁻¹,Rat.inv_pos.2 h0,M,fun m hm=>?_⟩;have a:=hM m hm
 have p:0 < f m:=by grind
 have i:=Rat.inv_pos.2 p;have j:=Rat.inv_pos.2 h0
 constructor
 ·grind
 ·refine Rat.le_of_mul_le_mul_right (c:=f m) ?_ p
  have e1:(f m)⁻¹*f m=1:=by grind
  have e2:=Rat.mul_le_mul_of_nonneg_left a (by grind:0≤d⁻¹)
  have e3:d⁻¹*d=1:=by grind
  rw [e1]; grind
theorem Eqv.inv {d:Rat} (h0:0 < d) (lf:Abv d f) (lg:Abv d g) (h:Eqv f g):Eqv (fun m=>(f m)⁻¹) fun m=>(g m)⁻¹:=by
 have k:=Nul.mul ((lf.inv h0).mul (lg.inv h0)) (Nul.neg h);obtain⟨M,hM⟩:=lf;obtain⟨N,hN⟩:=lg;intro e he;obtain⟨L,hL⟩:=k e he;refine ⟨L+M+N,fun m hm=>?_⟩;have a:=hL m (by omega);have b:=hM m (by omega);have c:=hN m (by omega)
 have e1:(f m)⁻¹*(g m)⁻¹ * -(f m - g m)=(f m)⁻¹ - (g m)⁻¹:=by
  have p:f m≠0:=by grind
  have q:g m≠0:=by grind
  grind
 dsimp only at a ⊢;rw [e1] at a;exact a
theorem Eqv.div {d:Rat} (h0:0 < d) (lg:Abv d g) (lg':Abv d g') (h:Eqv f f') (k:Eqv g g') (bf:Bd f):Eqv (fun m=>f m / g m) fun m=>f' m / g' m:=by
 have r:=Eqv.mul h (Eqv.inv h0 lg lg' k) bf (lg.inv h0)
 exact r.symm.symm.trans (Eqv.of fun m=>(Rat.div_def _ _).symm) |> fun t=>(Eqv.of fun m=>Rat.div_def _ _).trans t
end
structure HasQ (r:Res) (x:Rat):Prop where
 low:((val r.lo:Int):Rat)≤x*((SS:Int):Rat)
 high:x*((SS:Int):Rat)≤((val r.hi:Int):Rat)
theorem ssQ:(0:Rat) < ((SS:Int):Rat):=Rat.intCast_pos.2 SS0
theorem HasQ.ofV {r:Res} {P T:Int} (h:HasV r P T):HasQ r ((T:Rat) / (P:Rat)):=by
 have p:(0:Rat) < (P:Rat):=Rat.intCast_pos.2 h.pos
 have a:=Rat.intCast_le_intCast.2 h.low;have b:=Rat.intCast_le_intCast.2 h.high;rw [Rat.intCast_mul,Rat.intCast_mul] at a b
 have e:(T:Rat) / (P:Rat)*((SS:Int):Rat)*(P:Rat)=(T:Rat)*((SS:Int):Rat):=by grind
 exact ⟨Rat.le_of_mul_le_mul_right (by rw [e]; exact a) p,Rat.le_of_mul_le_mul_right (by rw [e]; exact b) p⟩
theorem num_den (x:Rat):(x.num:Rat) / (((x.den:Nat):Int):Rat)=x:=by rw [←Rat.divInt_eq_div]; exact Rat.num_divInt_den x
theorem HasQ.toV {r:Res} {x:Rat} (h:HasQ r x):HasV r x.den x.num:=by
 have d0:(0:Int) < ((x.den:Nat):Int):=Int.natCast_pos.2 x.den_pos
 have p:(0:Rat) < (((x.den:Nat):Int):Rat):=Rat.intCast_pos.2 d0
 have e:=num_den x
 have e':x*(((x.den:Nat):Int):Rat)=(x.num:Rat):=by rw [←e]; grind
 refine ⟨d0,?_,?_⟩
 ·refine Rat.intCast_le_intCast.1 ?_
  rw [Rat.intCast_mul,Rat.intCast_mul,←e'];have:=Rat.mul_le_mul_of_nonneg_right h.low (Rat.le_of_lt p)
  grind
 ·refine Rat.intCast_le_intCast.1 ?_
  rw [Rat.intCast_mul,Rat.intCast_mul,←e'];have:=Rat.mul_le_mul_of_nonneg_right h.high (Rat.le_of_lt p)
  grind
theorem HasQ.turn {r:Res} {x y:Rat} (h:HasQ r x) (e:x=y):HasQ r y:=e ▸ h
section
variable {r s:Res} {x y:Rat}
theorem den_ne (x:Rat):(((x.den:Nat):Int):Rat)≠0:=by
 have:=Rat.intCast_pos.2 (Int.natCast_pos.2 x.den_pos)
 grind
theorem HasQ.add (fr:Fit r) (fs:Fit s) (h:HasQ r x) (k:HasQ s y) (he:(addR r s).e=0):HasQ (addR r s) (x+y):=by
 refine (HasQ.ofV (HasV.add fr fs h.toV k.toV he)).turn ?_;have a:=num_den x;have b:=num_den y;have p:=den_ne x;have q:=den_ne y;rw [Rat.intCast_add,Rat.intCast_mul,Rat.intCast_mul,Rat.intCast_mul];generalize (x.num:Rat)=X at *;generalize (y.num:Rat)=Y at *;generalize (((x.den:Nat):Int):Rat)=P at *;generalize (((y.den:Nat):Int):Rat)=Q at *;subst a b
 grind
theorem HasQ.mul (fr:Fit r) (fs:Fit s) (h:HasQ r x) (k:HasQ s y) (he:(mulR r s).e=0):HasQ (mulR r s) (x*y):=by
 refine (HasQ.ofV (HasV.mul fr fs h.toV k.toV he)).turn ?_;have a:=num_den x;have b:=num_den y;have p:=den_ne x;have q:=den_ne y;rw [Rat.intCast_mul,Rat.intCast_mul];generalize (x.num:Rat)=X at *;generalize (y.num:Rat)=Y at *;generalize (((x.den:Nat):Int):Rat)=P at *;generalize (((y.den:Nat):Int):Rat)=Q at *;subst a b
 grind
theorem HasQ.sqr (fr:Fit r) (h:HasQ r x) (he:(sqrR r).e=0):HasQ (sqrR r) (x*x):=by
 refine (HasQ.ofV (HasV.sqr fr h.toV he)).turn ?_;have a:=num_den x;have p:=den_ne x;rw [Rat.intCast_mul,Rat.intCast_mul];generalize (x.num:Rat)=X at *;generalize (((x.den:Nat):Int):Rat)=P at *;subst a
 grind
theorem HasQ.div (fr:Fit r) (fs:Fit s) (h:HasQ r x) (k:HasQ s y) (hs:0 < val s.lo) (he:(divR r s).e=0):HasQ (divR r s) (x / y):=by
 obtain⟨u,v⟩:=HasV.div fr fs h.toV k.toV hs he;refine (HasQ.ofV v).turn ?_;have a:=num_den x;have b:=num_den y;have p:=den_ne x;have q:=den_ne y
 have w:(y.num:Rat)≠0:=by have:=Rat.intCast_pos.2 u; grind
 rw [Rat.intCast_mul,Rat.intCast_mul];generalize (x.num:Rat)=X at *;generalize (y.num:Rat)=Y at *;generalize (((x.den:Nat):Int):Rat)=P at *;generalize (((y.den:Nat):Int):Rat)=Q at *;subst a b
 grind
end
theorem HasQ.one (x:Nat):HasQ (oneR x) (((val x:Int):Rat) / ((SS:Int):Rat)):=HasQ.ofV (HasV.one x)
theorem HasQ.lit {x:Nat} {k:Int} {q:Rat} (h:val x=k*SS) (hq:q=(k:Rat)):HasQ (oneR x) q:=by
 have e:((val x:Int):Rat)=q*((SS:Int):Rat):=by rw [h,Rat.intCast_mul,hq]
 exact ⟨by show ((val x:Int):Rat)≤_; rw [e]; exact Rat.le_refl,by show _≤((val x:Int):Rat); rw [e]; exact Rat.le_refl⟩
def HasS (r:Res) (f:Nat→Rat):Prop:=∃ f',(∀ m,HasQ r (f' m))∧Eqv f' f
section
variable {r s:Res} {f g:Nat→Rat}
theorem HasS.const {x:Rat} (h:HasQ r x):HasS r fun _=>x:=⟨fun _=>x,fun _=>h,Eqv.rfl⟩
theorem hasQ_bd {f:Nat→Rat} (h:∀ m,HasQ r (f m)):Bd f:=by
 have s:=ssQ;obtain⟨B,hB⟩:∃ B:Rat,B=(((max (val r.lo).natAbs (val r.hi).natAbs:Nat):Int):Rat) / ((SS:Int):Rat):=⟨_,rfl⟩
 have e:B*((SS:Int):Rat)=(((max (val r.lo).natAbs (val r.hi).natAbs:Nat):Int):Rat):=by rw [hB]; grind
 have l:(((-(max (val r.lo).natAbs (val r.hi).natAbs:Nat):Int)):Rat)≤((val r.lo:Int):Rat):=Rat.intCast_le_intCast.2 (by omega);have u:((val r.hi:Int):Rat)≤(((max (val r.lo).natAbs (val r.hi).natAbs:Nat):Int):Rat):=Rat.intCast_le_intCast.2 (by omega);have b0:(0:Rat)≤(((max (val r.lo).natAbs (val r.hi).natAbs:Nat):Int):Rat):=Rat.intCast_nonneg.2 (by omega);rw [Rat.intCast_neg] at l;rw [←e] at l u b0;have B0:0≤B:=Rat.le_of_mul_le_mul_right (by rw [Rat.zero_mul]; exact b0) s;refine ⟨B+1,by grind,0,fun m _=>?_⟩;have k:=h m;have k1:f m≤B:=Rat.le_of_mul_le_mul_right (Rat.le_trans k.high u) s;have k2:-B≤f m:=Rat.le_of_mul_le_mul_right (by have:=Rat.le_trans l k.low; grind) s
 constructor <;> grind
theorem HasS.abv (h:HasS r f) (hs:0 < val r.lo):∃ d:Rat,0 < d∧Abv d f:=by
 obtain⟨f',a,b⟩:=h;have s:=ssQ
 have p:(0:Rat) < ((val r.lo:Int):Rat):=Rat.intCast_pos.2 hs
 obtain⟨B,hB⟩:∃ B:Rat,B=((val r.lo:Int):Rat) / ((SS:Int):Rat):=⟨_,rfl⟩
 have e:B*((SS:Int):Rat)=((val r.lo:Int):Rat):=by rw [hB]; grind
 have B0:0 < B:=by
  rw [hB,Rat.div_def];exact Rat.mul_pos p (Rat.inv_pos.2 s)
 refine ⟨B / 2,by grind,Abv.of_eqv (d:=B) ⟨0,fun m _=>?_⟩ b (by grind)⟩;exact Rat.le_of_mul_le_mul_right (by rw [e]; exact (a m).low) s
theorem HasS.div (fr:Fit r) (fs:Fit s) (h:HasS r f) (k:HasS s g) (hs:0 < val s.lo) (he:(divR r s).e=0):HasS (divR r s) fun m=>f m / g m:=by
 obtain⟨d1,p1,q1⟩:=k.abv hs;obtain⟨f',a,b⟩:=h;obtain⟨g',c,d⟩:=k;obtain⟨d2,p2,q2⟩:=HasS.abv (⟨g',c,Eqv.rfl⟩:HasS s g') hs
 have low:∀ {x y:Rat} {k:Nat→Rat},x≤y→Abv y k→Abv x k:=fun hxy ⟨M,hM⟩=>⟨M,fun m hm=>Rat.le_trans hxy (hM m hm)⟩
 rcases Rat.le_total (a:=d1) (b:=d2) with t | t
 ·exact ⟨_,fun m=>(a m).div fr fs (c m) hs he,b.div p1 (low t q2) q1 d (hasQ_bd a)⟩
 ·exact ⟨_,fun m=>(a m).div fr fs (c m) hs he,b.div p2 q2 (low t q1) d (hasQ_bd a)⟩
end
theorem root_near {x e:Rat} (hx:0≤x) (he:0 < e):∃ y:Rat,0≤y∧y*y≤x∧x≤y*y+e:=by
 obtain⟨h,h0,h1,h2⟩:∃ h:Rat,0 < h∧h≤1∧(2*x+3)*h≤e:=by
  have p:0 < 2*x+3:=by grind
  have q:0 < e / (2*x+3):=by rw [Rat.div_def]; exact Rat.mul_pos he (Rat.inv_pos.2 p)
  rcases Rat.le_total (a:=e / (2*x+3)) (b:=1) with g | g
  ·refine ⟨_,q,g,?_⟩
   have e1:(2*x+3)*(e / (2*x+3))=e:=by grind
   rw [e1]; exact Rat.le_refl
  ·refine ⟨1,by grind,by grind,?_⟩
   have t:=Rat.mul_le_mul_of_nonneg_right g (Rat.le_of_lt p)
   have e1:e / (2*x+3)*(2*x+3)=e:=by grind
   rw [e1] at t
   grind
 have step:∀ K:Nat,x < ((K:Rat)*h)*((K:Rat)*h)→∃ k:Nat,((k:Rat)*h)*((k:Rat)*h)≤x∧x < (((k+1:Nat):Rat)*h)*(((k+1:Nat):Rat)*h):=by
  intro K
  induction K with
  | zero=>intro hK; have e0:((0:Nat):Rat)=0:=rfl; rw [e0] at hK; grind
  | succ K ih =>
   intro hK
   rcases Rat.le_total (a:=((K:Rat)*h)*((K:Rat)*h)) (b:=x) with g | g
   ·exact ⟨K,g,hK⟩
   ·by_cases g':((K:Rat)*h)*((K:Rat)*h)=x
    ·exact ⟨K,by grind,hK⟩
    ·exact ih (by grind)
 have big:∃ K:Nat,x < ((K:Rat)*h)*((K:Rat)*h):=by
  refine ⟨((x+1) / h).ceil.toNat,?_⟩;have c:=Rat.le_ceil (x:=(x+1) / h)
  have q:0 < (x+1) / h:=by rw [Rat.div_def]; exact Rat.mul_pos (by grind) (Rat.inv_pos.2 h0)
  have c0:0 < ((x+1) / h).ceil:=Rat.intCast_pos.1 (by grind)
  have cn:((((x+1) / h).ceil.toNat:Nat):Rat)=((((x+1) / h).ceil:Int):Rat):=by
   rw [←Rat.intCast_natCast,Int.toNat_of_nonneg (Int.le_of_lt c0)]
  rw [cn];generalize ((((x+1) / h).ceil:Int):Rat)=C at *;have t:=Rat.mul_le_mul_of_nonneg_right c (Rat.le_of_lt h0)
  have t1:(x+1) / h*h=x+1:=by grind
  rw [t1] at t;have t2:=Rat.mul_nonneg (by grind:0≤C*h - (x+1)) (by grind:0≤C*h+(x+1));have t3:=Rat.mul_nonneg hx hx
  grind
 obtain⟨K,hK⟩:=big;obtain⟨k,k1,k2⟩:=step K hK
 have ek:((k+1:Nat):Rat)=(k:Rat)+1:=by rw [Rat.natCast_add]; rfl
 rw [ek] at k2;have k0:(0:Rat)≤(k:Rat):=Rat.natCast_nonneg;generalize (k:Rat)=c at *;have y0:=Rat.mul_nonneg k0 (Rat.le_of_lt h0);refine ⟨c*h,y0,k1,?_⟩
 have e2:(c+1)*h*((c+1)*h)=c*h*(c*h)+(2*(c*h)+h)*h:=by grind
 rw [e2] at k2;generalize c*h=y at *
 have yx:y≤x+1:=by
  rcases Rat.le_total (a:=y) (b:=x+1) with g | g
  ·exact g
  ·have:=Rat.mul_nonneg (by grind:0≤y - (x+1)) (by grind:0≤y+(x+1))
   have:=Rat.mul_nonneg hx hx
   grind
 have t:=Rat.mul_le_mul_of_nonneg_right (by grind:2*y+h≤2*x+3) (Rat.le_of_lt h0)
 grind
theorem rows_nil {f:Nat→Rat} (h:∀ m:Nat,-(((m:Rat)+1)⁻¹)≤f m∧f m≤((m:Rat)+1)⁻¹):Nul f:=fun e he=>by
 refine ⟨(e⁻¹).ceil.toNat,fun m hm=>?_⟩;have i0:=Rat.inv_pos.2 he;have c:=Rat.le_ceil (x:=e⁻¹)
 have c0:0 < (e⁻¹).ceil:=Rat.intCast_pos.1 (by grind)
 have cm:((e⁻¹).ceil:Int)≤(m:Int):=by omega
 have cq:(((e⁻¹).ceil:Int):Rat)≤(m:Rat):=by
  have:=Rat.intCast_le_intCast.2 cm
  rw [Rat.intCast_natCast] at this; exact this
 have mp:0 < (m:Rat)+1:=by
  have:(0:Rat)≤(m:Rat):=Rat.natCast_nonneg
  grind
 have k:=h m
 have key:((m:Rat)+1)⁻¹≤e:=by
  refine Rat.le_of_mul_le_mul_right (c:=(m:Rat)+1) ?_ mp
  have e1:((m:Rat)+1)⁻¹*((m:Rat)+1)=1:=by grind
  have e2:=Rat.mul_le_mul_of_nonneg_left (by grind:e⁻¹≤(m:Rat)+1) (Rat.le_of_lt he)
  have e3:e*e⁻¹=1:=by grind
  rw [e1]; grind
 constructor <;> grind
theorem HasQ.root_fit {r:Res} (fr:Fit r) (he:(sqrtR r).e=0):Fit (sqrtR r):=(root_in (.refl fr) fr he).fit
theorem rootQ_in {r:Res} {x e:Rat} (fr:Fit r) (h:HasQ r x) (he:(sqrtR r).e=0) (h0:0 < e):∃ y:Rat,HasQ (sqrtR r) y∧0≤y ∧ -e≤y*y - x∧y*y - x≤e:=by
 obtain⟨p0,⟨p1,p2,_⟩,q1,q2,_⟩:=sqrt_parts fr he;have S:=ssQ;have l0:=Rat.intCast_nonneg.2 p0;have a1:=Rat.intCast_nonneg.2 p1;have b1:=Rat.intCast_nonneg.2 q1;have a2:=Rat.intCast_le_intCast.2 p2;have b2:=Rat.intCast_le_intCast.2 q2;rw [Rat.intCast_mul,Rat.intCast_mul] at a2 b2;have fs:val (sqrtR r).lo≤val (sqrtR r).hi:=(HasQ.root_fit fr he).le;have fs':=Rat.intCast_le_intCast.2 fs;have hl:=h.low;have hh:=h.high
 have x0:0≤x:=by
  refine Rat.le_of_mul_le_mul_right (c:=((SS:Int):Rat)) ?_ S
  rw [Rat.zero_mul]; exact Rat.le_trans l0 hl
 obtain⟨y,y0,y1,y2⟩:=root_near x0 h0;generalize hL:((val (sqrtR r).lo:Int):Rat)=L at *;generalize hU:((val (sqrtR r).hi:Int):Rat)=U at *;generalize ((val r.lo:Int):Rat)=lo at *;generalize ((val r.hi:Int):Rat)=hi at *;generalize hS:((SS:Int):Rat)=s at *
 -- the ends' squares lie about x
 have t1:L*L≤x*s*s:=Rat.le_trans a2 (Rat.mul_le_mul_of_nonneg_right hl (Rat.le_of_lt S));have t2:x*s*s≤U*U:=Rat.le_trans (Rat.mul_le_mul_of_nonneg_right hh (Rat.le_of_lt S)) b2
 have div:∀ T:Rat,T / s*s=T:=fun T=>by grind
 have le_of:∀ {A B:Rat},A*(s*s)≤B*(s*s)→A≤B:=fun h=>Rat.le_of_mul_le_mul_right h (Rat.mul_pos S S)
 rcases Rat.le_total (a:=y*s) (b:=L) with g | g
 ·refine ⟨L / s,⟨by rw [hS,hL,div]; exact Rat.le_refl,by rw [hS,hU,div]; exact fs'⟩,?_,?_,?_⟩
  ·refine Rat.le_of_mul_le_mul_right (c:=s) ?_ S
   rw [Rat.zero_mul,div]; exact a1
  ·have k:y*y≤L / s*(L / s):=le_of (by
    have e1:L / s*(L / s)*(s*s)=L*L:=by grind
    rw [e1];have:=Rat.mul_nonneg (by grind:0≤L - y*s) (by have:=Rat.mul_nonneg y0 (Rat.le_of_lt S); grind:0≤L+y*s)
    grind)
   grind
  ·have k:L / s*(L / s)≤x:=le_of (by
    have e1:L / s*(L / s)*(s*s)=L*L:=by grind
    rw [e1]; grind)
   grind
 ·rcases Rat.le_total (a:=y*s) (b:=U) with g' | g'
  ·exact ⟨y,⟨by rw [hS,hL]; exact g,by rw [hS,hU]; exact g'⟩,y0,by grind,by grind⟩
  ·refine ⟨U / s,⟨by rw [hS,hL,div]; exact fs',by rw [hS,hU,div]; exact Rat.le_refl⟩,?_,?_,?_⟩
   ·refine Rat.le_of_mul_le_mul_right (c:=s) ?_ S
    rw [Rat.zero_mul,div]; exact b1
   ·have k:x≤U / s*(U / s):=le_of (by
     have e1:U / s*(U / s)*(s*s)=U*U:=by grind
     rw [e1]; grind)
    grind
   ·have k:U / s*(U / s)≤y*y:=le_of (by
     have e1:U / s*(U / s)*(s*s)=U*U:=by grind
     rw [e1];have:=Rat.mul_nonneg (by grind:0≤y*s - U) (by grind:0≤y*s+U)
     grind)
    grind
theorem HasS.sqrt {r:Res} {f:Nat→Rat} (fr:Fit r) (h:HasS r f) (he:(sqrtR r).e=0):∃ y:Nat→Rat,HasS (sqrtR r) y∧(∀ m,0≤y m)∧Eqv (fun m=>y m*y m) f:=by
 obtain⟨f',a,b⟩:=h
 have ex:∀ m:Nat,∃ y:Rat,HasQ (sqrtR r) y∧0≤y ∧ -(((m:Rat)+1)⁻¹)≤y*y - f' m∧y*y - f' m≤((m:Rat)+1)⁻¹:=fun m =>
  rootQ_in fr (a m) he (Rat.inv_pos.2 (by have:(0:Rat)≤(m:Rat):=Rat.natCast_nonneg; grind))
 refine ⟨fun m=>Classical.choose (ex m),⟨_,fun m=>(Classical.choose_spec (ex m)).1,Eqv.rfl⟩,fun m=>(Classical.choose_spec (ex m)).2.1,Eqv.trans ?_ b⟩
 exact rows_nil fun m=>(Classical.choose_spec (ex m)).2.2
end
section
open Go.RowKit
def ev:List Rat→Rat→Rat
 | [],_=>0
 | a :: p,y=>a+y*ev p y
def pscale (c:Rat):List Rat→List Rat
 | []=>[]
 | a :: p=>(c*a) :: pscale c p
def kk (k:Nat):Rat:=((((k:Int)*((k:Int)+1)):Int):Rat)
def serL (m:Nat):Nat→List Rat
 | 0=>[1]
 | i+1=>1 :: pscale (-(kk (m - 2 - 2*i))⁻¹) (serL m i)
end
section
open Go.RowKit
def Hs:List Rat:=serL 56 27
def Hc:List Rat:=serL 55 27
def hS (t:Rat):Rat:=t*ev Hs (t*t)
def hC (t:Rat):Rat:=ev Hc (t*t)
def hq:Rat:=4591442807048218921384805199743311128454155024418 / 1461501637330902918203684832716283019655932542976
def hE:Rat:=1 / 1329227995784915872903807060280344576
def Nigh (a b:Rat):Prop:=∃ w,0≤w∧(w≤a∨w ≤ -a) ∧ -w≤(a - b)*36028797018963968∧(a - b)*36028797018963968≤w
end
section
open Go.RowKit
end
section
open Go.RowKit
def hX (x:Nat):Rat:=((val x:Int):Rat) / ((SS:Int):Rat)
def hT (x j:Nat):Rat:=2*hq*(hX x - ((j:Int):Rat) / 4)
theorem step_part {r s:Nat} (h:r < s):(steps s:Int)≤((steps s:Int) - (steps r:Int))*9007199254740992:=by
 obtain⟨p,rfl⟩:∃ p,s=p+1:=⟨s - 1,by omega⟩;have l:=steps_le (by omega:r≤p);rw [steps_succ]
 have k:steps p+1*2 ^ (p / 4503599627370496 - 1)≤9007199254740992*2 ^ (p / 4503599627370496 - 1):=by
  unfold steps
  split
  ·rename_i g
   rw [g]; show p+1*1≤9007199254740992*1; omega
  ·rw [←Nat.add_mul]
   exact Nat.mul_le_mul_right _ (by omega)
 generalize 2 ^ (p / 4503599627370496 - 1)=G at *;generalize steps p=P at *;generalize steps r=R at *;omega
theorem apart {a b:Nat} (la:a < 18446744073709551616) (lb:b < 18446744073709551616) (ra:rightB a=true) (rb:rightB b=true) (h:val a < val b) :
  val a≤(val b - val a)*9007199254740992 ∧ -val a≤(val b - val a)*9007199254740992∧val b≤(val b - val a)*9007199254740992 ∧ -val b≤(val b - val a)*9007199254740992:=by
 cases sa:sgnB a <;> cases sb:sgnB b
 ·rw [val_pos sa,val_pos sb] at *
  have k:rung a < rung b:=by
   rcases Nat.lt_or_ge (rung a) (rung b) with g | g
   ·exact g
   ·have:=steps_le g; omega
  have:=step_part k;omega
 ·have h1:=(val_neg b lb rb).2 sb
  have h2:¬ val a < 0:=fun g=>by rw [(val_neg a la ra).1 g] at sa; exact absurd sa (by decide)
  omega
 ·have h1:=(val_neg a la ra).2 sa
  have h2:¬ val b < 0:=fun g=>by rw [(val_neg b lb rb).1 g] at sb; exact absurd sb (by decide)
  omega
 ·rw [val_negs sa,val_negs sb] at *
  have k:rung b < rung a:=by
   rcases Nat.lt_or_ge (rung b) (rung a) with g | g
   ·exact g
   ·have:=steps_le g; omega
  have:=step_part k;omega
def hR:Rat:=7071067811865475244 / 10000000000000000000
structure Dbl (x x':Nat) (s c s' c':Rat):Prop where
 hs:HasQ (sinR x) s
 hc:HasQ (cosR x) c
 hs':HasQ (sinR x') s'
 hc':HasQ (cosR x') c'
 n:Nigh s' (2*(s*c))
 m:Nigh c' (c*c - s*s)
def w2H:Nat:=4611686018427387904
structure Meets2 (S O p q:Res):Prop where
 m:Fit (mulR S O)
 d:Fit (mulR (oneR w2H) (mulR S O))
 o:Fit (sqrR O)
 s:Fit (sqrR S)
 r:Fit (subR (sqrR O) (sqrR S))
 a:val p.lo≤val (mulR (oneR w2H) (mulR S O)).hi∧val (mulR (oneR w2H) (mulR S O)).lo≤val p.hi
 b:val q.lo≤val (subR (sqrR O) (sqrR S)).hi∧val (subR (sqrR O) (sqrR S)).lo≤val q.hi
end
section
open Go.RowKit
end
section
open Go.RowKit
def wSqr (r A:Res) (wa:Int):Int:=wa*(2*magn A) / SS+2*gapP r
end
section
open Go.RowKit
structure BW where
 R:Res
 w:Int
structure Snd (r:Res) (x:BW):Prop where
 wid:Wid r x.R x.w
 fit:Fit x.R
def BW.sqr (x:BW):BW:=⟨sqrR x.R,wSqr (sqrR x.R) x.R x.w⟩
def BW.one (x:Nat):BW:=⟨oneR x,0⟩
section
variable {r s:Res} {x y:BW} (h:Snd r x) (g:Snd s y)
include h
include g
end
end
section
open Go.RowKit
end
section
open Go.RowKit
end
section
open Go.RowKit
section
variable {r s:Res} {x y:BW} (h:Snd r x) (g:Snd s y)
include h
include g
end
end
section
open Go.RowKit
section
variable {f g f' g':Nat→Rat}
end
section
variable {r s:Res} {x y:Rat}
end
section
variable {r s:Res} {f g:Nat→Rat}
end
end
section
open Go.RowKit
def Sn.a (c:Res):Res:=sqrR c
def Sn.b (c:Res):Res:=subR (oneR 4607182418800017408) (Sn.a c)
def Sn.d (n:Res):Res:=sqrR n
def Sn.g (c n:Res):Res:=divR (Sn.b c) (Sn.d n)
def Sn.i (c n:Res):Res:=subR (oneR 4607182418800017408) (Sn.g c n)
def Sn.s (c n:Res):Res:=sqrtR (Sn.i c n)
def Sn.j (c n:Res):Res:=mulR n (Sn.s c n)
def Sn.k (c n:Res):Res:=subR c (Sn.j c n)
def Sn.l (c n:Res):Res:=addR c (Sn.j c n)
def Sn.m (c n:Res):Res:=divR (Sn.k c n) (Sn.l c n)
def Sn.o (c n:Res):Res:=sqrR (Sn.m c n)
def Sn.q (c n:Res):Res:=mulR n c
def Sn.r (c n:Res):Res:=subR (Sn.q c n) (Sn.s c n)
def Sn.t (c n:Res):Res:=addR (Sn.q c n) (Sn.s c n)
def Sn.u (c n:Res):Res:=divR (Sn.r c n) (Sn.t c n)
def Sn.v (c n:Res):Res:=sqrR (Sn.u c n)
def Sn.x (c n:Res):Res:=addR (Sn.o c n) (Sn.v c n)
def Sn.y (c n:Res):Res:=mulR (oneR 4602678819172646912) (Sn.x c n)
structure Sn.Ins (c n C N:Res):Prop where
 a':In (Sn.a c) (Sn.a C)
 b':In (Sn.b c) (Sn.b C)
 d':In (Sn.d n) (Sn.d N)
 g':In (Sn.g c n) (Sn.g C N)
 i':In (Sn.i c n) (Sn.i C N)
 s':In (Sn.s c n) (Sn.s C N)
 j':In (Sn.j c n) (Sn.j C N)
 k':In (Sn.k c n) (Sn.k C N)
 l':In (Sn.l c n) (Sn.l C N)
 m':In (Sn.m c n) (Sn.m C N)
 o':In (Sn.o c n) (Sn.o C N)
 q':In (Sn.q c n) (Sn.q C N)
 r':In (Sn.r c n) (Sn.r C N)
 t':In (Sn.t c n) (Sn.t C N)
 u':In (Sn.u c n) (Sn.u C N)
 v':In (Sn.v c n) (Sn.v C N)
 x':In (Sn.x c n) (Sn.x C N)
 y':In (Sn.y c n) (Sn.y C N)
end
section
open Go.RowKit
def w2:Nat:=4611686018427387904
def w3:Nat:=4613937818241073152
theorem w2_fit:Fit (oneR w2):=one_fit (by decide) (by decide)
theorem w3_fit:Fit (oneR w3):=one_fit (by decide) (by decide)
theorem Or.v0:val 0=0:=by decide +kernel
theorem Or.z_fit:Fit (oneR 0):=one_fit (by decide) (by decide)
theorem HasQ.fst {r:Res} (fr:Fit r):HasQ r (((val r.lo:Int):Rat) / ((SS:Int):Rat)):=by
 have S:=ssQ
 have e:((val r.lo:Int):Rat) / ((SS:Int):Rat)*((SS:Int):Rat)=((val r.lo:Int):Rat):=by grind
 exact ⟨by rw [e]; exact Rat.le_refl,by rw [e]; exact Rat.intCast_le_intCast.2 fr.le⟩
def Or.x:Res:=divR piR (oneR w2)
def Or.t:Res:=divR (oneR w2) (oneR w3)
def Or.g:Res:=subR Or.x Or.t
def Or.m (s:Res):Res:=mulR Or.g s
def Or.q (s:Res):Res:=addR piR (Or.m s)
def Or.a (s:Res):Res:=divR (oneR u1) (Or.q s)
def Or.b (s:Res):Res:=mulR s (Or.a s)
def ouI:Res:=⟨0,0,u1⟩
def oeI:Res:=⟨0,m1,u1⟩
theorem ou_fit:Fit ouI:=.of (by decide +kernel)
theorem oe_fit:Fit oeI:=.of (by decide +kernel)
theorem Or.consts:Fit Or.x∧Fit Or.t∧Fit Or.g:=⟨.of (by decide +kernel),.of (by decide +kernel),.of (by decide +kernel)⟩
theorem Or.bigs:Fit (Or.m ouI)∧Fit (Or.q ouI)∧Fit (Or.a ouI)∧Fit (Or.b ouI)∧0 < val (Or.q ouI).lo∧0≤val (Or.b ouI).lo:=⟨.of (by decide +kernel),.of (by decide +kernel),.of (by decide +kernel),.of (by decide +kernel),by decide +kernel,by decide +kernel⟩
structure PairIn (s S:Res):Prop where
 m:In (Or.m s) (Or.m S)
 q:In (Or.q s) (Or.q S)
 a:In (Or.a s) (Or.a S)
 b:In (Or.b s) (Or.b S)
theorem pair_in {s:Res} (h:In s ouI):PairIn s ouI:=by
 obtain⟨c1,c2,c3⟩:=Or.consts;obtain⟨b1,b2,b3,b4,_,_⟩:=Or.bigs;have m:=mul_in (.refl c3) c3 h ou_fit b1.e;have q:=add_in (.refl big_fit.1) big_fit.1 m b1 b2.e;have a:=div_in (.refl u1_fit) u1_fit q b2 b3.e;exact ⟨m,q,a,mul_in h ou_fit a b3 b4.e⟩
theorem pair_part {s S:Res} (h:In s S) (k:PairIn S ouI) (fS:Fit S):PairIn s S:=by
 obtain⟨c1,c2,c3⟩:=Or.consts;have m:=mul_in (.refl c3) c3 h fS k.m.fit.e;have q:=add_in (.refl big_fit.1) big_fit.1 m k.m.fit k.q.fit.e;have a:=div_in (.refl u1_fit) u1_fit q k.q.fit k.a.fit.e;exact ⟨m,q,a,mul_in h fS a k.a.fit k.b.fit.e⟩
def Or.p (i o:Res):Res:=mulR i o
def Or.s (i o d:Res):Res:=subR d (Or.p i o)
def Or.top (i o:Res):Res:=maxR i o
def posR (r:Res):Res:=⟨0,maxW r.lo 0,r.hi⟩
def Or.r (i o d:Res):Res:=divR (posR (Or.s i o d)) (Or.top i o)
def midR (s r:Res):Res:=⟨0,minW s.lo r.lo,maxW 0 r.hi⟩
def Or.st (i o d:Res):Res:=
 if 0 < val (Or.s i o d).hi then (if (Or.r i o d).e=0 then (if 0≤val (Or.s i o d).lo then Or.r i o d else midR (Or.s i o d) (Or.r i o d)) else Or.r i o d) else Or.s i o d
def edgeW (x:Nat):Nat:=minW (maxW x m1) u1
def edgeR (r:Res):Res:=⟨r.e,edgeW r.lo,edgeW r.hi⟩
theorem edgeR_lo (r:Res):(edgeR r).lo=edgeW r.lo:=by rw [edgeR]
theorem edgeR_hi (r:Res):(edgeR r).hi=edgeW r.hi:=by rw [edgeR]
theorem edgeR_e (r:Res):(edgeR r).e=r.e:=by rw [edgeR]
def Or.slope (i o d:Res):Res:=edgeR (Or.st i o d)
theorem edge_facts {x:Nat} (lx:x < 18446744073709551616) (rx:rightB x=true):edgeW x < 18446744073709551616∧rightB (edgeW x)=true∧val (edgeW x)=min (max (val x) (-SS)) SS:=by
 obtain⟨p1,p2,p3⟩:=max_facts x m1 lx (by decide) rx (by decide);obtain⟨n1,n2,n3⟩:=min_facts (maxW x m1) u1 p1 (by decide) p2 (by decide);refine ⟨n1,n2,?_⟩
 have e1:val m1=-SS:=by decide +kernel
 have e2:val u1=SS:=by decide +kernel
 show val (minW (maxW x m1) u1)=_
 rw [n3,p3,e1,e2]
theorem edge_fit {a:Res} (h:Fit a):Fit (edgeR a):=by
 obtain⟨l1,l2,l3⟩:=edge_facts h.lo h.rlo;obtain⟨k1,k2,k3⟩:=edge_facts h.hi h.rhi;have hle:=h.le;refine ⟨by rw [edgeR_e]; exact h.e,by rw [edgeR_lo]; exact l1,by rw [edgeR_hi]; exact k1,?_⟩;rw [edgeR_lo,edgeR_hi];unfold ivR leB
 rw [l2,k2,decide_eq_true (show val (edgeW a.lo)≤val (edgeW a.hi) by rw [l3,k3]; omega)]; rfl
theorem edge_in {a A:Res} (h:In a A) (fA:Fit A):In (edgeR a) (edgeR A):=by
 refine ⟨edge_fit h.fit,?_,?_⟩
 ·rw [edgeR_lo,edgeR_lo,(edge_facts h.fit.lo h.fit.rlo).2.2,(edge_facts fA.lo fA.rlo).2.2]
  have:=h.lo;omega
 ·rw [edgeR_hi,edgeR_hi,(edge_facts h.fit.hi h.fit.rhi).2.2,(edge_facts fA.hi fA.rhi).2.2]
  have:=h.hi;omega
theorem edge_unit {a:Res} (h:Fit a):In (edgeR a) oeI:=by
 have e1:val m1=-SS:=by decide +kernel
 have e2:val u1=SS:=by decide +kernel
 have s0:=SS0;refine ⟨edge_fit h,?_,?_⟩
 ·rw [edgeR_lo,show oeI.lo=m1 from rfl,(edge_facts h.lo h.rlo).2.2,e1]; omega
 ·rw [edgeR_hi,show oeI.hi=u1 from rfl,(edge_facts h.hi h.rhi).2.2,e2]; omega
structure Dirs (i o d:Res):Prop where
 i:In i ouI
 o:In o ouI
 d:In d oeI
theorem Or.bigS:Fit (Or.p ouI ouI)∧Fit (Or.s ouI ouI oeI)∧Fit (Or.top ouI ouI):=⟨.of (by decide +kernel),.of (by decide +kernel),.of (by decide +kernel)⟩
structure SlopeIn (i o d I O D:Res):Prop where
 p:In (Or.p i o) (Or.p I O)
 s:In (Or.s i o d) (Or.s I O D)
 top:In (Or.top i o) (Or.top I O)
theorem slope_fits {i o d:Res} (h:Dirs i o d):SlopeIn i o d ouI ouI oeI:=by
 obtain⟨b1,b2,b3⟩:=Or.bigS;have p:=mul_in h.i ou_fit h.o ou_fit b1.e;exact ⟨p,sub_in h.d oe_fit p b1 b2.e,max_in h.i ou_fit h.o ou_fit b3.e⟩
theorem slope_parts {i o d I O D:Res} (h:Dirs I O D) (hi:In i I) (ho:In o O) (hd:In d D):SlopeIn i o d I O D:=by
 have k:=slope_fits h;have p:=mul_in hi h.i.fit ho h.o.fit k.p.fit.e;exact ⟨p,sub_in hd h.d.fit p k.p.fit k.s.fit.e,max_in hi h.i.fit ho h.o.fit k.top.fit.e⟩
theorem Dirs.part {i o d I O D:Res} (h:Dirs I O D) (hi:In i I) (ho:In o O) (hd:In d D):Dirs i o d:=
 ⟨⟨hi.fit,Int.le_trans h.i.lo hi.lo,Int.le_trans hi.hi h.i.hi⟩,⟨ho.fit,Int.le_trans h.o.lo ho.lo,Int.le_trans ho.hi h.o.hi⟩,⟨hd.fit,Int.le_trans h.d.lo hd.lo,Int.le_trans hd.hi h.d.hi⟩⟩
theorem pos_fit {r:Res} (f:Fit r) (h:0 < val r.hi):Fit (posR r):=by
 obtain⟨x1,x2,x3⟩:=max_facts r.lo 0 f.lo (by decide) f.rlo (by decide);have l:=f.le;refine ⟨rfl,x1,f.hi,?_⟩
 show ivR (maxW r.lo 0) r.hi=true
 unfold ivR leB
 rw [x2,f.rhi,decide_eq_true (by rw [x3,Or.v0]; omega)]; rfl
theorem pos_in {r R:Res} (i:In r R) (fR:Fit R) (h:0 < val r.hi):In (posR r) (posR R):=by
 obtain⟨_,_,x3⟩:=max_facts r.lo 0 i.fit.lo (by decide) i.fit.rlo (by decide);obtain⟨_,_,y3⟩:=max_facts R.lo 0 fR.lo (by decide) fR.rlo (by decide);have l:=i.lo;refine ⟨pos_fit i.fit h,?_,i.hi⟩
 show val (maxW R.lo 0)≤val (maxW r.lo 0)
 rw [x3,y3]; omega
theorem mid_fit {s r:Res} (fs:Fit s) (fr:Fit r) (h:val s.lo < 0):Fit (midR s r):=by
 obtain⟨x1,x2,x3⟩:=min_facts s.lo r.lo fs.lo fr.lo fs.rlo fr.rlo;obtain⟨y1,y2,y3⟩:=max_facts 0 r.hi (by decide) fr.hi (by decide) fr.rhi;refine ⟨rfl,x1,y1,?_⟩
 show ivR (minW s.lo r.lo) (maxW 0 r.hi)=true
 unfold ivR leB
 rw [x2,y2,decide_eq_true (by rw [x3,y3,Or.v0]; omega)]; rfl
theorem quo_fit {a b:Res} (fa:Fit a) (fb:Fit b) (h:(divR a b).e=0):Fit (divR a b):=ask_fit a b 3 (by decide) fa fb h
theorem st_fit {i o d:Res} (h:Dirs i o d) (he:(Or.st i o d).e=0):Fit (Or.st i o d):=by
 have k:=slope_fits h;unfold Or.st at he ⊢
 by_cases g:0 < val (Or.s i o d).hi
 ·rw [if_pos g] at he ⊢
  by_cases e:(Or.r i o d).e=0
  ·have fr:Fit (Or.r i o d):=quo_fit (pos_fit k.s.fit g) k.top.fit e
   rw [if_pos e] at he ⊢
   by_cases l:0≤val (Or.s i o d).lo
   ·rw [if_pos l]; exact fr
   ·rw [if_neg l]; exact mid_fit k.s.fit fr (by omega)
  ·rw [if_neg e] at he; exact absurd he e
 ·rw [if_neg g]; exact k.s.fit
theorem max_lo {i o:Res} (hi:In i ouI) (ho:In o ouI):val (Or.top i o).lo=max (val i.lo) (val o.lo):=(max_facts i.lo o.lo hi.fit.lo ho.fit.lo hi.fit.rlo ho.fit.rlo).2.2
theorem top_pos {i o d:Res} (h:Dirs i o d) (e:(Or.r i o d).e=0):0 < val (Or.top i o).lo:=by
 have k:=slope_fits h;have m:=max_lo h.i h.o
 have il:0≤val i.lo:=by have t:val 0≤val i.lo:=h.i.lo; rw [Or.v0] at t; exact t
 rcases Int.lt_or_le 0 (val (Or.top i o).lo) with g | g
 ·exact g
 ·exfalso
  have fl:=k.top.fit.le
  have z:hasB (Or.top i o).lo (Or.top i o).hi 0=true:=by
   rw [has_zero k.top.fit.lo k.top.fit.hi k.top.fit.iv]; exact decide_eq_true (by omega)
  have e':(divI (posR (Or.s i o d)).lo (posR (Or.s i o d)).hi (Or.top i o).lo (Or.top i o).hi).e=0:=e;unfold divI at e';rw [z,if_pos rfl] at e';exact absurd e' (by decide)
theorem st_in {i o d I O D:Res} (h:Dirs I O D) (hi:In i I) (ho:In o O) (hd:In d D) (he:(Or.st I O D).e=0):(Or.st i o d).e=0∧In (Or.st i o d) (Or.st I O D):=by
 have h':=h.part hi ho hd;have K:=slope_fits h;have k:=slope_parts h hi ho hd;have F:=st_fit h he;have s1:=k.s.lo;have s2:=k.s.hi;have s3:=k.s.fit.le
 by_cases g:0 < val (Or.s i o d).hi
 ·have G:0 < val (Or.s I O D).hi:=by omega
  have E:(Or.r I O D).e=0:=by
   unfold Or.st at he;rw [if_pos G] at he
   by_cases e:(Or.r I O D).e=0
   ·exact e
   ·rw [if_neg e] at he; exact he
  have fR:Fit (Or.r I O D):=quo_fit (pos_fit K.s.fit G) K.top.fit E;have r:In (Or.r i o d) (Or.r I O D):=div_in (pos_in k.s K.s.fit g) (pos_fit K.s.fit G) k.top K.top.fit E;have e:=r.fit.e;unfold Or.st;rw [if_pos g,if_pos G,if_pos e,if_pos E];obtain⟨_,_,x3⟩:=min_facts (Or.s I O D).lo (Or.r I O D).lo K.s.fit.lo fR.lo K.s.fit.rlo fR.rlo;obtain⟨_,_,y3⟩:=max_facts 0 (Or.r I O D).hi (by decide) fR.hi (by decide) fR.rhi;obtain⟨_,_,z3⟩:=min_facts (Or.s i o d).lo (Or.r i o d).lo k.s.fit.lo r.fit.lo k.s.fit.rlo r.fit.rlo;obtain⟨_,_,w3'⟩:=max_facts 0 (Or.r i o d).hi (by decide) r.fit.hi (by decide) r.fit.rhi;have r1:=r.lo;have r2:=r.hi
  by_cases l:0≤val (Or.s I O D).lo
  ·have l':0≤val (Or.s i o d).lo:=by omega
   rw [if_pos l,if_pos l'];exact ⟨e,r⟩
  ·rw [if_neg l]
   by_cases l':0≤val (Or.s i o d).lo
   ·rw [if_pos l']
    refine ⟨e,r.fit,?_,?_⟩
    ·show val (minW _ _)≤_; rw [x3]; omega
    ·show _≤val (maxW _ _); rw [y3]; omega
   ·rw [if_neg l']
    refine ⟨rfl,mid_fit k.s.fit r.fit (by omega),?_,?_⟩
    ·show val (minW _ _)≤val (minW _ _); rw [x3,z3]; omega
    ·show val (maxW _ _)≤val (maxW _ _); rw [y3,w3']; omega
 ·have st':Or.st i o d=Or.s i o d:=by unfold Or.st; rw [if_neg g]
  rw [st'];refine ⟨k.s.fit.e,k.s.fit,?_,?_⟩
  ·by_cases G:0 < val (Or.s I O D).hi
   ·have E:(Or.r I O D).e=0:=by
     unfold Or.st at he;rw [if_pos G] at he
     by_cases e:(Or.r I O D).e=0
     ·exact e
     ·rw [if_neg e] at he; exact he
    have fR:Fit (Or.r I O D):=quo_fit (pos_fit K.s.fit G) K.top.fit E;have tp:=top_pos h E;unfold Or.st;rw [if_pos G,if_pos E];obtain⟨_,_,x3⟩:=min_facts (Or.s I O D).lo (Or.r I O D).lo K.s.fit.lo fR.lo K.s.fit.rlo fR.rlo;obtain⟨_,_,p3⟩:=max_facts (Or.s I O D).lo 0 K.s.fit.lo (by decide) K.s.fit.rlo (by decide);rw [Or.v0] at p3
    by_cases l:0≤val (Or.s I O D).lo
    ·rw [if_pos l]
     have z:HasQ (posR (Or.s I O D)) 0:=by
      refine ⟨?_,?_⟩
      ·rw [Rat.zero_mul]; exact Rat.intCast_le_intCast.2 (by show val (maxW (Or.s I O D).lo 0)≤0; rw [p3]; omega)
      ·rw [Rat.zero_mul]; exact Rat.intCast_le_intCast.2 (by show 0≤val (Or.s I O D).hi; omega)
     have q:=HasQ.div (pos_fit K.s.fit G) K.top.fit z (HasQ.fst K.top.fit) tp E
     have e0:(0:Rat) / (((val (Or.top I O).lo:Int):Rat) / ((SS:Int):Rat))=0:=by rw [Rat.div_def,Rat.zero_mul]
     have q':=q.low;rw [e0,Rat.zero_mul] at q';have q0:val (Or.r I O D).lo≤0:=Rat.intCast_le_intCast.1 q';omega
    ·rw [if_neg l]
     show val (minW _ _)≤_
     rw [x3]; omega
   ·unfold Or.st
    rw [if_neg G]; exact s1
  ·by_cases G:0 < val (Or.s I O D).hi
   ·have E:(Or.r I O D).e=0:=by
     unfold Or.st at he;rw [if_pos G] at he
     by_cases e:(Or.r I O D).e=0
     ·exact e
     ·rw [if_neg e] at he; exact he
    have fR:Fit (Or.r I O D):=quo_fit (pos_fit K.s.fit G) K.top.fit E;have tp:=top_pos h E;have P:=pos_fit K.s.fit G;unfold Or.st;rw [if_pos G,if_pos E];obtain⟨_,_,y3⟩:=max_facts 0 (Or.r I O D).hi (by decide) fR.hi (by decide) fR.rhi;rw [Or.v0] at y3
    by_cases l:0≤val (Or.s I O D).lo
    ·rw [if_pos l]
     obtain⟨_,_,p3⟩:=max_facts (Or.s I O D).lo 0 K.s.fit.lo (by decide) K.s.fit.rlo (by decide);rw [Or.v0] at p3
     have z:HasQ (posR (Or.s I O D)) 0:=by
      refine ⟨?_,?_⟩
      ·rw [Rat.zero_mul]; exact Rat.intCast_le_intCast.2 (by show val (maxW (Or.s I O D).lo 0)≤0; rw [p3]; omega)
      ·rw [Rat.zero_mul]; exact Rat.intCast_le_intCast.2 (by show 0≤val (Or.s I O D).hi; omega)
     have q:=HasQ.div P K.top.fit z (HasQ.fst K.top.fit) tp E
     have e0:(0:Rat) / (((val (Or.top I O).lo:Int):Rat) / ((SS:Int):Rat))=0:=by rw [Rat.div_def,Rat.zero_mul]
     have q':=q.high;rw [e0,Rat.zero_mul] at q';have q0:0≤val (Or.r I O D).hi:=Rat.intCast_le_intCast.1 q';omega
    ·rw [if_neg l]
     show _≤val (maxW _ _)
     rw [y3]; omega
   ·unfold Or.st
    rw [if_neg G]; exact s2
def Or.n (s t:Res):Res:=mulR (Or.b s) t
def Or.k (s t:Res):Res:=addR (Or.a s) (Or.n s t)
def Or.l (r s t:Res):Res:=mulR r (Or.k s t)
def Or.val (r s t:Res):Res:=clampR (Or.l r s t)
theorem Or.bigV:Fit (Or.n ouI oeI)∧Fit (Or.k ouI oeI)∧Fit (Or.l ouI ouI oeI):=⟨.of (by decide +kernel),.of (by decide +kernel),.of (by decide +kernel)⟩
structure ValIn (r s t R S T:Res):Prop where
 n:In (Or.n s t) (Or.n S T)
 k:In (Or.k s t) (Or.k S T)
 l:In (Or.l r s t) (Or.l R S T)
theorem val_fits {r s t:Res} (hr:In r ouI) (hs:In s ouI) (ht:In t oeI):ValIn r s t ouI ouI oeI:=by
 obtain⟨_,_,b3,b4,_,_⟩:=Or.bigs;obtain⟨c1,c2,c3⟩:=Or.bigV;have P:=pair_in hs;have n:=mul_in P.b b4 ht oe_fit c1.e;have k:=add_in P.a b3 n c1 c2.e;exact ⟨n,k,mul_in hr ou_fit k c2 c3.e⟩
theorem val_parts {r s t R S T:Res} (hR:In R ouI) (hS:In S ouI) (hT:In T oeI) (hr:In r R) (hs:In s S) (ht:In t T):ValIn r s t R S T:=by
 have P:=pair_in hS;have p:=pair_part hs P hS.fit;have V:=val_fits hR hS hT;have n:=mul_in p.b P.b.fit ht hT.fit V.n.fit.e;have k:=add_in p.a P.a.fit n V.n.fit V.k.fit.e;exact ⟨n,k,mul_in hr hR.fit k V.k.fit V.l.fit.e⟩
end
section
open Go.RowKit
def rv (x:Nat):Rat:=((val x:Int):Rat) / ((SS:Int):Rat)
theorem rv_has (x:Nat):HasQ (oneR x) (rv x):=HasQ.one x
theorem rv_1:rv u1=1:=by
 have e:val u1=SS:=by decide +kernel
 have S:=ssQ;unfold rv
 rw [e]; grind
theorem has_le {r s:Res} {x y:Rat} (h:HasQ r x) (k:HasQ s y) (l:x≤y):val r.lo≤val s.hi:=
 Rat.intCast_le_intCast.1 (Rat.le_trans h.low (Rat.le_trans (Rat.mul_le_mul_of_nonneg_right l (Rat.le_of_lt ssQ)) k.high))
end
end Go.Proofs.YtnaomilkgfkegaaGreat
