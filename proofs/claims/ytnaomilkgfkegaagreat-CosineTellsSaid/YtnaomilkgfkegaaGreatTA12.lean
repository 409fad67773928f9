/- What the claim stands on, part 13: QRefZ. -/
import Derived.Test.YtnaomilkgfkegaaGreatTA11
namespace Go.Proofs.YtnaomilkgfkegaaGreat
section
open Go.RowKit
theorem dir_faith {s:Nat} {T:Int} {x y r:Nat} {e f:Int} (hs:0 < s) (D:Down s T x e) (U:Up s T y f) (B:Beside s T r) (a b:Nat) (la:a < 18446744073709551616) (ra:rightB a=true) (lb:b < 18446744073709551616) (rb:rightB b=true) (h1:val a*(s:Int)≤T) (h2:T≤val b*(s:Int)) :
   Faith s T r∧rung r < 9218868437227405312:=by
 have hp:(0:Int) < (s:Int):=Int.natCast_pos.2 hs
 rcases D with ⟨e1,x1,x2,x3,x4⟩ | ⟨_,_,g⟩
 · rcases U with ⟨f1,y1,y2,y3,y4⟩ | ⟨_,_,g⟩
   · subst e1; subst f1
     obtain⟨l,f,hv⟩:=B _ _ (Or.inl ⟨rfl,x1,x2,x3,x4⟩) (Or.inl ⟨rfl,y1,y2,y3,y4⟩)
     have hxy:=Int.le_of_mul_le_mul_right (Int.le_trans x3 y3) hp
     exact ⟨⟨l,by omega,fun _ d ld rd hd=>by have:=x4 d ld rd hd; omega,fun _ d ld rd hd=>by have:=y4 d ld rd hd; omega,fun h=>by omega,fun h=>by omega⟩,f⟩
   · exact absurd h2 (Int.not_le.2 (g b lb rb))
 · exact absurd h1 (Int.not_le.2 (g a la ra))
theorem Faith.flip {s:Nat} {T:Int} {c:Nat} (F:Faith s T c):Faith s (-T) (flipW c):=by
 obtain⟨f1,f2,f3,f4⟩:=flip_facts c F.lt
 have tf:∀ d,d < 18446744073709551616→rightB d=true→turnW d < 18446744073709551616∧rightB (turnW d)=true∧val (turnW d)=-val d:=fun d=>turn_facts d
 refine ⟨f1,by rw [f2]; exact F.le,?_,?_,?_,?_⟩
 · intro h d ld rd hd
   obtain⟨t1,t2,t3⟩:=tf d ld rd
   have:=F.high (by rw [←f2]; exact h) _ t1 t2 (by rw [t3,Int.neg_mul]; omega)
   omega
 · intro h d ld rd hd
   obtain⟨t1,t2,t3⟩:=tf d ld rd
   have:=F.low (by rw [←f2]; exact h) _ t1 t2 (by rw [t3,Int.neg_mul]; omega)
   omega
 · intro h hs d ld rd
   obtain⟨t1,t2,t3⟩:=tf d ld rd
   rw [f3] at hs
   have:=F.ninf (by rw [←f2]; exact h) (by simpa using hs) _ t1 t2
   rw [t3,Int.neg_mul] at this
   omega
 · intro h hs d ld rd
   obtain⟨t1,t2,t3⟩:=tf d ld rd
   rw [f3] at hs
   have:=F.pinf (by rw [←f2]; exact h) (by simpa using hs) _ t1 t2
   rw [t3,Int.neg_mul] at this
   omega
theorem Down.scale {s s':Nat} {T T':Int} {c:Nat} {e:Int} (hs:0 < s) (hs':0 < s') (h:T*(s':Int)=T'*(s:Int)) (D:Down s T c e):Down s' T' c e:=by
 have k:∀ v:Int,v*(s:Int)≤T↔v*(s':Int)≤T':=fun v=>by
   have e1:v*(s:Int)*(s':Int)=v*(s':Int)*(s:Int):=by rw [Int.mul_assoc,Int.mul_comm (s:Int),←Int.mul_assoc]
   constructor
   · intro g
     have:=Int.mul_le_mul_of_nonneg_right g (Int.natCast_nonneg s')
     rw [e1,h] at this
     exact Int.le_of_mul_le_mul_right this (Int.natCast_pos.2 hs)
   · intro g
     have:=Int.mul_le_mul_of_nonneg_right g (Int.natCast_nonneg s)
     rw [←e1,←h] at this
     exact Int.le_of_mul_le_mul_right this (Int.natCast_pos.2 hs')
 rcases D with ⟨d1,d2,d3,d4,d5⟩ | ⟨d1,d2,d3⟩
 · exact Or.inl ⟨d1,d2,d3,(k _).1 d4,fun d ld rd hd=>d5 d ld rd ((k _).2 hd)⟩
 · exact Or.inr ⟨d1,d2,fun d ld rd=>Int.not_le.1 fun g=>absurd ((k _).2 g) (Int.not_le.2 (d3 d ld rd))⟩
theorem Up.scale {s s':Nat} {T T':Int} {c:Nat} {e:Int} (hs:0 < s) (hs':0 < s') (h:T*(s':Int)=T'*(s:Int)) (D:Up s T c e):Up s' T' c e:=by
 have k:∀ v:Int,T≤v*(s:Int)↔T'≤v*(s':Int):=fun v=>by
   have e1:v*(s:Int)*(s':Int)=v*(s':Int)*(s:Int):=by rw [Int.mul_assoc,Int.mul_comm (s:Int),←Int.mul_assoc]
   constructor
   · intro g
     have:=Int.mul_le_mul_of_nonneg_right g (Int.natCast_nonneg s')
     rw [e1,h] at this
     exact Int.le_of_mul_le_mul_right this (Int.natCast_pos.2 hs)
   · intro g
     have:=Int.mul_le_mul_of_nonneg_right g (Int.natCast_nonneg s)
     rw [←e1,←h] at this
     exact Int.le_of_mul_le_mul_right this (Int.natCast_pos.2 hs')
 rcases D with ⟨d1,d2,d3,d4,d5⟩ | ⟨d1,d2,d3⟩
 · exact Or.inl ⟨d1,d2,d3,(k _).1 d4,fun d ld rd hd=>d5 d ld rd ((k _).2 hd)⟩
 · exact Or.inr ⟨d1,d2,fun d ld rd=>Int.not_le.1 fun g=>absurd ((k _).2 g) (Int.not_le.2 (d3 d ld rd))⟩
theorem rep_word {v:Int} {H:Nat} (h:Rep v) (hv:v.natAbs≤H) (hH:H≤steps 9218868437227405311):∃ d,d < 18446744073709551616∧rightB d=true∧val d=v:=by
 obtain⟨R,e⟩:=h
 have hR:R≤9218868437227405311:=(steps_le_iff _ _).1 (by omega)
 obtain⟨s1,s2,s3⟩:=sw_facts (decide (v < 0)) R hR
 refine ⟨_,s1,s2,?_⟩
 rw [s3]
 by_cases g:v < 0
 · rw [decide_eq_true g,if_pos rfl]; omega
 · rw [decide_eq_false g,if_neg Bool.false_ne_true]; omega
def exN:Nat:=3000
def exG:Nat:=1071
def exH:Nat:=1080
def expU:Nat:=2 ^ exN
def expV (n:Int):Nat:=2 ^ (n+exN).toNat
def lowS:Nat:=2 ^ exG
def highS:Nat:=2 ^ exH
theorem expU_pos:0 < expU:=Nat.two_pow_pos _
theorem expV_pos (n:Int):0 < expV n:=Nat.two_pow_pos _
theorem lowS_pos:0 < lowS:=Nat.two_pow_pos _
theorem high_low:highS=512*lowS:=by
 unfold highS lowS
 rw [show exH=exG+9 from rfl,Nat.pow_add,Nat.mul_comm]
theorem high_top:highS≤steps 9218868437227405311:=by
 rw [top_is]
 have h1:2 ^ exH≤2 ^ exZ:=Nat.pow_le_pow_right (by decide) (by decide)
 have h2:2 ^ exZ≤9007199254740991*2 ^ exZ:=Nat.le_mul_of_pos_left _ (by decide)
 exact Nat.le_trans h1 h2
theorem low_word:∃ d,d < 18446744073709551616∧rightB d=true∧val d=(lowS:Int):=
 rep_word (H:=lowS) (by have:=rep_mk 1 exG (by decide); rw [Int.one_mul] at this; exact this) (by omega) (by have:=high_low; have:=high_top; omega)
theorem high_word:∃ d,d < 18446744073709551616∧rightB d=true∧val d=(highS:Int):=
 rep_word (H:=highS) (by have:=rep_mk 1 exH (by decide); rw [Int.one_mul] at this; exact this) (by omega) high_top
theorem mid_word (d:Nat) (n:Int) (n0:-2200≤n) (n1:n≤2200) (h1:lowS*expV n < (val d).natAbs*expU) (h2:(val d).natAbs*expU < highS*expV n) :
   ∃ d',d' < 18446744073709551616∧rightB d'=true∧val d'*(expV n:Int)=val d*(expU:Int):=by
 obtain⟨j,K,e,hj,_⟩:=rep_parts (rep_val d)
 have a1:(val d).natAbs=j.natAbs*2 ^ K:=by rw [e,abs_pow]
 have hN:exN=3000:=rfl
 have hK:n≤K:=by
   rcases Int.lt_or_le (K:Int) n with g | g
   · exfalso
     have b1:j.natAbs*2 ^ K*expU < 2 ^ 53*2 ^ K*expU:=Nat.mul_lt_mul_of_pos_right (Nat.mul_lt_mul_of_pos_right hj (Nat.two_pow_pos _)) expU_pos
     have b2:2 ^ 53*2 ^ K*expU≤lowS*expV n:=by
       unfold expU lowS expV
       rw [←Nat.pow_add,←Nat.pow_add,←Nat.pow_add]
       exact Nat.pow_le_pow_right (by decide) (by unfold exG; omega)
     rw [a1] at h1
     omega
   · exact g
 have key:expV n*2 ^ (K - n).toNat=2 ^ K*expU:=by
   unfold expV expU
   rw [←Nat.pow_add,←Nat.pow_add]
   congr 1
   omega
 obtain⟨v',ev⟩:∃ v':Int,v'=j*((2 ^ (K - n).toNat:Nat):Int):=⟨_,rfl⟩
 have hv:v'*(expV n:Int)=val d*(expU:Int):=by
   rw [ev,Int.mul_assoc,←Int.natCast_mul,Nat.mul_comm (2 ^ (K - n).toNat),key,e,Int.mul_assoc,←Int.natCast_mul]
 have hb:v'.natAbs≤highS:=by
   have h3:v'.natAbs*expV n=(val d).natAbs*expU:=by
     have:=congrArg Int.natAbs hv
     rw [Int.natAbs_mul,Int.natAbs_mul,Int.natAbs_natCast,Int.natAbs_natCast] at this
     exact this
   rw [←h3] at h2
   exact Nat.le_of_lt (Nat.lt_of_mul_lt_mul_right h2)
 obtain⟨d',l,r,v⟩:=rep_word (by rw [ev]; exact rep_mk j (K - n).toNat (by omega)) hb high_top
 exact ⟨d',l,r,by rw [v,hv]⟩
end
section
open Go.RowKit
structure Mid (s:Nat) (T:Int) (m:Nat):Prop where
 pos:0 < s
 f:Faith s T m
 fin:rung m < 9218868437227405312
 side:2*(lowS:Int)*(s:Int)≤T∨T ≤ -(2*(lowS:Int))*(s:Int)
 hi:T < (highS:Int)*(s:Int)
 lo:-(highS:Int)*(s:Int) < T
theorem Mid.flip {s:Nat} {T:Int} {m:Nat} (M:Mid s T m):Mid s (-T) (flipW m):=by
 refine ⟨M.pos,M.f.flip,by rw [(flip_facts m M.f.lt).2.1]; exact M.fin,?_,?_,?_⟩
 · have h:=M.side
   rw [Int.neg_mul] at h ⊢
   omega
 · have h:=M.lo
   rw [Int.neg_mul] at h
   omega
 · have h:=M.hi
   rw [Int.neg_mul]
   omega
theorem Mid.of {s:Nat} {T:Int} {m:Nat} (M:Mid s T m):(0 < T→(lowS:Int)≤val m)∧(T < 0→val m ≤ -(lowS:Int))∧val m≤(highS:Int) ∧ -(highS:Int)≤val m:=by
 obtain⟨l,l1,l2,l3⟩:=low_word
 obtain⟨h,h1,h2,h3⟩:=high_word
 obtain⟨tl1,tl2,tl3⟩:=turn_facts l l1 l2
 obtain⟨th1,th2,th3⟩:=turn_facts h h1 h2
 have hs:=M.side
 have hp:(0:Int) < (lowS:Int)*(s:Int):=Int.mul_pos (Int.natCast_pos.2 lowS_pos) (Int.natCast_pos.2 M.pos)
 rw [Int.neg_mul,Int.mul_assoc] at hs
 have hh:=M.hi
 have hl:=M.lo
 rw [Int.neg_mul] at hl
 refine ⟨fun g=>?_,fun g=>?_,?_,?_⟩
 · have:=M.f.low M.fin l l1 l2 (by rw [l3]; omega)
   omega
 · have:=M.f.high M.fin _ tl1 tl2 (by rw [tl3,l3,Int.neg_mul]; omega)
   omega
 · have:=M.f.high M.fin h h1 h2 (by rw [h3]; omega)
   omega
 · have:=M.f.low M.fin _ th1 th2 (by rw [th3,h3,Int.neg_mul]; omega)
   omega
theorem tv_le {T k s V:Int} (h:T≤k*s) (hV:0≤V):T*V≤k*V*s:=by
 have:=Int.mul_le_mul_of_nonneg_right h hV
 rw [Int.mul_assoc,Int.mul_comm s,←Int.mul_assoc] at this
 exact this
theorem mid_low {s:Nat} {T:Int} {m:Nat} (M:Mid s T m) (n:Int) (n0:-2200≤n) (n1:n≤2200) (d:Nat) (h:val d*((s*expU:Nat):Int)≤T*(expV n:Int)):val d*(expU:Int)≤val m*(expV n:Int):=by
 obtain⟨m1,m2,m3,m4⟩:=M.of
 have hs:(0:Int) < (s:Int):=Int.natCast_pos.2 M.pos
 have hL:(0:Int) < (lowS:Int):=Int.natCast_pos.2 lowS_pos
 have hV:(0:Int) < (expV n:Int):=Int.natCast_pos.2 (expV_pos n)
 have hU:(0:Int) < (expU:Int):=Int.natCast_pos.2 expU_pos
 have hLs:(0:Int) < (lowS:Int)*(s:Int):=Int.mul_pos hL hs
 have hA:(0:Int) < (lowS:Int)*(expV n:Int):=Int.mul_pos hL hV
 have side:=M.side
 have hX:val d*((s*expU:Nat):Int)=val d*(expU:Int)*(s:Int):=by
   rw [Int.natCast_mul,Int.mul_comm (s:Int),←Int.mul_assoc]
 rw [hX] at h
 have hab:(((val d).natAbs*expU:Nat):Int)=((val d*(expU:Int)).natAbs:Int):=by rw [Int.natAbs_mul,Int.natAbs_natCast]
 have hs1:0 < T∨T < 0:=by
   rcases side with g | g
   · left; rw [Int.mul_assoc] at g; omega
   · right; rw [Int.neg_mul,Int.mul_assoc] at g; omega
 have lv:∀ k:Int,k≤val m→k*(expV n:Int)≤val m*(expV n:Int):=fun k g=>Int.mul_le_mul_of_nonneg_right g (Int.le_of_lt hV)
 rcases Nat.lt_or_ge (lowS*expV n) ((val d).natAbs*expU) with g1 | g1
 · rcases Nat.lt_or_ge ((val d).natAbs*expU) (highS*expV n) with g2 | g2
   · obtain⟨d',l',r',v'⟩:=mid_word d n n0 n1 g1 g2
     rw [←v'] at h ⊢
     refine lv _ (M.f.low M.fin d' l' r' ?_)
     have:val d'*(s:Int)*(expV n:Int)≤T*(expV n:Int):=by
       rw [Int.mul_assoc,Int.mul_comm (s:Int),←Int.mul_assoc]; exact h
     exact Int.le_of_mul_le_mul_right this hV
   · have g2':(highS:Int)*(expV n:Int)≤((val d*(expU:Int)).natAbs:Int):=by
       rw [←hab,←Int.natCast_mul]; exact Int.ofNat_le.2 g2
     rcases Int.lt_or_le (val d*(expU:Int)) 0 with q | q
     · have:=lv _ m4
       rw [Int.neg_mul] at this
       omega
     · exfalso
       have k1:(highS:Int)*(expV n:Int)*(s:Int)≤val d*(expU:Int)*(s:Int):=Int.mul_le_mul_of_nonneg_right (by omega) (Int.le_of_lt hs)
       have k2:T*(expV n:Int) < (highS:Int)*(s:Int)*(expV n:Int):=Int.mul_lt_mul_of_pos_right M.hi hV
       rw [Int.mul_assoc,Int.mul_comm (s:Int),←Int.mul_assoc] at k2
       omega
 · have g1':((val d*(expU:Int)).natAbs:Int)≤(lowS:Int)*(expV n:Int):=by
     rw [←hab,←Int.natCast_mul]; exact Int.ofNat_le.2 g1
   rcases hs1 with t | t
   · have:=lv _ (m1 t)
     omega
   · exfalso
     have k0:T ≤ -(2*(lowS:Int))*(s:Int):=by
       rcases side with g | g
       · rw [Int.mul_assoc] at g; omega
       · exact g
     have k1:=tv_le k0 (Int.le_of_lt hV)
     have k2:=Int.le_of_mul_le_mul_right (Int.le_trans h k1) hs
     rw [Int.neg_mul,Int.mul_assoc] at k2
     omega
theorem mid_high {s:Nat} {T:Int} {m:Nat} (M:Mid s T m) (n:Int) (n0:-2200≤n) (n1:n≤2200) (d:Nat) (ld:d < 18446744073709551616) (rd:rightB d=true) (h:T*(expV n:Int)≤val d*((s*expU:Nat):Int)):val m*(expV n:Int)≤val d*(expU:Int):=by
 obtain⟨_,_,t3⟩:=turn_facts d ld rd
 have e:=(flip_facts m M.f.lt).2.2.2
 have:=mid_low M.flip n n0 n1 (turnW d) (by rw [t3,Int.neg_mul,Int.neg_mul]; omega)
 rw [t3,e,Int.neg_mul,Int.neg_mul] at this
 omega
theorem mid_faith {s:Nat} {T:Int} {m c:Nat} (M:Mid s T m) (n:Int) (n0:-2200≤n) (n1:n≤2200) (G:Faith expU (val m*(expV n:Int)) c):Faith (s*expU) (T*(expV n:Int)) c:=by
 have lo:=mid_low M n n0 n1
 have hi:=mid_high M n n0 n1
 generalize s*expU=S at *
 exact ⟨G.lt,G.le,fun f d ld rd h=>G.low f d ld rd (lo d h),fun f d ld rd h=>G.high f d ld rd (hi d ld rd h),
   fun f hs d ld rd=>Int.not_le.1 fun h=>absurd (hi d ld rd h) (Int.not_le.2 (G.pinf f hs d ld rd)),
   fun f hs d ld rd=>Int.not_le.1 fun h=>absurd (lo d h) (Int.not_le.2 (G.ninf f hs d ld rd))⟩
theorem fma_w (x y z:Nat) (S:Int) (lx:x < 18446744073709551616) (ly:y < 18446744073709551616) (lz:z < 18446744073709551616) (rx:rung x < 9218868437227405312) (ry:rung y < 9218868437227405312) (rz:rung z < 9218868437227405312)
   (hS:S*((2 ^ sq:Nat):Int)=val x*val y+val z*((2 ^ sq:Nat):Int)):∃ r,FloatKind.f64.format.fma x y z=some r∧NearW S r:=by
 have xx:=expo_ge x
 have xy:=expo_ge y
 have xz:=expo_ge z
 obtain⟨base,hbase⟩:∃ base:Int,base=min (expo x+expo y) (expo z):=⟨_,rfl⟩
 obtain⟨total,htot⟩:∃ total:Int,total=Ieee.signed (sgnB x ^^ sgnB y) (mant x*mant y) (expo x+expo y - base).toNat+Ieee.signed (sgnB z) (mant z) (expo z - base).toNat:=⟨_,rfl⟩
 obtain⟨q,hq⟩:∃ q:Nat,(q:Int)=base+2148:=⟨(base+2148).toNat,by omega⟩
 have e1:val x*val y=Ieee.signed (sgnB x ^^ sgnB y) (mant x*mant y) (expo x+expo y - base).toNat*((2 ^ q:Nat):Int):=by
   rw [←signed_mul,show (expo x+expo y - base).toNat+q=(expo x+1074).toNat+(expo y+1074).toNat by omega]
   have e:val x*val y=sg (sgnB x ^^ sgnB y) (steps (rung x)*steps (rung y)):=by
     rw [val_sg x,val_sg y,←sg_mul]
     cases sgnB x <;> cases sgnB y <;> rfl
   rw [e,steps_parts,steps_parts]
   unfold Ieee.signed sg
   rw [Nat.shiftLeft_eq,Nat.pow_add,Nat.mul_mul_mul_comm]
 have e2:val z*((2 ^ sq:Nat):Int)=Ieee.signed (sgnB z) (mant z) (expo z - base).toNat*((2 ^ q:Nat):Int):=by
   rw [←signed_mul,show (expo z - base).toNat+q=(expo z+1074).toNat+sq by rw [sq_eq]; omega,signed_mul]
   congr 1
   unfold Ieee.signed val
   rw [Nat.shiftLeft_eq,steps_parts]
 have eT:S*((2 ^ sq:Nat):Int)=total*((2 ^ q:Nat):Int):=by rw [hS,e1,e2,htot,Int.add_mul]
 refine ⟨Ieee.double.nearest (if total=0 then (sgnB x ^^ sgnB y)&&sgnB z else decide (total < 0)) total.natAbs base,?_,?_⟩
 · show (((Ieee.double.read x).product (Ieee.double.read y)).bind (·.sum (Ieee.double.read z))).map Ieee.double.write=_
   rw [read_num x lx rx,read_num y ly ry,read_num z lz rz]
   show ((Ieee.Datum.number (sgnB x ^^ sgnB y) (mant x*mant y) (expo x+expo y)).sum (.number (sgnB z) (mant z) (expo z))).map Ieee.double.write=_
   unfold Ieee.Datum.sum
   simp only [←hbase,←htot]
   rfl
 · have hp:(0:Int) < ((2 ^ sq:Nat):Int):=Int.natCast_pos.2 (Nat.two_pow_pos _)
   have hp2:(0:Int) < ((2 ^ q:Nat):Int):=Int.natCast_pos.2 (Nat.two_pow_pos _)
   have eS:S=sg (if total=0 then (sgnB x ^^ sgnB y)&&sgnB z else decide (total < 0)) S.natAbs:=by
     by_cases h0:total=0
     · rw [h0,Int.zero_mul] at eT
       have:S=0:=by
         rcases Int.mul_eq_zero.1 eT with g | g
         · exact g
         · omega
       rw [h0,if_pos rfl,this]
       cases ((sgnB x ^^ sgnB y)&&sgnB z) <;> rfl
     · rw [if_neg h0]
       by_cases h1:total < 0
       · rw [decide_eq_true h1]
         have k:=Int.mul_neg_of_neg_of_pos h1 hp2
         rw [←eT] at k
         have:S < 0:=by
           rcases Int.lt_or_le S 0 with g | g
           · exact g
           · have:=Int.mul_nonneg g (Int.le_of_lt hp); omega
         show _=-((S.natAbs:Nat):Int)
         omega
       · rw [decide_eq_false h1]
         have k:=Int.mul_nonneg (show 0≤total by omega) (Int.le_of_lt hp2)
         rw [←eT] at k
         have:0≤S:=by
           rcases Int.lt_or_le S 0 with g | g
           · have:=Int.mul_neg_of_neg_of_pos g hp; omega
           · exact g
         show _=((S.natAbs:Nat):Int)
         omega
   have hn:S.natAbs*2 ^ sq=total.natAbs*2 ^ q:=by
     have:=congrArg Int.natAbs eT
     rw [Int.natAbs_mul,Int.natAbs_mul,Int.natAbs_natCast,Int.natAbs_natCast] at this
     exact this
   rw [eS]
   refine nearest_w _ _ _ _ (by omega) ?_
   have hs:=sc_eq
   have hq2:=sq_eq
   have:real total.natAbs base*2 ^ sq=S.natAbs*2 ^ sc*2 ^ sq:=by
     rw [Nat.mul_right_comm,hn]
     unfold real
     rw [Nat.mul_assoc,Nat.mul_assoc,←Nat.pow_add,←Nat.pow_add,show (base+1074+sc).toNat+sq=q+sc by omega]
   exact Nat.eq_of_mul_eq_mul_right (Nat.two_pow_pos _) this
theorem near_sign {S:Int} {r:Nat} (N:NearW S r) (h:S.natAbs≤steps 9218868437227405311):r < 18446744073709551616∧(FloatKind.f64.format.order r 0 == some Ordering.gt)=decide (0 < S)∧(FloatKind.f64.format.order r 0 == some Ordering.lt)=decide (S < 0):=by
 have f:=N.small h
 obtain⟨s1,s2⟩:=sign_facts r N.lt f
 have B:=N.fin f
 have b0:=B.best 0 rep_zero
 have b1:=B.best 1 (by have:=rep_mk 1 0 (by decide); rw [Nat.pow_zero] at this; exact this)
 have b2:=B.best (-1) (by have:=rep_mk (-1) 0 (by decide); rw [Nat.pow_zero] at this; exact this)
 refine ⟨N.lt,?_,?_⟩
 · rw [s1]; exact decide_eq_decide.2 ⟨fun _=>by omega,fun _=>by omega⟩
 · rw [s2]; exact decide_eq_decide.2 ⟨fun _=>by omega,fun _=>by omega⟩
end
section
open Go.RowKit
theorem ldx_subn (F G F2 A S X R:Nat) (e Q E x:Int) (w:World) (b0:bits .andNot .u64 (F:Int) 9223372036854775808=G)
   (o1:(FloatKind.f64.format.order F 0 == some Ordering.eq)=false) (o2:(FloatKind.f64.format.order G 9218868437227405311 == some Ordering.gt)=false)
   (o3:(FloatKind.f64.format.order F F != some Ordering.eq)=false) (o4:(FloatKind.f64.format.order G 4503599627370496 == some Ordering.lt)=true)
   (hq:floatBits .mul .f64 F 4841369599423283200=some F2)
   (s1:(F2:Int) / 4503599627370496=Q) (q0:0≤Q) (q1:Q≤4095) (e0:0≤E) (e1:E≤2047) (a1:bits .and .i64 Q 2047=E) (f0:-3000≤e) (f1:e≤3000) (r1:e - 52+(E - 1023)=x) (r2:-1022≤x) (r3:x≤1023)
   (a2:bits .andNot .u64 (F2:Int) 9218868437227405312=A) (sh:IntKind.u64.wrap ((x+1023)*4503599627370496)=S) (o5:bits .or .u64 (A:Int) (S:Int)=X)
   (hm:floatBits .mul .f64 4607182418800017408 X=some R) :
   Calls Tryz.prog 83 #[.float .f64 F,.int .i64 e] w fun r w'=>r = .returned (.float .f64 R)∧w=w':=by
 have h1:=run_bits
 have h2:=run_frombits
 have h3:=fun w=>run_float_arith (P:=Tryz.prog) w .mul 25 .f64 F 4841369599423283200 F2 hq
 have h4:=fun w=>run_float_arith (P:=Tryz.prog) w .mul 25 .f64 4607182418800017408 X R hm
 have r0:e + -52+(E - 1023)=x:=by omega
 go_enter Tryz.func83,Tryz.ntmps83
 go_wp2
 go_ret
 exact ⟨rfl,rfl⟩
theorem val_nat (F:Nat):(val F).natAbs=steps (rung F):=by unfold val; split <;> omega
theorem lift_word (F:Nat) (lF:F < 18446744073709551616) (h0:rung F≠0) (hs:rung F < 4503599627370496) :
   ∃ F2,F2 < 18446744073709551616∧sgnB F2=sgnB F∧4503599627370496≤rung F2∧rung F2≤53*4503599627370496∧steps (rung F2)=rung F*2 ^ 52∧floatBits .mul .f64 F 4841369599423283200=some F2:=by
 have rF:rightB F=true:=by unfold rightB; unfold rung at h0 hs; rw [decide_eq_true (by omega),decide_eq_false (by omega)]; rfl
 have v2:steps (rung F)=rung F:=by unfold steps; rw [if_pos (by omega)]
 have hrF:rung F=F % 9223372036854775808:=rfl
 obtain⟨R,hR⟩:=rep_nat 52 (rung F) (by omega)
 have r1:4503599627370496≤R:=by
   refine (steps_le_iff _ _).1 ?_
   rw [←hR,show steps 4503599627370496=4503599627370496 by decide]
   omega
 have r2:R≤53*4503599627370496:=by
   refine (steps_le_iff _ _).1 ?_
   rw [←hR,show steps (53*4503599627370496)=4503599627370496*2 ^ 52 from low_km 52 _ (by decide)]
   exact Nat.mul_le_mul_right _ (by omega)
 obtain⟨F2,e2⟩:∃ F2,F2=F / 9223372036854775808*9223372036854775808+R:=⟨_,rfl⟩
 have l2:F2 < 18446744073709551616:=by omega
 have g2:rung F2=R:=by unfold rung; omega
 have s2:sgnB F2=sgnB F:=by
   unfold sgnB
   exact decide_eq_decide.2 ⟨fun _=>by omega,fun _=>by omega⟩
 have c2:rightB F2=true:=by unfold rightB; rw [decide_eq_true (by omega),decide_eq_false (by omega)]; rfl
 have st:steps (rung F2)=rung F*2 ^ 52:=by rw [g2,hR]
 have v1:val 4841369599423283200=((4503599627370496*2 ^ sq:Nat):Int):=by
   rw [(pos_facts 4841369599423283200 (by decide)).2.2.2.2,low_km sq _ (by unfold sq; decide)]
 have hv:val F2=val F*4503599627370496:=by
   unfold val
   rw [s2,st,v2]
   split <;> omega
 have n2:val F2≠0:=by
   have h1:=val_nat F2
   omega
 have hq:=mul_exact_any F 4841369599423283200 F2 lF (by decide) rF (by decide) l2 c2 n2 (by rw [v1,hv,Int.natCast_mul,Int.mul_assoc]; rfl)
 exact ⟨F2,l2,s2,by omega,by omega,st,hq⟩
theorem steps_field (R E:Nat) (hE:R / 4503599627370496=E+1):steps R=(4503599627370496+R % 4503599627370496)*2 ^ E:=by
 unfold steps
 rw [if_neg (by omega),hE,Nat.add_sub_cancel]
theorem pow_sum2 (a b c:Nat) (h:a+b=c):(2:Nat) ^ a*2 ^ b=2 ^ c:=by rw [←Nat.pow_add,h]
theorem val_scale {c b:Nat} {X Y:Nat} (hs:sgnB b=sgnB c) (h:steps (rung b)*X=steps (rung c)*Y):val b*(X:Int)=val c*(Y:Int):=by
 have h':(steps (rung b):Int)*(X:Int)=(steps (rung c):Int)*(Y:Int):=by rw [←Int.natCast_mul,←Int.natCast_mul,h]
 unfold val
 rw [hs]
 split
 · rw [Int.neg_mul,Int.neg_mul,h']
 · exact h'
theorem ldexp_lift (F:Nat) (e:Int) (lF:F < 18446744073709551616) (h0:rung F≠0) (hs:rung F < 4503599627370496) (e0:1000≤e) (e1:e≤1100) :
   ∃ X,LdxR F e X∧X < 18446744073709551616∧sgnB X=sgnB F∧900*4503599627370496≤rung X∧rung X < 1200*4503599627370496∧steps (rung X)=steps (rung F)*2 ^ e.toNat:=by
 have hrF:rung F=F % 9223372036854775808:=rfl
 obtain⟨o1,o2,o3,o4⟩:=ldx_facts F lF (by omega) h0
 rw [decide_eq_true hs] at o4
 obtain⟨F2,l2,s2,g1,g2,st,hq⟩:=lift_word F lF h0 hs
 have v2:steps (rung F)=rung F:=by unfold steps; rw [if_pos (by omega)]
 obtain⟨E,hE⟩:∃ E,rung F2 / 4503599627370496=E+1:=⟨_,(Nat.sub_add_cancel (by omega)).symm⟩
 have hE1:E≤52:=by omega
 obtain⟨k,hk⟩:∃ k:Nat,(k:Int)=e - 52+(E+1):=⟨(e - 52+(E+1)).toNat,by omega⟩
 obtain⟨X,hX⟩:∃ X,X=F2 / 9223372036854775808*9223372036854775808+k*4503599627370496+F2 % 4503599627370496:=⟨_,rfl⟩
 have hk1:940≤k∧k < 1110:=by omega
 have lX:X < 18446744073709551616:=by omega
 have gX:rung X=k*4503599627370496+F2 % 4503599627370496:=by unfold rung; omega
 have sX:sgnB X=sgnB F2:=by
   unfold sgnB
   exact decide_eq_decide.2 ⟨fun _=>by omega,fun _=>by omega⟩
 have rX:rightB X=true:=by unfold rightB; rw [decide_eq_true (by omega),decide_eq_false (by omega)]; rfl
 have nX:val X≠0:=by
   have hz:steps (rung X)≠0:=fun hz=>by have:=(steps_zero (rung X)).1 hz; omega
   have:=val_nat X
   omega
 have a1:=and2047 (F2 / 4503599627370496) (by omega)
 have hE2:F2 / 4503599627370496 % 2048=E+1:=by unfold rung at hE; omega
 rw [hE2] at a1
 have o5:bits .or .u64 ((F2 / 9223372036854775808*9223372036854775808+F2 % 4503599627370496:Nat):Int) ((k*4503599627370496:Nat):Int)=X:=by
   rw [bits_or_u64_nat _ _ (by omega) (by omega),or_parts _ _ k (by omega) (by omega),hX]
 refine ⟨X,fun w=>ldx_subn F _ F2 _ (k*4503599627370496) X X e ((F2 / 4503599627370496:Nat):Int) ((E+1:Nat):Int) (k - 1023) w (andNot_sign F lF) o1 o2 o3 o4 hq (by omega) (by omega) (by omega) (by omega) (by omega) a1 (by omega) (by omega) (by omega) (by omega) (by omega) (and_parts F2 l2)
   (by rw [IntKind.wrap_u64]; omega) o5 (one_mul_w X lX rX nX),lX,by rw [sX,s2],by omega,by omega,?_⟩
 obtain⟨j,hj⟩:∃ j,k=j+1:=⟨k - 1,by omega⟩
 have f1:=steps_field (rung X) j (by omega)
 have f2:=steps_field (rung F2) E hE
 have d1:rung X % 4503599627370496=F2 % 4503599627370496:=by omega
 have d2:rung F2 % 4503599627370496=F2 % 4503599627370496:=by unfold rung; omega
 rw [d1] at f1
 rw [d2,st] at f2
 have h1:steps (rung X)*2 ^ 52=steps (rung F)*2 ^ e.toNat*2 ^ 52:=by
   rw [f1,v2,Nat.mul_right_comm (rung F),f2,Nat.mul_assoc,Nat.mul_assoc,pow_sum2 j 52 (j+52) rfl,pow_sum2 E e.toNat (j+52) (by omega)]
 exact Nat.eq_of_mul_eq_mul_right (Nat.two_pow_pos 52) h1
end
section
open Go.RowKit
structure NearOf (m:Nat) (n:Int) (c back:Nat):Prop where
 call:NearR m n c back
 f:Faith expU (val m*(expV n:Int)) c
 lb:back < 18446744073709551616
 bin:val back=0∧rung back=0∨900*4503599627370496≤rung back
 bhi:rung back < 1200*4503599627370496
 is:rung c < 9218868437227405312→val back*(expV n:Int)=val c*(expU:Int)
theorem inf_false (c:Nat) (lc:c < 18446744073709551616) (fc:rung c < 9218868437227405312):InfR c false:=by
 intro w
 have h:=isInf0_any c w lc (decide_eq_false (by omega))
 rw [show infB c=false from decide_eq_false (by omega)] at h
 exact h
theorem inf_true (c:Nat) (lc:c < 18446744073709551616) (fc:rung c=9218868437227405312):InfR c true:=by
 intro w
 have h:=isInf0_any c w lc (decide_eq_false (by omega))
 rw [show infB c=true from decide_eq_true fc] at h
 exact h
theorem faith_eq {s:Nat} {T:Int} {c:Nat} (hs:0 < s) (lc:c < 18446744073709551616) (fc:rung c < 9218868437227405312) (h:T=val c*(s:Int)):Faith s T c where
 lt:=lc
 le:=by omega
 low:=fun _ d _ _ g=>by rw [h] at g; exact Int.le_of_mul_le_mul_right g (Int.natCast_pos.2 hs)
 high:=fun _ d _ _ g=>by rw [h] at g; exact Int.le_of_mul_le_mul_right g (Int.natCast_pos.2 hs)
 pinf:=fun g=>by omega
 ninf:=fun g=>by omega
theorem pow_eq2 (M:Nat) {a b:Nat} (h:a=b):M*2 ^ a=M*2 ^ b:=by rw [h]
theorem near_norm (m:Nat) (n:Int) (E:Nat) (lm:m < 18446744073709551616) (hE:rung m / 4503599627370496=E) (hE0:1021≤E) (hE1:E≤1024) (h1:1≤n+E) (h2:n+E≤2046):∃ c,NearOf m n c m∧sgnB c=sgnB m∧(rung c:Int)=rung m+n*4503599627370496:=by
 have hrm:rung m=m % 9223372036854775808:=rfl
 obtain⟨k,hk⟩:∃ k:Nat,(k:Int)=n+E:=⟨(n+E).toNat,by omega⟩
 obtain⟨c,hc⟩:∃ c,c=m / 9223372036854775808*9223372036854775808+k*4503599627370496+m % 4503599627370496:=⟨_,rfl⟩
 have lc:c < 18446744073709551616:=by omega
 have gc:rung c=k*4503599627370496+m % 4503599627370496:=by unfold rung; omega
 have em:m=m / 9223372036854775808*9223372036854775808+E*4503599627370496+m % 4503599627370496:=by omega
 have c1:=fun w=>ldexp_exact (m / 9223372036854775808) E (m % 4503599627370496) k n w (by omega) (by omega) (by omega) (by omega) (by omega) (by omega) (by omega)
 have c2:=fun w=>ldexp_exact (m / 9223372036854775808) k (m % 4503599627370496) E (-n) w (by omega) (by omega) (by omega) (by omega) (by omega) (by omega) (by omega)
 rw [←em,←hc] at c1 c2
 have fc:rung c < 9218868437227405312:=by omega
 have sc':sgnB c=sgnB m:=by
   unfold sgnB
   exact decide_eq_decide.2 ⟨fun _=>by omega,fun _=>by omega⟩
 have is:val m*(expV n:Int)=val c*(expU:Int):=by
   refine val_scale sc'.symm ?_
   obtain⟨j,hj⟩:∃ j,E=j+1:=⟨E - 1,by omega⟩
   obtain⟨i,hi⟩:∃ i,k=i+1:=⟨k - 1,by omega⟩
   have f1:=steps_field (rung m) j (by omega)
   have f2:=steps_field (rung c) i (by omega)
   rw [show rung m % 4503599627370496=m % 4503599627370496 by omega] at f1
   rw [show rung c % 4503599627370496=m % 4503599627370496 by omega] at f2
   have hN:exN=3000:=rfl
   rw [f1,f2]
   unfold expV expU
   rw [Nat.mul_assoc,Nat.mul_assoc,←Nat.pow_add,←Nat.pow_add]
   exact pow_eq2 _ (by omega)
 refine ⟨c,⟨fun w=>near_fin m c m n (-n) w (by omega) (by omega) rfl (Lib.hid c1) (Lib.hid (inf_false c lc fc)) (Lib.hid c2),faith_eq expU_pos lc fc is,lm,Or.inr (by omega),by omega,fun _=>is⟩,sc',by omega⟩
theorem near_over (m:Nat) (n:Int) (E:Nat) (lm:m < 18446744073709551616) (hE:rung m / 4503599627370496=E) (hE0:1021≤E) (hE1:E≤1024) (h2:2046 < n+E) (n1:n≤2200):∃ c back,NearOf m n c back:=by
 have hrm:rung m=m % 9223372036854775808:=rfl
 have cL:=fun w=>ldexp_inf m n w lm (by omega) (by omega) (by omega) (by omega) (by rw [hE]; omega)
 obtain⟨c,hc⟩:∃ c:Nat,c=if sgnB m then 18442240474082181120 else 9218868437227405312:=⟨_,rfl⟩
 rw [←hc] at cL
 have hcs:c < 18446744073709551616∧rung c=9218868437227405312∧sgnB c=sgnB m:=by
   rw [hc]
   cases sgnB m <;> decide
 obtain⟨lc,fc,sc'⟩:=hcs
 have big:∀ d,rightB d=true→(val d).natAbs*expU < steps (rung m)*expV n:=fun d rd=>by
   have v1:=val_in d (right_rung d rd)
   rw [top_is] at v1
   obtain⟨j,hj⟩:∃ j,E=j+1:=⟨E - 1,by omega⟩
   have f1:=steps_field (rung m) j (by omega)
   have hN:exN=3000:=rfl
   have hZ:exZ=2045:=rfl
   have p1:2 ^ (exZ+1)*expU≤2 ^ j*expV n:=by
     unfold expU expV
     rw [←Nat.pow_add,←Nat.pow_add]
     exact Nat.pow_le_pow_right (by decide) (by omega)
   rw [Nat.pow_add,Nat.pow_one] at p1
   rw [f1]
   have q1:(val d).natAbs*expU≤9007199254740991*2 ^ exZ*expU:=Nat.mul_le_mul_right _ v1
   have q2:4503599627370496*(2 ^ j*expV n)≤(4503599627370496+rung m % 4503599627370496)*2 ^ j*expV n:=by
     rw [Nat.mul_assoc]; exact Nat.mul_le_mul_right _ (by omega)
   have q3:=Nat.mul_le_mul_left 4503599627370496 p1
   have q4:9007199254740991*2 ^ exZ*expU < 4503599627370496*(2 ^ exZ*2*expU):=by
     have hp:0 < 2 ^ exZ*expU:=Nat.mul_pos (Nat.two_pow_pos _) expU_pos
     have e1:9007199254740991*2 ^ exZ*expU=9007199254740991*(2 ^ exZ*expU):=Nat.mul_assoc _ _ _
     have e2:2 ^ exZ*2*expU=2*(2 ^ exZ*expU):=by rw [Nat.mul_comm (2 ^ exZ),Nat.mul_assoc]
     rw [e1,e2]
     omega
   omega
 have cast:∀ d,rightB d=true→((val d)*(expU:Int)).natAbs < (val m*(expV n:Int)).natAbs:=fun d rd=>by
   rw [Int.natAbs_mul,Int.natAbs_mul,Int.natAbs_natCast,Int.natAbs_natCast,val_nat m]
   exact big d rd
 refine ⟨c,0,fun w=>near_inf m c n w (Lib.hid cL) (Lib.hid (inf_true c lc fc)),⟨lc,by omega,fun h=>by omega,fun h=>by omega,fun _ hs d _ rd=>?_,fun _ hs d _ rd=>?_⟩,by decide,Or.inl (by decide),by decide,fun h=>by omega⟩
 · have:=cast d rd
   have h3:0≤val m*(expV n:Int):=Int.mul_nonneg (by rw [val_pos (by rw [←sc',hs])]; omega) (Int.natCast_nonneg _)
   omega
 · have:=cast d rd
   have h3:0 ≤ -val m*(expV n:Int):=Int.mul_nonneg (by rw [val_negs (by rw [←sc',hs])]; omega) (Int.natCast_nonneg _)
   rw [Int.neg_mul] at h3
   omega
theorem near_tiny (m:Nat) (n:Int) (E:Nat) (lm:m < 18446744073709551616) (hE:rung m / 4503599627370496=E) (hE0:1021≤E) (hE1:E≤1024) (h2:n+E < -52) (n0:-2200≤n):∃ c back,NearOf m n c back:=by
 have hrm:rung m=m % 9223372036854775808:=rfl
 have cL:=fun w=>ldexp_tiny m n w lm (by omega) (by omega) (by omega) (by omega) (by rw [hE]; omega)
 obtain⟨c,hc⟩:∃ c:Nat,c=m / 9223372036854775808*9223372036854775808:=⟨_,rfl⟩
 rw [←hc] at cL
 have lc:c < 18446744073709551616:=by omega
 have gc:rung c=0:=by unfold rung; omega
 have vc:val c=0:=by
   have h1:=val_nat c
   rw [gc,(steps_zero 0).2 rfl] at h1
   omega
 have cB:=fun w=>ldx_zero c (-n) w (by rw [order_zero_any c lc (by omega)]; exact decide_eq_true gc)
 have small:(val m*(expV n:Int)).natAbs < expU:=by
   rw [Int.natAbs_mul,Int.natAbs_natCast,val_nat]
   obtain⟨j,hj⟩:∃ j,E=j+1:=⟨E - 1,by omega⟩
   have f1:=steps_field (rung m) j (by omega)
   have hN:exN=3000:=rfl
   rw [f1]
   have q1:(4503599627370496+rung m % 4503599627370496)*2 ^ j*expV n < 2 ^ 53*2 ^ j*expV n:=Nat.mul_lt_mul_of_pos_right (Nat.mul_lt_mul_of_pos_right (by omega) (Nat.two_pow_pos _)) (expV_pos n)
   have q2:2 ^ 53*2 ^ j*expV n≤expU:=by
     unfold expU expV
     rw [←Nat.pow_add,←Nat.pow_add]
     exact Nat.pow_le_pow_right (by decide) (by omega)
   omega
 have hp:(0:Int) < (expU:Int):=Int.natCast_pos.2 expU_pos
 refine ⟨c,c,fun w=>near_fin m c c n (-n) w (by omega) (by omega) rfl (Lib.hid cL) (Lib.hid (inf_false c lc (by omega))) (Lib.hid cB),⟨lc,by omega,fun _ d _ _ g=>?_,fun _ d _ _ g=>?_,fun h=>by omega,fun h=>by omega⟩,lc,Or.inl ⟨vc,gc⟩,by omega,fun _=>by rw [vc,Int.zero_mul,Int.zero_mul]⟩
 · rw [vc]
   have:val d*(expU:Int) < 1*(expU:Int):=by omega
   have:=Int.lt_of_mul_lt_mul_right this (Int.le_of_lt hp)
   omega
 · rw [vc]
   have:-1*(expU:Int) < val d*(expU:Int):=by omega
   have:=Int.lt_of_mul_lt_mul_right this (Int.le_of_lt hp)
   omega
theorem near_under (m:Nat) (n:Int) (E:Nat) (lm:m < 18446744073709551616) (hE:rung m / 4503599627370496=E) (hE0:1021≤E) (hE1:E≤1024) (h1:n+E≤0) (h2:-52≤n+E):∃ c back,NearOf m n c back:=by
 have hrm:rung m=m % 9223372036854775808:=rfl
 obtain⟨k,hk⟩:∃ k:Nat,(k:Int)=n+E+53:=⟨(n+E+53).toNat,by omega⟩
 obtain⟨X,hX⟩:∃ X,X=m / 9223372036854775808*9223372036854775808+k*4503599627370496+m % 4503599627370496:=⟨_,rfl⟩
 have lX:X < 18446744073709551616:=by omega
 have gX:rung X=k*4503599627370496+m % 4503599627370496:=by unfold rung; omega
 have sX:sgnB X=sgnB m:=by
   unfold sgnB
   exact decide_eq_decide.2 ⟨fun _=>by omega,fun _=>by omega⟩
 have rX:rightB X=true:=by unfold rightB; rw [decide_eq_true (by omega),decide_eq_false (by omega)]; rfl
 obtain⟨c,ec,hB⟩:=mul_beside 4368491638549381120 X (by decide) lX (by decide) rX
 have cL:=fun w=>ldexp_under m X c k n w lm (by omega) (by omega) (by omega) (by omega) (by omega) (by omega) (by rw [hE]; omega) hX.symm ec
 have v1:val 4368491638549381120=((2 ^ exQ:Nat):Int):=by
   rw [(pos_facts 4368491638549381120 (by decide)).2.2.2.2]
   obtain⟨x,hx⟩:∃ x,x=969:=⟨_,rfl⟩
   have:=steps_field 4368491638549381120 x (by rw [hx])
   rw [this,show 4368491638549381120 % 4503599627370496=0 by decide,Nat.add_zero,show (4503599627370496:Nat)=2 ^ 52 by decide,pow_sum2 52 x exQ (by rw [hx]; rfl)]
 rw [v1] at hB
 obtain⟨D,_⟩:=mul_dir 4368491638549381120 X (by decide) rX false
 obtain⟨_,U⟩:=mul_dir 4368491638549381120 X (by decide) rX true
 have D:=D rfl
 have U:=U rfl
 rw [v1] at D U
 have hq:(2:Nat) ^ sq=2 ^ 53*2 ^ exQ:=by rw [pow_sum2 53 exQ sq rfl]
 have hpQ:(0:Int) < ((2 ^ exQ:Nat):Int):=Int.natCast_pos.2 (Nat.two_pow_pos _)
 -- twice the least normal number is above it, either way
 have sx:steps (rung X)≤9007199254740992*4503599627370496:=by
   have h:=steps_le (show rung X≤54*4503599627370496 by omega)
   rw [show steps (54*4503599627370496)=4503599627370496*2 ^ 53 from low_km 53 _ (by decide)] at h
   omega
 have vX:=val_nat X
 obtain⟨b1,b2,_,b4,b5⟩:=pos_facts 9007199254740992 (by decide)
 obtain⟨t1,t2,t3⟩:=turn_facts 9007199254740992 b1 b2
 have b6:steps 9007199254740992=9007199254740992:=by decide +kernel
 rw [b6] at b5
 have hT:∀ v:Int,v*((2 ^ sq:Nat):Int)=v*9007199254740992*((2 ^ exQ:Nat):Int):=fun v=>by
   rw [hq,Int.natCast_mul,←Int.mul_assoc]; rfl
 obtain⟨F,fc⟩:=dir_faith (Nat.two_pow_pos _) D U hB _ 9007199254740992 t1 t2 b1 b2
   (by rw [t3,b5,hT,Int.mul_comm ((2 ^ exQ:Nat):Int)]; exact Int.mul_le_mul_of_nonneg_right (by omega) (Int.le_of_lt hpQ))
   (by rw [b5,hT,Int.mul_comm ((2 ^ exQ:Nat):Int)]; exact Int.mul_le_mul_of_nonneg_right (by omega) (Int.le_of_lt hpQ))
 -- the same rounding, by the other power
 have same:val m*(expV n:Int)*9007199254740992=val X*(expU:Int):=by
   rw [Int.mul_assoc]
   refine val_scale (X:=expV n*9007199254740992) sX.symm ?_
   obtain⟨j,hj⟩:∃ j,E=j+1:=⟨E - 1,by omega⟩
   obtain⟨i,hi⟩:∃ i,k=i+1:=⟨k - 1,by omega⟩
   have f1:=steps_field (rung m) j (by omega)
   have f2:=steps_field (rung X) i (by omega)
   rw [show rung m % 4503599627370496=m % 4503599627370496 by omega] at f1
   rw [show rung X % 4503599627370496=m % 4503599627370496 by omega] at f2
   have hN:exN=3000:=rfl
   rw [f1,f2,show (9007199254740992:Nat)=2 ^ 53 by decide]
   unfold expV expU
   rw [Nat.mul_assoc,Nat.mul_assoc,←Nat.pow_add,←Nat.pow_add,←Nat.pow_add]
   exact pow_eq2 _ (by omega)
 have conv:∀ v:Int,(v*(expU:Int)≤val m*(expV n:Int)↔v*9007199254740992≤val X)∧(val m*(expV n:Int)≤v*(expU:Int)↔val X≤v*9007199254740992):=fun v=>by
   have hp:(0:Int) < (expU:Int):=Int.natCast_pos.2 expU_pos
   have e1:v*(expU:Int)*9007199254740992=v*9007199254740992*(expU:Int):=Int.mul_right_comm _ _ _
   constructor
   · constructor
     · intro g
       have:v*9007199254740992*(expU:Int)≤val X*(expU:Int):=by omega
       exact Int.le_of_mul_le_mul_right this hp
     · intro g
       have:=Int.mul_le_mul_of_nonneg_right g (Int.le_of_lt hp)
       omega
   · constructor
     · intro g
       have:val X*(expU:Int)≤v*9007199254740992*(expU:Int):=by omega
       exact Int.le_of_mul_le_mul_right this hp
     · intro g
       have:=Int.mul_le_mul_of_nonneg_right g (Int.le_of_lt hp)
       omega
 have conv2:∀ v:Int,(v*((2 ^ sq:Nat):Int)≤((2 ^ exQ:Nat):Int)*val X↔v*9007199254740992≤val X)∧(((2 ^ exQ:Nat):Int)*val X≤v*((2 ^ sq:Nat):Int)↔val X≤v*9007199254740992):=fun v=>by
   rw [hT,Int.mul_comm ((2 ^ exQ:Nat):Int)]
   exact ⟨⟨fun g=>Int.le_of_mul_le_mul_right g hpQ,fun g=>Int.mul_le_mul_of_nonneg_right g (Int.le_of_lt hpQ)⟩,⟨fun g=>Int.le_of_mul_le_mul_right g hpQ,fun g=>Int.mul_le_mul_of_nonneg_right g (Int.le_of_lt hpQ)⟩⟩
 have G:Faith expU (val m*(expV n:Int)) c:=⟨F.lt,F.le,fun f d ld rd g=>F.low f d ld rd ((conv2 _).1.2 ((conv _).1.1 g)),fun f d ld rd g=>F.high f d ld rd ((conv2 _).2.2 ((conv _).2.1 g)),fun g=>by omega,fun g=>by omega⟩
 -- not above the least normal number
 have cle:rung c≤4503599627370496:=by
   obtain⟨p1,p2,_,p4,p5⟩:=pos_facts 4503599627370496 (by decide)
   obtain⟨q1,q2,q3⟩:=turn_facts 4503599627370496 p1 p2
   rw [show steps 4503599627370496=4503599627370496 by decide +kernel] at p5
   have sx2:steps (rung X)≤9007199254740992*4503599627370496:=sx
   have a1:=F.high fc _ p1 p2 ((conv2 _).2.2 (by rw [p5]; omega))
   have a2:=F.low fc _ q1 q2 ((conv2 _).1.2 (by rw [q3,p5]; omega))
   have h1:=val_nat c
   refine (steps_le_iff _ _).1 ?_
   rw [show steps 4503599627370496=4503599627370496 by decide +kernel]
   omega
 have lc:=F.lt
 have hN:exN=3000:=rfl
 -- and back again
 rcases Nat.eq_zero_or_pos (rung c) with g0 | g0
 · have vc:val c=0:=by
     have h1:=val_nat c
     rw [g0,(steps_zero 0).2 rfl] at h1
     omega
   have cB:=fun w=>ldx_zero c (-n) w (by rw [order_zero_any c lc (by omega)]; exact decide_eq_true g0)
   exact ⟨c,c,fun w=>near_fin m c c n (-n) w (by omega) (by omega) rfl (Lib.hid cL) (Lib.hid (inf_false c lc (by omega))) (Lib.hid cB),G,lc,Or.inl ⟨vc,g0⟩,by omega,fun _=>by rw [vc,Int.zero_mul,Int.zero_mul]⟩
 · rcases Nat.lt_or_ge (rung c) 4503599627370496 with g1 | g1
   · obtain⟨b,cB,lb,sb,b1,b2,b3⟩:=ldexp_lift c (-n) lc (by omega) g1 (by omega) (by omega)
     refine ⟨c,b,fun w=>near_fin m c b n (-n) w (by omega) (by omega) rfl (Lib.hid cL) (Lib.hid (inf_false c lc (by omega))) (Lib.hid cB),G,lb,Or.inr b1,b2,fun _=>val_scale sb ?_⟩
     rw [b3]
     unfold expV expU
     rw [Nat.mul_assoc,←Nat.pow_add]
     exact pow_eq2 _ (by omega)
   · have gc:rung c=4503599627370496:=by omega
     have hrc:rung c=c % 9223372036854775808:=rfl
     obtain⟨i,hi⟩:∃ i:Nat,(i:Int)=1 - n:=⟨(1 - n).toNat,by omega⟩
     obtain⟨b,hb⟩:∃ b,b=c / 9223372036854775808*9223372036854775808+i*4503599627370496:=⟨_,rfl⟩
     have lb:b < 18446744073709551616:=by omega
     have gb:rung b=i*4503599627370496:=by unfold rung; omega
     have ecc:c=c / 9223372036854775808*9223372036854775808+1*4503599627370496+0:=by omega
     have cB:=fun w=>ldexp_exact (c / 9223372036854775808) 1 0 i (-n) w (by omega) (by omega) (by omega) (by omega) (by omega) (by omega) (by omega)
     rw [←ecc,Nat.add_zero,←hb] at cB
     have sb:sgnB b=sgnB c:=by
       unfold sgnB
       exact decide_eq_decide.2 ⟨fun _=>by omega,fun _=>by omega⟩
     refine ⟨c,b,fun w=>near_fin m c b n (-n) w (by omega) (by omega) rfl (Lib.hid cL) (Lib.hid (inf_false c lc (by omega))) (Lib.hid cB),G,lb,Or.inr (by omega),by omega,fun _=>val_scale sb ?_⟩
     obtain⟨j,hj⟩:∃ j,i=j+1:=⟨i - 1,by omega⟩
     have f1:=steps_field (rung b) j (by omega)
     rw [show rung b % 4503599627370496=0 by omega,Nat.add_zero] at f1
     rw [f1,gc,show steps 4503599627370496=4503599627370496 by decide +kernel]
     unfold expV expU
     rw [Nat.mul_assoc,←Nat.pow_add]
     exact pow_eq2 _ (by omega)
theorem near_any (m:Nat) (n:Int) (lm:m < 18446744073709551616) (h0:1021*4503599627370496≤rung m) (h1:rung m < 1025*4503599627370496) (n0:-2200≤n) (n1:n≤2200):∃ c back,NearOf m n c back:=by
 obtain⟨E,hE⟩:∃ E,rung m / 4503599627370496=E:=⟨_,rfl⟩
 have hE0:1021≤E:=by omega
 have hE1:E≤1024:=by omega
 rcases Int.lt_or_le 2046 (n+E) with g | g
 · exact near_over m n E lm hE hE0 hE1 g n1
 rcases Int.lt_or_le 0 (n+E) with g2 | g2
 · obtain⟨c,h,_⟩:=near_norm m n E lm hE hE0 hE1 (by omega) g
   exact ⟨c,m,h⟩
 rcases Int.lt_or_le (n+E) (-52) with g3 | g3
 · exact near_tiny m n E lm hE hE0 hE1 g3 n0
 · exact near_under m n E lm hE hE0 hE1 g2 g3
end
section
open Go.RowKit
def exS:Nat:=1020
def exT:Nat:=1023
def exR:Nat:=1073
theorem steps_quarter:steps (1021*4503599627370496)=2*lowS:=by
 rw [low_km exS _ (by unfold exS; decide),show (4503599627370496:Nat)=2 ^ 52 by decide,pow_sum2 52 exS (1+exG) (by unfold exS exG; omega),Nat.pow_add,Nat.pow_one]
 unfold lowS
 exact Eq.refl _
theorem steps_twice:steps (1024*4503599627370496)=2 ^ (1+sq):=by
 rw [low_km exT _ (by unfold exT; decide),show (4503599627370496:Nat)=2 ^ 52 by decide,pow_sum2 52 exT (1+sq) (by unfold exT sq; omega)]
theorem twice_high:steps (1024*4503599627370496) < highS:=by
 rw [steps_twice]
 exact Nat.pow_lt_pow_right (by decide) (by unfold sq exH; omega)
theorem mid_make {s:Nat} {T:Int} {x y m:Nat} {e f:Int} (hs:0 < s) (D:Down s T x e) (U:Up s T y f) (B:Beside s T m) (h1:2*lowS*s≤T.natAbs) (h2:T.natAbs≤steps (1024*4503599627370496)*s) :
   Mid s T m∧1021*4503599627370496≤rung m∧rung m < 1025*4503599627370496:=by
 obtain⟨k1,k2,_,_,k5⟩:=pos_facts (1024*4503599627370496) (by decide)
 obtain⟨l1,l2,l3⟩:=turn_facts _ k1 k2
 obtain⟨p1,p2,_,_,p5⟩:=pos_facts (1021*4503599627370496) (by decide)
 obtain⟨q1,q2,q3⟩:=turn_facts _ p1 p2
 rw [steps_quarter] at p5
 have ht:=twice_high
 generalize steps (1024*4503599627370496)=K at *
 have hK:K*s < highS*s:=Nat.mul_lt_mul_of_pos_right ht hs
 have i1:((2*lowS*s:Nat):Int)≤(T.natAbs:Int):=Int.ofNat_le.2 h1
 have i2:(T.natAbs:Int)≤((K*s:Nat):Int):=Int.ofNat_le.2 h2
 have i3:((K*s:Nat):Int) < ((highS*s:Nat):Int):=Int.ofNat_lt.2 hK
 have e1:((2*lowS*s:Nat):Int)=((2*lowS:Nat):Int)*(s:Int):=Int.natCast_mul _ _
 have e0:((2*lowS:Nat):Int)=2*(lowS:Int):=Int.natCast_mul _ _
 have e2:((K*s:Nat):Int)=(K:Int)*(s:Int):=Int.natCast_mul _ _
 have e3:((highS*s:Nat):Int)=(highS:Int)*(s:Int):=Int.natCast_mul _ _
 have fK:val (1024*4503599627370496)*(s:Int)=((K*s:Nat):Int):=by rw [k5,e2]
 have fK':val (turnW (1024*4503599627370496))*(s:Int)=-((K*s:Nat):Int):=by rw [l3,Int.neg_mul,fK]
 have fQ:val (1021*4503599627370496)*(s:Int)=((2*lowS*s:Nat):Int):=by rw [p5,e1]
 have fQ':val (turnW (1021*4503599627370496))*(s:Int)=-((2*lowS*s:Nat):Int):=by rw [q3,Int.neg_mul,fQ]
 obtain⟨F,fm⟩:=dir_faith hs D U B _ _ l1 l2 k1 k2 (by rw [fK']; omega) (by rw [fK]; omega)
 have hv:=val_nat m
 refine ⟨⟨hs,F,fm,?_,?_,?_⟩,?_,?_⟩
 · rw [Int.neg_mul,←e0,←e1]; omega
 · rw [←e3]; omega
 · rw [Int.neg_mul,←e3]; omega
 · refine (steps_le_iff _ _).1 ?_
   rw [steps_quarter]
   rcases Int.lt_or_le T 0 with g | g
   · have:=F.high fm _ q1 q2 (by rw [fQ']; omega)
     rw [q3,p5] at this
     omega
   · have:=F.low fm _ p1 p2 (by rw [fQ]; omega)
     rw [p5] at this
     omega
 · have a1:=F.high fm _ k1 k2 (by rw [fK]; omega)
   have a2:=F.low fm _ l1 l2 (by rw [fK']; omega)
   rw [k5] at a1
   rw [l3,k5] at a2
   have:=(steps_le_iff (rung m) (1025*4503599627370496 - 1)).1 (by
     have h3:=steps_le (show 1024*4503599627370496≤1025*4503599627370496 - 1 by decide)
     have h4:(K:Int)=(steps (1024*4503599627370496):Int):=by
       rw [←k5]; exact (pos_facts (1024*4503599627370496) (by decide)).2.2.2.2
     omega)
   omega
theorem back_side {s:Nat} {T:Int} {c back:Nat} {n:Int} (hi:val back*(expV n:Int)=val c*(expU:Int)) :
   (val c*((s*expU:Nat):Int) < T*(expV n:Int)↔val back*(s:Int) < T)∧(T*(expV n:Int) < val c*((s*expU:Nat):Int)↔T < val back*(s:Int)):=by
 have hV:(0:Int) < (expV n:Int):=Int.natCast_pos.2 (expV_pos n)
 have e:val c*((s*expU:Nat):Int)=val back*(s:Int)*(expV n:Int):=by
   rw [Int.natCast_mul,Int.mul_comm (s:Int),←Int.mul_assoc,←hi,Int.mul_right_comm]
 rw [e]
 exact ⟨⟨fun g=>Int.lt_of_mul_lt_mul_right g (Int.le_of_lt hV),fun g=>Int.mul_lt_mul_of_pos_right g hV⟩,⟨fun g=>Int.lt_of_mul_lt_mul_right g (Int.le_of_lt hV),fun g=>Int.mul_lt_mul_of_pos_right g hV⟩⟩
theorem near_dir {s:Nat} {T:Int} {m c back:Nat} {n:Int} {gp gn:Bool} (M:Mid s T m) (n0:-2200≤n) (n1:n≤2200) (N:NearOf m n c back)
   (hp:rung c < 9218868437227405312→gp=decide (val back*(s:Int) < T)) (hn:rung c < 9218868437227405312→gn=decide (T < val back*(s:Int)))
   {s':Nat} {T':Int} (hs':0 < s') (h:T*(expV n:Int)*(s':Int)=T'*((s*expU:Nat):Int)) :
   Down s' T' (sideR c gp gn false).1 (sideR c gp gn false).2∧Up s' T' (sideR c gp gn true).1 (sideR c gp gn true).2:=by
 have F:=mid_faith M n n0 n1 N.f
 have hp2:rung c < 9218868437227405312→gp=decide (val c*((s*expU:Nat):Int) < T*(expV n:Int)):=fun f=>by
   rw [hp f]; exact decide_eq_decide.2 (back_side (N.is f)).1.symm
 have hn2:rung c < 9218868437227405312→gn=decide (T*(expV n:Int) < val c*((s*expU:Nat):Int)):=fun f=>by
   rw [hn f]; exact decide_eq_decide.2 (back_side (N.is f)).2.symm
 have hpos:0 < s*expU:=Nat.mul_pos M.pos expU_pos
 generalize s*expU=P at *
 obtain⟨a1,a2⟩:=faith_dir F hp2 hn2
 exact ⟨Down.scale hpos hs' h a1,Up.scale hpos hs' h a2⟩
theorem Up.exact {s:Nat} {T:Int} {x c:Nat} {e:Int} (hd:Up s T x e) (hs:0 < s) (hc:c < 9218868437227405312) (h:val c*(s:Int)=T):e=0∧x=c:=by
 obtain⟨c1,c2,_,_,_⟩:=pos_facts c hc
 have U:Up s T c 0:=Or.inl ⟨rfl,c1,c2,by omega,fun d _ _ g=>by rw [←h] at g; exact Int.le_of_mul_le_mul_right g (Int.natCast_pos.2 hs)⟩
 have:=hd.unique U
 exact ⟨this.2,this.1⟩
theorem frx_steps (X:Nat) (lo:1022*4503599627370496≤rung X) (hi:rung X < 1023*4503599627370496):2 ^ exR≤steps (rung X)∧steps (rung X)≤2 ^ sq∧∃ M:Int,val X=M*((2 ^ exQ:Nat):Int):=by
 refine ⟨?_,?_,?_⟩
 · have h:=steps_le lo
   rw [low_km exQ _ (by unfold exQ; decide),show (4503599627370496:Nat)=2 ^ 52 by decide,pow_sum2 52 exQ exR (by unfold exQ exR; omega)] at h
   exact h
 · have h:=steps_le (Nat.le_of_lt hi)
   obtain⟨x,hx⟩:∃ x,x=1022:=⟨_,rfl⟩
   rw [low_km x (1023*4503599627370496) (by rw [hx]),show (4503599627370496:Nat)=2 ^ 52 by decide,pow_sum2 52 x sq (by rw [hx]; unfold sq; omega)] at h
   exact h
 · have h:=steps_field (rung X) exQ (by unfold exQ; omega)
   rcases hs:sgnB X
   · exact ⟨((4503599627370496+rung X % 4503599627370496:Nat):Int),by rw [val_pos hs,h,Int.natCast_mul]⟩
   · exact ⟨-((4503599627370496+rung X % 4503599627370496:Nat):Int),by rw [val_negs hs,h,Int.natCast_mul,Int.neg_mul]⟩
theorem sum_in {P:Int} {b:Nat} (hP:P.natAbs≤highS) (hb:rung b < 1200*4503599627370496):(P - val b).natAbs≤steps 9218868437227405311:=by
 have h1:=steps_le (Nat.le_of_lt hb)
 obtain⟨x,hx⟩:∃ x,x=1199:=⟨_,rfl⟩
 rw [low_km x (1200*4503599627370496) (by rw [hx]),show (4503599627370496:Nat)=2 ^ 52 by decide,←Nat.pow_add] at h1
 have h2:2 ^ (52+x)≤2 ^ exZ:=Nat.pow_le_pow_right (by decide) (by rw [hx]; unfold exZ; omega)
 have h3:highS≤2 ^ exZ:=Nat.pow_le_pow_right (by decide) (by unfold exZ exH; omega)
 have h4:=val_nat b
 rw [top_is]
 generalize 2 ^ exZ=Z at *
 generalize 2 ^ (52+x)=Y at *
 omega
theorem frx_val {F X:Nat} {x:Int} (h:FrxOf F X x):val F*((2 ^ exF:Nat):Int)=val X*((2 ^ (x+exF).toNat:Nat):Int):=val_scale h.sgn.symm h.is
theorem refMul_num (a b:Nat) (up:Bool) (w:World) (la:a < 18446744073709551616) (lb:b < 18446744073709551616) (ra:rightB a=true) (rb:rightB b=true) (a0:rung a≠0) (b0:rung b≠0) :
   Calls Tryz.prog 100 #[.float .f64 a,.float .f64 b,.bool up] w fun r w'=>r = .returned (.tuple #[.float .f64 (mulW a b up),.int .i64 (mulE a b up)])∧w=w':=by
 have c1:=fun w=>refRight_any a w la
 have c2:=fun w=>refRight_any b w lb
 rw [ra] at c1
 rw [rb] at c2
 have o:=order_zero_any a la (right_rung a ra)
 have o':=order_zero_any b lb (right_rung b rb)
 rw [decide_eq_false a0] at o
 rw [decide_eq_false b0] at o'
 obtain⟨f,i,hf,cF⟩:=frx_any a la ra a0
 obtain⟨g,k,hg,cG⟩:=frx_any b lb rb b0
 have right_of:∀ X,1022*4503599627370496≤rung X→rung X < 1023*4503599627370496→X < 18446744073709551616→rightB X=true:=fun X h1 h2 h3=>by
   unfold rightB; unfold rung at h1 h2; rw [decide_eq_true (by omega),decide_eq_false (by omega)]; rfl
 have rf:=right_of f hf.lo hf.hi hf.lt
 have rg:=right_of g hg.lo hg.hi hg.lt
 obtain⟨f1,f2,Mf,ef⟩:=frx_steps f hf.lo hf.hi
 obtain⟨g1,g2,Mg,eg⟩:=frx_steps g hg.lo hg.hi
 obtain⟨m,em,B⟩:=mul_beside f g hf.lt hg.lt rf rg
 have D:=(mul_dir f g rf rg false).1 rfl
 have U:=(mul_dir f g rf rg true).2 rfl
 have hp:0 < 2 ^ sq:=Nat.two_pow_pos _
 have hT:(val f*val g).natAbs=steps (rung f)*steps (rung g):=by rw [Int.natAbs_mul,val_nat,val_nat]
 obtain⟨M,m1,m2⟩:=mid_make hp D U B (by
   rw [hT]
   refine Nat.le_trans ?_ (Nat.mul_le_mul f1 g1)
   have:2*lowS*2 ^ sq=2 ^ exR*2 ^ exR:=by
     unfold lowS
     rw [show (2:Nat)*2 ^ exG=2 ^ (1+exG) by rw [Nat.pow_add,Nat.pow_one],←Nat.pow_add,←Nat.pow_add]
     have h:1+exG+sq=exR+exR:=by unfold exG exR sq; omega
     rw [h]
   exact Nat.le_of_eq this) (by
   rw [hT]
   refine Nat.le_trans (Nat.mul_le_mul f2 g2) (Nat.mul_le_mul_right _ ?_)
   rw [steps_twice]
   exact Nat.pow_le_pow_right (by decide) (by omega))
 have n0:-2200≤i+k:=by have:=hf.xlo; have:=hg.xlo; omega
 have n1:i+k≤2200:=by have:=hf.xhi; have:=hg.xhi; omega
 obtain⟨c,back,N⟩:=near_any m (i+k) M.f.lt m1 m2 n0 n1
 obtain⟨k1,k2,k3,k4⟩:=flip_facts back N.lb
 -- the product is whole, and so is what is lacking
 obtain⟨P,hP⟩:∃ P:Int,P*((2 ^ sq:Nat):Int)=val f*val g:=⟨Mf*Mg*((2 ^ 968:Nat):Int),by
   have e1:∀ x y q:Int,x*q*(y*q)=x*y*(q*q):=fun x y q=>by rw [Int.mul_assoc,Int.mul_left_comm q,←Int.mul_assoc]
   rw [ef,eg,e1,Int.mul_assoc,←Int.natCast_mul,←Int.natCast_mul]
   obtain⟨z,hz⟩:∃ z,z=968:=⟨_,rfl⟩
   rw [←hz,pow_sum2 z sq (exQ+exQ) (by rw [hz]; unfold sq exQ; omega),Nat.pow_add]⟩
 have hPi:P.natAbs≤highS:=by
   have h1:=congrArg Int.natAbs hP
   rw [hT,Int.natAbs_mul,Int.natAbs_natCast] at h1
   have h2:=Nat.mul_le_mul f2 g2
   rw [←h1] at h2
   have h3:=Nat.le_of_mul_le_mul_right h2 hp
   have h4:2 ^ sq≤highS:=Nat.pow_le_pow_right (by decide) (by unfold sq exH; omega)
   omega
 obtain⟨d,ed,Nd⟩:=fma_w f g (flipW back) (P - val back) hf.lt hg.lt k1 (right_rung f rf) (right_rung g rg) (by rw [k2]; have:=N.bhi; omega) (by rw [k4,Int.sub_mul,hP,Int.neg_mul]; omega)
 obtain⟨ld,s1,s2⟩:=near_sign Nd (sum_in hPi N.bhi)
 have hpI:(0:Int) < ((2 ^ sq:Nat):Int):=Int.natCast_pos.2 hp
 have t1:val back*((2 ^ sq:Nat):Int) < val f*val g↔0 < P - val back:=by
   rw [←hP]
   exact ⟨fun g=>by have:=Int.lt_of_mul_lt_mul_right g (Int.le_of_lt hpI); omega,fun g=>Int.mul_lt_mul_of_pos_right (by omega) hpI⟩
 have t2:val f*val g < val back*((2 ^ sq:Nat):Int)↔P - val back < 0:=by
   rw [←hP]
   exact ⟨fun g=>by have:=Int.lt_of_mul_lt_mul_right g (Int.le_of_lt hpI); omega,fun g=>Int.mul_lt_mul_of_pos_right (by omega) hpI⟩
 have hsc:val f*val g*(expV (i+k):Int)*((2 ^ sq:Nat):Int)=val a*val b*((2 ^ sq*expU:Nat):Int):=by
   have va:=frx_val hf
   have vb:=frx_val hg
   have hF:(0:Int) < ((2 ^ exF*2 ^ exF:Nat):Int):=Int.natCast_pos.2 (Nat.mul_pos (Nat.two_pow_pos _) (Nat.two_pow_pos _))
   have e4:∀ x y p q:Int,x*y*(p*q)=x*p*(y*q):=fun x y p q=>by rw [Int.mul_assoc,Int.mul_left_comm y,←Int.mul_assoc]
   have hv:val a*val b*((2 ^ exF*2 ^ exF:Nat):Int)=val f*val g*((2 ^ (i+exF).toNat*2 ^ (k+exF).toNat:Nat):Int):=by
     rw [Int.natCast_mul,Int.natCast_mul,e4 (val a) (val b),e4 (val f) (val g),va,vb]
   have hN:exN=3000:=rfl
   have hX:exF=1100:=rfl
   have b1:=hf.xlo
   have b2:=hg.xlo
   have hk:expV (i+k)*(2 ^ exF*2 ^ exF)=2 ^ (i+exF).toNat*2 ^ (k+exF).toNat*expU:=by
     unfold expV expU
     rw [←Nat.pow_add,←Nat.pow_add,←Nat.pow_add,←Nat.pow_add,show (i+k+exN).toNat+(exF+exF)=(i+exF).toNat+(k+exF).toNat+exN by omega]
   have h2:val f*val g*(expV (i+k):Int)*((2 ^ exF*2 ^ exF:Nat):Int)=val a*val b*(expU:Int)*((2 ^ exF*2 ^ exF:Nat):Int):=by
     rw [Int.mul_assoc (val f*val g),←Int.natCast_mul,hk,Int.mul_right_comm (val a*val b),hv,Int.mul_assoc (val f*val g),←Int.natCast_mul]
   rw [Int.eq_of_mul_eq_mul_right (Int.ne_of_gt hF) h2,Int.natCast_mul,Int.mul_assoc,Int.mul_comm (expU:Int)]
 obtain⟨r1,r2⟩:=near_dir (gp:=decide (0 < P - val back)) (gn:=decide (P - val back < 0)) M n0 n1 N (fun _=>decide_eq_decide.2 t1.symm) (fun _=>decide_eq_decide.2 t2.symm) hp hsc
 have cS:=fun w=>refSide_any c d _ _ up w N.f.lt N.f.le s1 s2
 have e:(sideR c (decide (0 < P - val back)) (decide (P - val back < 0)) up).1=mulW a b up∧(sideR c (decide (0 < P - val back)) (decide (P - val back < 0)) up).2=mulE a b up:=by
   cases up
   · exact r1.unique ((mul_dir a b ra rb false).1 rfl)
   · exact r2.unique ((mul_dir a b ra rb true).2 rfl)
 rw [e.1,e.2] at cS
 exact refMul_walk a b f g m c back d _ i k (i+k) _ up w (Lib.hid c1) (Lib.hid c2) o o' (Lib.hid cF) (Lib.hid cG) em (by have:=hf.xlo; omega) (by have:=hf.xhi; omega) (by have:=hg.xlo; omega) (by have:=hg.xhi; omega) rfl (Lib.hid N.call) N.lb ed (Lib.hid cS)
theorem val_at0 (a:Nat) (h:rung a=0):val a=0:=by
 have h1:=val_nat a
 rw [h,(steps_zero 0).2 rfl] at h1
 omega
theorem refMul_all (a b:Nat) (up:Bool) (w:World) (la:a < 18446744073709551616) (lb:b < 18446744073709551616) :
   Calls Tryz.prog 100 #[.float .f64 a,.float .f64 b,.bool up] w fun r w'=>r = .returned (.tuple #[.float .f64 (mulW a b up),.int .i64 (mulE a b up)])∧w=w':=by
 by_cases h:(rightB a&&rightB b)=true
 · obtain⟨ra,rb⟩:=(Bool.and_eq_true _ _).mp h
   by_cases h0:rung a≠0∧rung b≠0
   · exact refMul_num a b up w la lb ra rb h0.1 h0.2
   · have c1:=fun w=>refRight_any a w la
     have c2:=fun w=>refRight_any b w lb
     rw [ra] at c1
     rw [rb] at c2
     have o:=order_zero_any a la (right_rung a ra)
     have o':=order_zero_any b lb (right_rung b rb)
     have hz:val a*val b=0:=by
       by_cases a0:rung a=0
       · rw [val_at0 a a0,Int.zero_mul]
       · rw [val_at0 b (by omega),Int.mul_zero]
     have h00:val 0*((2 ^ sq:Nat):Int)=val a*val b:=by rw [val_0,Int.zero_mul,hz]
     have e:mulE a b up=0∧mulW a b up=0:=by
       cases up
       · exact ((mul_dir a b ra rb false).1 rfl).exact (Nat.two_pow_pos _) (by decide) h00
       · exact ((mul_dir a b ra rb true).2 rfl).exact (Nat.two_pow_pos _) (by decide) h00
     rw [e.1,e.2]
     refine refMul_nil a b up w (Lib.hid c1) (Lib.hid c2) ?_
     by_cases a0:rung a=0
     · left; rw [o]; exact decide_eq_true a0
     · right
       exact ⟨by rw [o]; exact decide_eq_false a0,by rw [o']; exact decide_eq_true (by omega)⟩
 · have e1:mulW a b up=0:=if_neg h
   have e2:mulE a b up=13:=if_neg h
   rw [e1,e2]
   exact refMul_wrong a b (rightB a) (rightB b) up w (by simpa using h) (Lib.hid fun w=>refRight_any a w la) (Lib.hid fun w=>refRight_any b w lb)
end
section
open Go.RowKit
theorem sg_val (s:Bool) (a:Nat) (q:Nat):sg (!(sgnB a == s)) (steps (rung a)*q)=(if s then -(val a*(q:Int)) else val a*(q:Int)):=by
 unfold val
 cases sgnB a <;> cases s <;> simp [sg,Int.natCast_mul,Int.neg_mul]
theorem sg_abs (s:Bool) (A:Nat):(sg s A).natAbs=A:=by
 cases s
 · exact Int.natAbs_natCast A
 · exact (Int.natAbs_neg _).trans (Int.natAbs_natCast A)
theorem div_core {f a b g X V W K I:Nat} (Y:Nat) (hX:0 < X) (h1:a*X=f*I) (h2:b*X=g*K) (hk:V*K=I*W):f*Y*V*b=a*Y*(g*W):=by
 refine Nat.eq_of_mul_eq_mul_right hX ?_
 grind
theorem refDiv_num (a b:Nat) (up:Bool) (w:World) (la:a < 18446744073709551616) (lb:b < 18446744073709551616) (ra:rightB a=true) (rb:rightB b=true) (a0:rung a≠0) (b0:rung b≠0) :
   Calls Tryz.prog 136 #[.float .f64 a,.float .f64 b,.bool up] w fun r w'=>r = .returned (.tuple #[.float .f64 (divW a b up),.int .i64 (divE a b up)])∧w=w':=by
 have c1:=fun w=>refRight_any a w la
 have c2:=fun w=>refRight_any b w lb
 rw [ra] at c1
 rw [rb] at c2
 have o:=order_zero_any a la (right_rung a ra)
 have o':=order_zero_any b lb (right_rung b rb)
 rw [decide_eq_false a0] at o
 rw [decide_eq_false b0] at o'
 obtain⟨f,i,hf,cF⟩:=frx_any a la ra a0
 obtain⟨g,k,hg,cG⟩:=frx_any b lb rb b0
 have right_of:∀ X,1022*4503599627370496≤rung X→rung X < 1023*4503599627370496→X < 18446744073709551616→rightB X=true:=fun X h1 h2 h3=>by
   unfold rightB; unfold rung at h1 h2; rw [decide_eq_true (by omega),decide_eq_false (by omega)]; rfl
 have rf:=right_of f hf.lo hf.hi hf.lt
 have rg:=right_of g hg.lo hg.hi hg.lt
 obtain⟨f1,f2,Mf,ef⟩:=frx_steps f hf.lo hf.hi
 obtain⟨g1,g2,Mg,eg⟩:=frx_steps g hg.lo hg.hi
 have nb:∀ x,rung x≠0→x≠0:=fun x h h2=>h (by rw [h2]; rfl)
 have g0:g≠0:=nb g (by have:=hg.lo; omega)
 obtain⟨m,em,B⟩:=div_beside f g hf.lt hg.lt rf rg g0
 have D:=(div_dir f g rf rg hg.lt g0 false).1 rfl
 have U:=(div_dir f g rf rg hg.lt g0 true).2 rfl
 have hp:0 < 2 ^ sq:=Nat.two_pow_pos _
 have hpI:(0:Int) < ((2 ^ sq:Nat):Int):=Int.natCast_pos.2 hp
 have hs:0 < steps (rung g):=Nat.lt_of_lt_of_le (Nat.two_pow_pos _) g1
 obtain⟨T,eT⟩:∃ T,T=sg (!(sgnB f == sgnB g)) (steps (rung f)*2 ^ sq):=⟨_,rfl⟩
 rw [←eT] at B D U
 have hT:T.natAbs=steps (rung f)*2 ^ sq:=by
   rw [eT]; exact sg_abs _ _
 have hR:2*2 ^ exR=2 ^ sq:=by
   rw [show (2:Nat)*2 ^ exR=2 ^ (1+exR) by rw [Nat.pow_add,Nat.pow_one],show 1+exR=sq by unfold exR sq; omega]
 have hG:2*lowS≤2 ^ exR:=by
   unfold lowS
   rw [show (2:Nat)*2 ^ exG=2 ^ (1+exG) by rw [Nat.pow_add,Nat.pow_one]]
   exact Nat.pow_le_pow_right (by decide) (by unfold exG exR; omega)
 obtain⟨M,m1,m2⟩:=mid_make hs D U B (by
   rw [hT]
   exact Nat.mul_le_mul (Nat.le_trans hG f1) g2) (by
   rw [hT,steps_twice,Nat.mul_comm (2 ^ (1+sq))]
   have e1:(2:Nat) ^ (1+sq)=2*2 ^ sq:=by rw [Nat.pow_add,Nat.pow_one]
   rw [e1,←Nat.mul_assoc]
   exact Nat.mul_le_mul_right _ (by omega))
 have n0:-2200≤i - k:=by have:=hf.xlo; have:=hg.xhi; omega
 have n1:i - k≤2200:=by have:=hf.xhi; have:=hg.xlo; omega
 obtain⟨c,back,N⟩:=near_any m (i - k) M.f.lt m1 m2 n0 n1
 obtain⟨k1,k2,k3,k4⟩:=flip_facts back N.lb
 -- what comes back, times the divisor, is whole
 obtain⟨P,hP,hPi⟩:∃ P:Int,P*((2 ^ sq:Nat):Int)=val back*val g∧P.natAbs≤steps (rung back):=by
   have bound:∀ P:Int,P*((2 ^ sq:Nat):Int)=val back*val g→P.natAbs≤steps (rung back):=fun P hP=>by
     have h1:=congrArg Int.natAbs hP
     rw [Int.natAbs_mul,Int.natAbs_mul,Int.natAbs_natCast,val_nat,val_nat] at h1
     have h2:=Nat.mul_le_mul_left (steps (rung back)) g2
     rw [←h1] at h2
     exact Nat.le_of_mul_le_mul_right h2 hp
   rcases N.bin with ⟨v0,_⟩ | hb
   · exact ⟨0,by rw [v0,Int.zero_mul,Int.zero_mul],bound 0 (by rw [v0,Int.zero_mul,Int.zero_mul])⟩
   · obtain⟨E,hE⟩:∃ E,rung back / 4503599627370496=E+1:=⟨_,(Nat.sub_add_cancel (by omega)).symm⟩
     have hE1:800≤E:=by omega
     have fb:=steps_field (rung back) E hE
     obtain⟨Mb,eb⟩:∃ Mb:Int,val back=Mb*((2 ^ E:Nat):Int):=by
       rcases hs:sgnB back
       · exact ⟨((4503599627370496+rung back % 4503599627370496:Nat):Int),by rw [val_pos hs,fb,Int.natCast_mul]⟩
       · exact ⟨-((4503599627370496+rung back % 4503599627370496:Nat):Int),by rw [val_negs hs,fb,Int.natCast_mul,Int.neg_mul]⟩
     have hP:(Mb*Mg*((2 ^ (E+exQ - sq):Nat):Int))*((2 ^ sq:Nat):Int)=val back*val g:=by
       have e1:∀ x y p q:Int,x*p*(y*q)=x*y*(p*q):=fun x y p q=>by rw [Int.mul_assoc,Int.mul_left_comm p,←Int.mul_assoc]
       rw [eb,eg,e1,Int.mul_assoc,←Int.natCast_mul,←Int.natCast_mul,pow_sum2 (E+exQ - sq) sq (E+exQ) (by unfold sq exQ; omega),Nat.pow_add]
     exact ⟨_,hP,bound _ hP⟩
 have hS:(val f - P).natAbs≤steps 9218868437227405311:=by
   have h1:=sum_in (P:=val f) (b:=back) (by rw [val_nat]; exact Nat.le_trans f2 (Nat.pow_le_pow_right (by decide) (by unfold sq exH; omega))) N.bhi
   have h2:=sum_in (P:=-val f) (b:=back) (by rw [Int.natAbs_neg,val_nat]; exact Nat.le_trans f2 (Nat.pow_le_pow_right (by decide) (by unfold sq exH; omega))) N.bhi
   have h3:=val_nat back
   omega
 obtain⟨d,ed,Nd⟩:=fma_w (flipW back) g f (val f - P) k1 hg.lt hf.lt (by rw [k2]; have:=N.bhi; omega) (right_rung g rg) (right_rung f rf) (by rw [k4,Int.sub_mul,hP,Int.neg_mul]; omega)
 obtain⟨ld,s1,s2⟩:=near_sign Nd hS
 have q1:val f*((2 ^ sq:Nat):Int) - val back*val g=(val f - P)*((2 ^ sq:Nat):Int):=by rw [Int.sub_mul,hP]
 have q2:(0:Int) < (val f - P)*((2 ^ sq:Nat):Int)↔0 < val f - P:=⟨fun h=>by
     rcases Int.lt_or_le 0 (val f - P) with g | g
     · exact g
     · have:=Int.mul_le_mul_of_nonneg_right g (Int.le_of_lt hpI); rw [Int.zero_mul] at this; omega,fun h=>Int.mul_pos h hpI⟩
 have q3:(val f - P)*((2 ^ sq:Nat):Int) < 0↔val f - P < 0:=⟨fun h=>by
     rcases Int.lt_or_le (val f - P) 0 with g | g
     · exact g
     · have:=Int.mul_nonneg g (Int.le_of_lt hpI); omega,fun h=>Int.mul_neg_of_neg_of_pos h hpI⟩
 have eT2:=eT
 rw [sg_val] at eT2
 -- by the power
 have hsb:0 < steps (rung b):=by
   rcases Nat.eq_zero_or_pos (steps (rung b)) with h | h
   · exact absurd ((steps_zero _).1 h) b0
   · exact h
 have hsc:T*(expV (i - k):Int)*((steps (rung b):Nat):Int)=sg (!(sgnB a == sgnB b)) (steps (rung a)*2 ^ sq)*((steps (rung g)*expU:Nat):Int):=by
   have hN:exN=3000:=rfl
   have hX:exF=1100:=rfl
   have b1:=hf.xlo
   have b2:=hg.xlo
   have hk:expV (i - k)*2 ^ (k+exF).toNat=2 ^ (i+exF).toNat*expU:=by
     unfold expV expU
     rw [←Nat.pow_add,←Nat.pow_add,show (i - k+exN).toNat+(k+exF).toNat=(i+exF).toNat+exN by omega]
   have core:=div_core (2 ^ sq) (Nat.two_pow_pos exF) hf.is hg.is hk
   rw [eT,hf.sgn,hg.sgn]
   unfold sg
   split
   · rw [Int.neg_mul,Int.neg_mul,Int.neg_mul,←Int.natCast_mul,←Int.natCast_mul,←Int.natCast_mul,core]
   · rw [←Int.natCast_mul,←Int.natCast_mul,←Int.natCast_mul,core]
 have bn:b≠0:=nb b b0
 have fin:∀ (gp gn:Bool) (d':Nat),(gp=decide (val back*((steps (rung g):Nat):Int) < T))→(gn=decide (T < val back*((steps (rung g):Nat):Int)))→(FloatKind.f64.format.order d' 0 == some Ordering.gt)=gp→(FloatKind.f64.format.order d' 0 == some Ordering.lt)=gn→RefS c d' up (divW a b up) (divE a b up):=fun gp gn d' h1 h2 o1 o2=>by
   obtain⟨r1,r2⟩:=near_dir (gp:=gp) (gn:=gn) M n0 n1 N (fun _=>h1) (fun _=>h2) hsb hsc
   have cS:=fun w=>refSide_any c d' _ _ up w N.f.lt N.f.le o1 o2
   have e:(sideR c gp gn up).1=divW a b up∧(sideR c gp gn up).2=divE a b up:=by
     cases up
     · exact r1.unique ((div_dir a b ra rb lb bn false).1 rfl)
     · exact r2.unique ((div_dir a b ra rb lb bn true).2 rfl)
   rw [e.1,e.2] at cS
   exact cS
 obtain⟨l1,l2⟩:=sign_facts g hg.lt (right_rung g rg)
 cases sg':sgnB g
 · have vg:=val_pos sg'
   rw [sg',if_neg Bool.false_ne_true] at eT2
   have cS:=fin (decide (0 < val f - P)) (decide (val f - P < 0)) d (decide_eq_decide.2 (by rw [←q2,←q1,eT2,←vg]; omega)) (decide_eq_decide.2 (by rw [←q3,←q1,eT2,←vg]; omega)) s1 s2
   exact refDiv_pos a b f g m c back d _ i k (i - k) _ up w (Lib.hid c1) (Lib.hid c2) o' o (Lib.hid cF) (Lib.hid cG) em (by have:=hf.xlo; omega) (by have:=hf.xhi; omega) (by have:=hg.xlo; omega) (by have:=hg.xhi; omega) rfl (Lib.hid N.call) N.lb ed
     (by rw [l2,vg]; exact decide_eq_false (by omega)) (Lib.hid cS)
 · have vg:=val_negs sg'
   rw [sg',if_pos rfl] at eT2
   obtain⟨d1,d2,d3,d4⟩:=flip_facts d ld
   have fd:=Nd.small hS
   obtain⟨x1,x2⟩:=sign_facts d ld fd
   obtain⟨y1,y2⟩:=sign_facts (flipW d) d1 (by rw [d2]; exact fd)
   have z1:(FloatKind.f64.format.order (flipW d) 0 == some Ordering.gt)=decide (val f - P < 0):=by
     rw [y1,d4,←s2,x2]; exact decide_eq_decide.2 (by omega)
   have z2:(FloatKind.f64.format.order (flipW d) 0 == some Ordering.lt)=decide (0 < val f - P):=by
     rw [y2,d4,←s1,x1]; exact decide_eq_decide.2 (by omega)
   have hg2:val back*((steps (rung g):Nat):Int)=-(val back*val g):=by rw [vg,Int.mul_neg]; omega
   have cS:=fin _ _ (flipW d) (decide_eq_decide.2 (by rw [←q3,←q1,eT2,hg2]; omega)) (decide_eq_decide.2 (by rw [←q2,←q1,eT2,hg2]; omega)) z1 z2
   exact refDiv_neg a b f g m c back d _ i k (i - k) _ up w (Lib.hid c1) (Lib.hid c2) o' o (Lib.hid cF) (Lib.hid cG) em (by have:=hf.xlo; omega) (by have:=hf.xhi; omega) (by have:=hg.xlo; omega) (by have:=hg.xhi; omega) rfl (Lib.hid N.call) N.lb ed
     (by rw [l2,vg]; exact decide_eq_true (by omega)) ld (Lib.hid cS)
theorem refDiv_all (a b:Nat) (up:Bool) (w:World) (la:a < 18446744073709551616) (lb:b < 18446744073709551616) :
   Calls Tryz.prog 136 #[.float .f64 a,.float .f64 b,.bool up] w fun r w'=>r = .returned (.tuple #[.float .f64 (divW a b up),.int .i64 (divE a b up)])∧w=w':=by
 by_cases h:(rightB a&&rightB b)=true
 · obtain⟨ra,rb⟩:=(Bool.and_eq_true _ _).mp h
   have c1:=fun w=>refRight_any a w la
   have c2:=fun w=>refRight_any b w lb
   rw [ra] at c1
   rw [rb] at c2
   have o:=order_zero_any a la (right_rung a ra)
   have o':=order_zero_any b lb (right_rung b rb)
   have rz:∀ x,x < 18446744073709551616→rightB x=true→rung x=0→x=0:=fun x hx rx h=>by
     have:=right_ne x rx
     unfold rung at h; omega
   by_cases b0:rung b=0
   · have hb:=rz b lb rb b0
     have e1:divW a b up=0:=by
       refine if_neg ?_
       rw [decide_eq_true hb]; simp
     have e2:divE a b up=11:=(if_pos h).trans (if_pos hb)
     rw [e1,e2]
     exact refDiv_nil a b up w (Lib.hid c1) (Lib.hid c2) (by rw [o']; exact decide_eq_true b0)
   · by_cases a0:rung a=0
     · have bn:b≠0:=fun h2=>b0 (by rw [h2]; rfl)
       have hsb:0 < steps (rung b):=by
         rcases Nat.eq_zero_or_pos (steps (rung b)) with h | h
         · exact absurd ((steps_zero _).1 h) b0
         · exact h
       have h00:val 0*((steps (rung b):Nat):Int)=sg (!(sgnB a == sgnB b)) (steps (rung a)*2 ^ sq):=by
         rw [val_0,Int.zero_mul,a0,(steps_zero 0).2 rfl,Nat.zero_mul]
         cases (!(sgnB a == sgnB b)) <;> rfl
       have e:divE a b up=0∧divW a b up=0:=by
         cases up
         · exact ((div_dir a b ra rb lb bn false).1 rfl).exact hsb (by decide) h00
         · exact ((div_dir a b ra rb lb bn true).2 rfl).exact hsb (by decide) h00
       rw [e.1,e.2]
       exact refDiv_zero a b up w (Lib.hid c1) (Lib.hid c2) (by rw [o']; exact decide_eq_false b0) (by rw [o]; exact decide_eq_true a0)
     · exact refDiv_num a b up w la lb ra rb a0 b0
 · have e1:divW a b up=0:=if_neg (fun h2=>h (by rw [Bool.and_eq_true] at h2; exact h2.1))
   have e2:divE a b up=13:=if_neg h
   rw [e1,e2]
   exact refDiv_wrong a b (rightB a) (rightB b) up w (by simpa using h) (Lib.hid fun w=>refRight_any a w la) (Lib.hid fun w=>refRight_any b w lb)
end
section
open Go.RowKit
theorem quo_exact (a b c:Nat) (ha:a < 18446744073709551616) (hb:b < 18446744073709551616) (ra:rightB a=true) (rb:rightB b=true) (hb0:b≠0) (hsb:0 < steps (rung b)) (hc:c < 18446744073709551616) (rc:rightB c=true) (h0:val c≠0)
   (h:val c*((steps (rung b):Nat):Int)=sg (!(sgnB a == sgnB b)) (steps (rung a)*2 ^ sq)):floatBits .quo .f64 a b=some c:=by
 obtain⟨r,hr,hB⟩:=div_beside a b ha hb ra rb hb0
 have hp:(0:Int) < ((steps (rung b):Nat):Int):=Int.natCast_pos.2 hsb
 generalize sg (!(sgnB a == sgnB b)) (steps (rung a)*2 ^ sq)=T at *
 generalize steps (rung b)=s at *
 obtain⟨b1,b2,b3⟩:=hB c c (Or.inl ⟨rfl,hc,rc,by omega,fun d _ _ hd=>Int.le_of_mul_le_mul_right (by omega:val d*(s:Int)≤val c*(s:Int)) hp⟩)
   (Or.inl ⟨rfl,hc,rc,by omega,fun d _ _ hd=>Int.le_of_mul_le_mul_right (by omega:val c*(s:Int)≤val d*(s:Int)) hp⟩)
 have hv:val r=val c:=by rcases b3 with h | h <;> exact h
 have rr:rightB r=true:=by
   unfold rightB
   rw [decide_eq_true (show r % 9223372036854775808 < 9218868437227405312 from b2),decide_eq_false]
   · rfl
   · intro h
     subst h
     have:val 9223372036854775808=0:=by decide
     exact h0 (hv.symm.trans this)
 rw [hr,val_inj b1 hc rr rc hv]
theorem rootZ_near {X m D U:Nat} (h1:1≤m) (F1:∀ r,steps r*steps r≤X↔r≤D) (F2:∀ r,X≤steps r*steps r↔U≤r) (hm:m=D∨m=U) :
   (X < steps m*steps m→steps (m - 1)*steps (m - 1)≤X)∧(steps m*steps m≤X→X < steps (m+1)*steps (m+1))∧(steps m*steps m < X→X≤steps (m+1)*steps (m+1))∧(X≤steps m*steps m→steps (m - 1)*steps (m - 1) < X):=by
 have sq_lt':∀ x y,x < y→steps x*steps x < steps y*steps y:=fun x y h=>by
   have:=steps_lt h
   exact Nat.mul_lt_mul_of_lt_of_lt this this
 have a1:=F1 m
 have a2:=F2 m
 have a3:=F1 (m - 1)
 have a4:=F2 (m - 1)
 have a5:=F1 (m+1)
 have a6:=F2 (m+1)
 have s1:=sq_lt' (m - 1) m (by omega)
 have s2:=sq_lt' m (m+1) (by omega)
 generalize steps (m - 1)*steps (m - 1)=A at *
 generalize steps m*steps m=B at *
 generalize steps (m+1)*steps (m+1)=C at *
 refine ⟨fun h=>?_,fun h=>?_,fun h=>?_,fun h=>?_⟩
 · rcases Nat.lt_or_ge X A with g | g
   · exfalso
     have:=a2.1 (by omega)
     have:=a4.1 (by omega)
     rcases hm with hm | hm <;> omega
   · exact g
 · omega
 · omega
 · omega
theorem steps_shift (j j':Nat) (n:Int) (h1:4503599627370496≤j) (h2:4503599627370496≤j') (h:(j':Int)=j+n*4503599627370496) (n0:-2200≤n):steps j'*expU=steps j*expV n:=by
 obtain⟨E,hE⟩:∃ E,j / 4503599627370496=E+1:=⟨_,(Nat.sub_add_cancel (by omega)).symm⟩
 obtain⟨E',hE'⟩:∃ E',j' / 4503599627370496=E'+1:=⟨_,(Nat.sub_add_cancel (by omega)).symm⟩
 have f1:=steps_field j E hE
 have f2:=steps_field j' E' hE'
 have hN:exN=3000:=rfl
 rw [f1,f2,show j' % 4503599627370496=j % 4503599627370496 by omega]
 unfold expU expV
 rw [Nat.mul_assoc,Nat.mul_assoc,←Nat.pow_add,←Nat.pow_add]
 exact pow_eq2 _ (by omega)
theorem sq_shift {x y U V:Nat} (h:x*U=y*V):x*x*(U*U)=y*y*(V*V):=by
 rw [Nat.mul_mul_mul_comm,h,Nat.mul_mul_mul_comm]
theorem beside_pos (c:Nat) (h0:4503599627370496 < c) (h1:c < 9000000000000000000):plainW c=c∧stepW c true=c+1∧stepW c false=c - 1∧stepE c true=0∧stepE c false=0:=by
 have b1:besideW c true=c+1:=by
   unfold besideW
   rw [if_neg (by omega),if_pos (decide_eq_true (by omega)).symm]
 have b2:besideW c false=c - 1:=by
   unfold besideW
   rw [if_neg (by omega),decide_eq_true (by omega),if_neg (by decide)]
 have r1:rung (c+1)=c+1:=by unfold rung; omega
 have r2:rung (c - 1)=c - 1:=by unfold rung; omega
 refine ⟨?_,?_,?_,?_,?_⟩
 · unfold plainW
   exact if_neg (by unfold rung; omega)
 · unfold stepW
   rw [b1,r1,if_neg (by omega),if_neg (by omega)]
 · unfold stepW
   rw [b2,r2,if_neg (by omega),if_neg (by omega)]
 · unfold stepE
   rw [b1,r1,if_neg (by omega)]
 · unfold stepE
   rw [b2,r2,if_neg (by omega)]
theorem root_lo:steps (1022*4503599627370496)*steps (1022*4503599627370496)=2*lowS*2 ^ sq:=by
 rw [low_km exQ _ (by unfold exQ; decide),show (4503599627370496:Nat)=2 ^ 52 by decide,pow_sum2 52 exQ exR (by unfold exQ exR; omega)]
 unfold lowS
 rw [show (2:Nat)*2 ^ exG=2 ^ (1+exG) by rw [Nat.pow_add,Nat.pow_one],←Nat.pow_add,←Nat.pow_add,show exR+exR=1+exG+sq by unfold exG exR sq; omega]
theorem root_hi:steps (1023*4503599627370496)=2 ^ sq:=by
 obtain⟨x,hx⟩:∃ x,x=1022:=⟨_,rfl⟩
 rw [low_km x (1023*4503599627370496) (by rw [hx]),show (4503599627370496:Nat)=2 ^ 52 by decide,pow_sum2 52 x sq (by rw [hx]; unfold sq; omega)]
theorem floor_at {P:Nat→Prop} {D c:Nat} (F:∀ r,P r↔r≤D) (h1:P c) (h2:¬ P (c+1)):D=c:=by
 have a1:=(F c).1 h1
 have a2:¬ (c+1≤D):=fun h=>h2 ((F (c+1)).2 h)
 omega
theorem ceil_at {P:Nat→Prop} {U c:Nat} (F:∀ r,P r↔U≤r) (h1:P c) (h2:¬ P (c - 1)) (h0:1≤c):U=c:=by
 have a1:=(F c).1 h1
 have a2:¬ (U≤c - 1):=fun h=>h2 ((F (c - 1)).2 h)
 omega
theorem root_side (a h:Nat) (n:Int) (ra:rightB a=true) (sa:sgnB a=false) (lh:h < 18446744073709551616) (rh:rightB h=true) (sh:sgnB h=false) (h1:2*lowS≤steps (rung h)) (h2:steps (rung h)≤2 ^ sq) (n0:-600≤n) (n1:n≤600)
   (is:steps (rung a)*(expU*expU)=steps (rung h)*(expV n*expV n)) :
   ∃ m c d,FloatKind.f64.format.sqrt h=some m∧NearOf m n c m∧m < 18446744073709551616∧FloatKind.f64.format.fma (flipW m) m h=some d∧∀ up,RefS c d up (sqrtW a up) (sqrtE a up):=by
 obtain⟨m,em,lm,rm,hm⟩:=sqrt_beside h lh rh sh
 obtain⟨_,p2,p3,_⟩:=sqrt_rungs h rh sh false
 obtain⟨_,q2,_,q4⟩:=sqrt_rungs h rh sh true
 have F1:=p3 rfl
 have F2:=q4 rfl
 have hp:0 < 2 ^ sq:=Nat.two_pow_pos _
 have word:∀ D,D≤9218868437227405311→val m=val D→m=D:=fun D hD hv=>by
   obtain⟨d1,d2,_,_,_⟩:=pos_facts D (by omega)
   exact val_inj lm d1 rm d2 hv
 have hm':m=sqrtW h false∨m=sqrtW h true:=by
   rcases hm with g | g
   · exact Or.inl (word _ p2 g)
   · exact Or.inr (word _ q2 g)
 clear hm word p3 q4
 generalize sqrtW h false=D at *
 generalize sqrtW h true=U at *
 -- the root is from a half to 1
 have lo:1022*4503599627370496≤D:=(F1 _).1 (by rw [root_lo]; exact Nat.mul_le_mul_right _ h1)
 have hi:U≤1023*4503599627370496:=(F2 _).1 (by rw [root_hi]; exact Nat.mul_le_mul_right _ h2)
 have hDU:D≤U:=by
   rcases Nat.lt_or_ge U D with g | g
   · have a1:=(F1 D).2 (Nat.le_refl _)
     have a2:=(F2 U).2 (Nat.le_refl _)
     have a3:=steps_lt g
     have a4:=Nat.mul_lt_mul_of_lt_of_lt a3 a3
     omega
   · exact g
 have hUD:U≤D+1:=(F2 _).1 (by
   have a1:=fun g=>(F1 (D+1)).1 g
   rcases Nat.lt_or_ge (steps (D+1)*steps (D+1)) (steps (rung h)*2 ^ sq) with g | g
   · have:=a1 (Nat.le_of_lt g); omega
   · exact g)
 have m1:1022*4503599627370496≤m:=by omega
 have m2:m≤1023*4503599627370496:=by omega
 have gm:rung m=m:=by unfold rung; omega
 have sm:sgnB m=false:=decide_eq_false (by omega)
 obtain⟨E,hE⟩:∃ E,m / 4503599627370496=E+1:=⟨_,(Nat.sub_add_cancel (by omega)).symm⟩
 obtain⟨c,N,sc',gc⟩:=near_norm m n (E+1) lm (by rw [gm]; exact hE) (by omega) (by omega) (by omega) (by omega)
 have lc:=N.f.lt
 have cc:rung c=c:=by unfold sgnB at sc' sm; unfold rung; rw [sm] at sc'; have:=of_decide_eq_false sc'; omega
 rw [cc,gm] at gc
 obtain⟨k1,k2,k3,k4⟩:=flip_facts m lm
 obtain⟨w1,w2,w3,w4⟩:=rootZ_near (by omega) F1 F2 hm'
 have vm:val m=(steps m:Int):=by rw [val_pos sm,gm]
 have vh:val h=(steps (rung h):Int):=val_pos sh
 -- the square is whole
 have fm:=steps_field m E hE
 obtain⟨P,hP⟩:∃ P:Nat,P*2 ^ sq=steps m*steps m:=⟨(4503599627370496+m % 4503599627370496)*(4503599627370496+m % 4503599627370496)*2 ^ (E+E - sq),by
   rw [fm,Nat.mul_assoc,pow_sum2 (E+E - sq) sq (E+E) (by unfold sq; omega),Nat.pow_add,Nat.mul_mul_mul_comm]⟩
 have hPi:P≤2 ^ sq:=by
   have a1:=steps_le m2
   rw [root_hi] at a1
   have a2:=Nat.mul_le_mul a1 a1
   rw [←hP] at a2
   exact Nat.le_of_mul_le_mul_right a2 hp
 have hS:(val h - (P:Int)).natAbs≤steps 9218868437227405311:=by
   have a1:2*2 ^ sq≤highS:=by
     rw [show (2:Nat)*2 ^ sq=2 ^ (1+sq) by rw [Nat.pow_add,Nat.pow_one]]
     exact Nat.pow_le_pow_right (by decide) (by unfold sq exH; omega)
   have a2:=high_top
   rw [vh]
   generalize 2 ^ sq=Y at *
   omega
 have hPI:(P:Int)*((2 ^ sq:Nat):Int)=val m*val m:=by rw [vm,←Int.natCast_mul,←Int.natCast_mul,hP]
 obtain⟨d,ed,Nd⟩:=fma_w (flipW m) m h (val h - P) k1 lm lh (by rw [k2]; exact right_rung m rm) (right_rung m rm) (right_rung h rh) (by rw [k4,Int.sub_mul,hPI,Int.neg_mul]; omega)
 obtain⟨ld,s1,s2⟩:=near_sign Nd hS
 have t1:0 < val h - P↔steps m*steps m < steps (rung h)*2 ^ sq:=by
   rw [vh,←hP]
   exact ⟨fun g=>Nat.mul_lt_mul_of_pos_right (by omega) hp,fun g=>by have:=Nat.lt_of_mul_lt_mul_right g; omega⟩
 have t2:val h - P < 0↔steps (rung h)*2 ^ sq < steps m*steps m:=by
   rw [vh,←hP]
   exact ⟨fun g=>Nat.mul_lt_mul_of_pos_right (by omega) hp,fun g=>by have:=Nat.lt_of_mul_lt_mul_right g; omega⟩
 -- the number's root
 obtain⟨ea,_,pa,_⟩:=sqrt_rungs a ra sa false
 obtain⟨eb,_,_,pb⟩:=sqrt_rungs a ra sa true
 have G1:=pa rfl
 have G2:=pb rfl
 clear pa pb
 have hc0:400*4503599627370496≤c:=by omega
 have hc1:c < 1700*4503599627370496:=by omega
 obtain⟨b1,b2,b3,b4,b5⟩:=beside_pos c (by omega) (by omega)
 have conv:∀ j j':Nat,4503599627370496≤j→4503599627370496≤j'→(j':Int)=j+n*4503599627370496→(steps j'*steps j'≤steps (rung a)*2 ^ sq↔steps j*steps j≤steps (rung h)*2 ^ sq)∧(steps (rung a)*2 ^ sq≤steps j'*steps j'↔steps (rung h)*2 ^ sq≤steps j*steps j):=fun j j' g1 g2 g3=>by
   have e1:=sq_shift (steps_shift j j' n g1 g2 g3 (by omega))
   have e2:steps (rung a)*2 ^ sq*(expU*expU)=steps (rung h)*2 ^ sq*(expV n*expV n):=by rw [Nat.mul_right_comm,is,Nat.mul_right_comm]
   have hU:0 < expU*expU:=Nat.mul_pos expU_pos expU_pos
   have hV:0 < expV n*expV n:=Nat.mul_pos (expV_pos n) (expV_pos n)
   generalize expU*expU=A at *
   generalize expV n*expV n=B at *
   generalize steps j'*steps j'=x at *
   generalize steps j*steps j=y at *
   generalize steps (rung a)*2 ^ sq=u at *
   generalize steps (rung h)*2 ^ sq=v at *
   constructor
   · exact ⟨fun g=>by have:=Nat.mul_le_mul_right A g; rw [e1,e2] at this; exact Nat.le_of_mul_le_mul_right this hV,fun g=>by have:=Nat.mul_le_mul_right B g; rw [←e1,←e2] at this; exact Nat.le_of_mul_le_mul_right this hU⟩
   · exact ⟨fun g=>by have:=Nat.mul_le_mul_right A g; rw [e1,e2] at this; exact Nat.le_of_mul_le_mul_right this hV,fun g=>by have:=Nat.mul_le_mul_right B g; rw [←e1,←e2] at this; exact Nat.le_of_mul_le_mul_right this hU⟩
 have x0:=conv m c (by omega) (by omega) (by omega)
 have x1:=conv (m+1) (c+1) (by omega) (by omega) (by omega)
 have x2:=conv (m - 1) (c - 1) (by omega) (by omega) (by omega)
 have sr:∀ up,sideR c (decide (0 < val h - P)) (decide (val h - P < 0)) up=(sqrtW a up,sqrtE a up):=fun up=>by
   have e1:sideR c (decide (0 < val h - P)) (decide (val h - P < 0)) up=sideF c (decide (0 < val h - P)) (decide (val h - P < 0)) up:=if_neg (by rw [cc]; omega)
   rw [e1]
   unfold sideF
   rw [b1]
   cases up
   · rw [ea,if_neg Bool.false_ne_true]
     by_cases g:val h - P < 0
     · rw [decide_eq_true g,if_pos rfl,b3,b5]
       have g':=t2.1 g
       have:=floor_at G1 (x2.1.2 (w1 g')) (by rw [show c - 1+1=c by omega,x0.1]; omega)
       rw [this]
     · rw [decide_eq_false g,if_neg Bool.false_ne_true]
       have g':steps m*steps m≤steps (rung h)*2 ^ sq:=by have:=mt t2.2 g; omega
       have:=floor_at G1 (x0.1.2 g') (by rw [x1.1]; have:=w2 g'; omega)
       rw [this]
   · rw [eb,if_pos rfl]
     by_cases g:0 < val h - P
     · rw [decide_eq_true g,if_pos rfl,b2,b4]
       have g':=t1.1 g
       have:=ceil_at G2 (x1.2.2 (w3 g')) (by rw [show c+1 - 1=c by omega,x0.2]; omega) (by omega)
       rw [this]
     · rw [decide_eq_false g,if_neg Bool.false_ne_true]
       have g':steps (rung h)*2 ^ sq≤steps m*steps m:=by have:=mt t1.2 g; omega
       have:=ceil_at G2 (x0.2.2 g') (by rw [x2.2]; have:=w4 g'; omega) (by omega)
       rw [this]
 refine ⟨m,c,d,em,N,lm,ed,fun up w=>?_⟩
 have cS:=refSide_any c d _ _ up w lc N.f.le s1 s2
 rw [sr up] at cS
 exact cS
theorem refSqrt_num (a:Nat) (up:Bool) (w:World) (la:a < 18446744073709551616) (ra:rightB a=true) (sa:sgnB a=false) (a0:rung a≠0) :
   Calls Tryz.prog 86 #[.float .f64 a,.bool up] w fun r w'=>r = .returned (.tuple #[.float .f64 (sqrtW a up),.int .i64 (sqrtE a up)])∧w=w':=by
 have c1:=fun w=>refRight_any a w la
 rw [ra] at c1
 have fa:=right_rung a ra
 have o:=order_zero_any a la fa
 rw [decide_eq_false a0] at o
 obtain⟨_,o2⟩:=sign_facts a la fa
 rw [val_pos sa,decide_eq_false (by omega)] at o2
 obtain⟨f,i,hf,cF⟩:=frx_any a la ra a0
 have gf:rung f=f:=by
   have:=hf.sgn
   rw [sa] at this
   have:=of_decide_eq_false this
   unfold rung; omega
 have sf:sgnB f=false:=by rw [hf.sgn,sa]
 have lo:=hf.lo
 have hi:=hf.hi
 rw [gf] at lo hi
 have rf:rightB f=true:=(pos_facts f (by omega)).2.1
 obtain⟨f1,f2,_⟩:=frx_steps f hf.lo hf.hi
 have hlow:2*lowS≤2 ^ exR:=by
   unfold lowS
   rw [show (2:Nat)*2 ^ exG=2 ^ (1+exG) by rw [Nat.pow_add,Nat.pow_one]]
   exact Nat.pow_le_pow_right (by decide) (by unfold exG exR; omega)
 have hN:exN=3000:=rfl
 have hX:exF=1100:=rfl
 have y0:=hf.xlo
 have y1:=hf.xhi
 have hFp:0 < 2 ^ exF:=Nat.two_pow_pos _
 by_cases hpar:i.tmod 2=0
 · obtain⟨n,hn⟩:∃ n,i=2*n:=⟨i.tdiv 2,by have:=Int.mul_tdiv_add_tmod i 2; omega⟩
   have hd:i.tdiv 2=n:=by rw [hn]; exact Int.mul_tdiv_cancel_left n (by decide)
   have is:steps (rung a)*(expU*expU)=steps (rung f)*(expV n*expV n):=by
     refine Nat.eq_of_mul_eq_mul_right hFp ?_
     rw [Nat.mul_right_comm,hf.is]
     unfold expU expV
     rw [Nat.mul_assoc,Nat.mul_assoc,←Nat.pow_add,←Nat.pow_add,←Nat.pow_add,←Nat.pow_add]
     exact pow_eq2 _ (by omega)
   obtain⟨m,c,d,em,N,lm,ed,cS⟩:=root_side a f n ra sa hf.lt rf sf (Nat.le_trans hlow f1) f2 (by omega) (by omega) is
   exact refSqrt_even a f m c m d _ i n _ up w (Lib.hid c1) o2 o (Lib.hid cF) hpar hd (by omega) (by omega) (Lib.hid fun w=>sqrt_call f m em w) (Lib.hid N.call) lm ed (Lib.hid (cS up))
 · obtain⟨n,hn⟩:∃ n,i+1=2*n:=by
     rcases Int.emod_two_eq i with h | h
     · exact absurd (Int.tmod_eq_zero_of_dvd (Int.dvd_of_emod_eq_zero h)) hpar
     · exact ⟨(i+1) / 2,by omega⟩
   have hd:(i+1).tdiv 2=n:=by rw [hn]; exact Int.mul_tdiv_cancel_left n (by decide)
   obtain⟨h,hh⟩:∃ h,h=f - 4503599627370496:=⟨_,rfl⟩
   obtain⟨z1,z2,z3,z4,z5⟩:=pos_facts h (by omega)
   have st:steps (rung h)*2=steps (rung f):=by
     rw [z4,gf]
     obtain⟨E,hE⟩:∃ E,h / 4503599627370496=E+1:=⟨_,(Nat.sub_add_cancel (by omega)).symm⟩
     have u1:=steps_field h E hE
     have u2:=steps_field f (E+1) (by omega)
     rw [u1,u2,show f % 4503599627370496=h % 4503599627370496 by omega,Nat.pow_add,Nat.pow_one,Nat.mul_assoc]
   have two:steps (rung 4611686018427387904)=2*2 ^ sq:=by
     rw [show rung 4611686018427387904=1024*4503599627370496 by decide,steps_twice,Nat.pow_add,Nat.pow_one]
   have eh:=quo_exact f 4611686018427387904 h hf.lt (by decide) rf (by decide) (by decide) (by rw [two]; exact Nat.mul_pos (by decide) (Nat.two_pow_pos _)) z1 z2 (by
       rw [z5]
       have:steps h≠0:=fun k=>by have:=(steps_zero h).1 k; omega
       omega) (by
       rw [two,sf,z5,←z4,←st]
       show _=(((steps (rung h)*2*2 ^ sq:Nat)):Int)
       rw [←Int.natCast_mul,Nat.mul_assoc])
   have is:steps (rung a)*(expU*expU)=steps (rung h)*(expV n*expV n):=by
     refine Nat.eq_of_mul_eq_mul_right hFp ?_
     rw [Nat.mul_right_comm,hf.is,←st]
     unfold expU expV
     rw [Nat.mul_assoc,Nat.mul_assoc,Nat.mul_assoc,←Nat.pow_add,←Nat.pow_add,←Nat.pow_add,←Nat.pow_add,show (2:Nat)*2 ^ ((i+exF).toNat+(exN+exN))=2 ^ (1+((i+exF).toNat+(exN+exN))) by rw [Nat.pow_add 2 1,Nat.pow_one]]
     exact pow_eq2 _ (by omega)
   have hh1:2*lowS≤steps (rung h):=by
     have e:2 ^ exR=2*lowS*2:=by
       unfold lowS
       rw [show (2:Nat)*2 ^ exG=2 ^ (1+exG) by rw [Nat.pow_add,Nat.pow_one],show exR=1+exG+1 by unfold exG exR; omega,Nat.pow_add 2 (1+exG),Nat.pow_one]
     rw [e,←st] at f1
     exact Nat.le_of_mul_le_mul_right f1 (by decide)
   obtain⟨m,c,d,em,N,lm,ed,cS⟩:=root_side a h n ra sa z1 z2 z3 hh1 (by omega) (by omega) (by omega) is
   exact refSqrt_odd a f h m c m d _ i n _ up w (Lib.hid c1) o2 o (Lib.hid cF) (by omega) (by omega) hpar eh hd (by omega) (by omega) (Lib.hid fun w=>sqrt_call h m em w) (Lib.hid N.call) lm ed (Lib.hid (cS up))
theorem refSqrt_all (a:Nat) (up:Bool) (w:World) (la:a < 18446744073709551616) :
   Calls Tryz.prog 86 #[.float .f64 a,.bool up] w fun r w'=>r = .returned (.tuple #[.float .f64 (sqrtW a up),.int .i64 (sqrtE a up)])∧w=w':=by
 have c1:=fun w=>refRight_any a w la
 cases ra:rightB a
 · rw [ra] at c1
   have e1:sqrtW a up=0:=if_neg (by rw [ra]; simp)
   have e2:sqrtE a up=13:=if_neg (by rw [ra]; exact Bool.false_ne_true)
   rw [e1,e2]
   exact refSqrt_wrong a up w (Lib.hid c1)
 have fa:=right_rung a ra
 have o:=order_zero_any a la fa
 obtain⟨_,o2⟩:=sign_facts a la fa
 cases sa:sgnB a
 · by_cases a0:rung a=0
   · rw [ra] at c1
     rw [decide_eq_true a0] at o
     rw [val_at0 a a0] at o2
     have hz:a=0:=by have:=right_ne a ra; unfold rung at a0; omega
     have e:sqrtW a up=0∧sqrtE a up=0:=by
       rw [hz]
       cases up <;> decide
     rw [e.1,e.2]
     exact refSqrt_zero a up w (Lib.hid c1) o2 o
   · exact refSqrt_num a up w la ra sa a0
 · rw [ra] at c1
   have e1:sqrtW a up=0:=if_neg (by rw [sa]; simp)
   have e2:sqrtE a up=12:=(if_pos ra).trans (if_pos sa)
   rw [e1,e2]
   have hz:steps (rung a)≠0:=fun h=>by
     have:=(steps_zero _).1 h
     have h3:=right_ne a ra
     have h2:=of_decide_eq_true sa
     unfold rung at this; omega
   exact refSqrt_neg a up w (Lib.hid c1) (by rw [o2,val_negs sa]; exact decide_eq_true (by omega))
end
end Go.Proofs.YtnaomilkgfkegaaGreat
