/- What the claim stands on, part 13: QTA. -/
import Derived.Test.YtnaomilkgfkegaaGreatWA11
import Derived.LoopTactic
import Derived.Test.YtnaomilkgfkegaaGreatWA0
import Derived.Deep.RegionHeld3
import Derived.IntWalk
import Derived.Deep.CutRange
namespace Go.Proofs.YtnaomilkgfkegaaGreat
section
open Go.RowKit
def pointW (x y:Nat) (up:Bool):Nat→Nat
 | 0=>addW x y up | 1=>subW x y up | 2=>mulW x y up | 3=>divW x y up | 4=>minW x y | 5=>maxW x y | 6=>mulW x x up | 7=>sqrtW x up | 8=>turnW x | 9=>maxW x (turnW x) | _=>x
def pointE (x y:Nat) (up:Bool):Nat→Int
 | 0=>addE x y up | 1=>subE x y up | 2=>mulE x y up | 3=>divE x y up | 6=>mulE x x up | 7=>sqrtE x up | _=>0
end
section
open Go.RowKit
theorem down_up {s:Nat} {T:Int} {c c':Nat} (hs:0 < s) (d:Down s T c 0) (u:Up s T c' 0):val c≤val c':=by
 obtain⟨-,-,d1,-⟩:=d.ok
 obtain⟨-,-,u1,-⟩:=u.ok
 exact Int.le_of_mul_le_mul_right (Int.le_trans d1 u1) (by omega:(0:Int) < s)
theorem turn_zero_or {x:Nat} (lx:x < 18446744073709551616) (rx:rightB x=true) (h:val x≤0):turnW x=maxW x (turnW x):=by
 obtain⟨t1,t2,t3⟩:=turn_facts x lx rx
 unfold maxW
 by_cases g:val x < val (turnW x)
 · rw [if_pos g]
 · rw [if_neg g]
   exact val_inj t1 lx t2 rx (by omega)
theorem self_or {x:Nat} (lx:x < 18446744073709551616) (rx:rightB x=true) (h:0≤val x):x=maxW x (turnW x):=by
 obtain⟨t1,t2,t3⟩:=turn_facts x lx rx
 unfold maxW
 rw [if_neg (by omega)]
theorem rung_half (x:Nat):rung (x+9223372036854775808)=rung x:=by unfold rung; omega
theorem mul_turn (x:Nat) (lx:x < 18446744073709551616) (rx:rightB x=true) (up:Bool):mulW (turnW x) (turnW x) up=mulW x x up∧mulE (turnW x) (turnW x) up=mulE x x up:=by
 unfold turnW
 by_cases h0:x=0
 · rw [if_pos h0,h0]; exact ⟨rfl,rfl⟩
 · have h1:=(turn_facts x lx rx).2.1
   unfold turnW at h1
   rw [if_neg h0] at h1 ⊢
   by_cases h:x < 9223372036854775808
   · rw [if_pos h] at h1 ⊢
     have e1:mant (x+9223372036854775808)=mant x:=by unfold mant; rw [rung_half]
     have e2:expo (x+9223372036854775808)=expo x:=by unfold expo; rw [rung_half]
     unfold mulW mulE
     rw [e1,e2,h1,rx]; simp
   · rw [if_neg h] at h1 ⊢
     obtain⟨y,hy⟩:∃ y,y=x - 9223372036854775808:=⟨_,rfl⟩
     have hx:x=y+9223372036854775808:=by omega
     rw [←hy] at h1 ⊢
     have e1:mant (y+9223372036854775808)=mant y:=by unfold mant; rw [rung_half]
     have e2:expo (y+9223372036854775808)=expo y:=by unfold expo; rw [rung_half]
     unfold mulW mulE
     rw [hx] at rx ⊢
     rw [e1,e2,h1,rx]; simp
theorem ends_one (x:Nat) (u:Bool):endW x x u=x:=by unfold endW; split <;> rfl
theorem low_one (x b:Nat):lowOf x x b=x:=by unfold lowOf; split <;> rfl
theorem high_one (x b:Nat):highOf x x b=x:=by unfold highOf; split <;> rfl
theorem sqrt_down_up (x:Nat) (lx:x < 18446744073709551616) (rx:rightB x=true) (hv:0≤val x):val (sqrtW x false)≤val (sqrtW x true):=by
 have sx:=(sgn_of_val x lx rx).1 hv
 obtain⟨p1,p2,p3,_⟩:=sqrt_rungs x rx sx false
 obtain⟨q1,q2,_,q4⟩:=sqrt_rungs x rx sx true
 have m:=(p3 rfl _).2 (Nat.le_refl _)
 have n:=(q4 rfl _).2 (Nat.le_refl _)
 have w:∀ x,x≤9218868437227405311→val x=(steps x:Int):=fun x hx=>by
   have:=(sw_facts false x hx).2.2
   rw [sw_false] at this
   exact this
 rw [w _ p2,w _ q2]
 exact Int.ofNat_le.2 (Nat.le_of_not_lt fun hlt=>Nat.lt_irrefl _ (Nat.lt_of_lt_of_le (Nat.mul_self_lt_mul_self hlt) (Nat.le_trans m n)))
theorem same_4d (x y:Nat):pointW x y false 4=minW x y:=rfl
theorem same_4u (x y:Nat):pointW x y true 4=minW x y:=rfl
theorem same_4 (x y:Nat):pointW x y false 4=pointW x y true 4:=(same_4d x y).trans (same_4u x y).symm
theorem same_5d (x y:Nat):pointW x y false 5=maxW x y:=rfl
theorem same_5u (x y:Nat):pointW x y true 5=maxW x y:=rfl
theorem same_5 (x y:Nat):pointW x y false 5=pointW x y true 5:=(same_5d x y).trans (same_5u x y).symm
theorem same_8d (x y:Nat):pointW x y false 8=turnW x:=rfl
theorem same_8u (x y:Nat):pointW x y true 8=turnW x:=rfl
theorem same_8 (x y:Nat):pointW x y false 8=pointW x y true 8:=(same_8d x y).trans (same_8u x y).symm
theorem same_9d (x y:Nat):pointW x y false 9=maxW x (turnW x):=rfl
theorem same_9u (x y:Nat):pointW x y true 9=maxW x (turnW x):=rfl
theorem same_9 (x y:Nat):pointW x y false 9=pointW x y true 9:=(same_9d x y).trans (same_9u x y).symm
theorem same_10d (x y:Nat):pointW x y false 10=x:=rfl
theorem same_10u (x y:Nat):pointW x y true 10=x:=rfl
theorem same_10 (x y:Nat):pointW x y false 10=pointW x y true 10:=(same_10d x y).trans (same_10u x y).symm
def One (x y j:Nat):Prop:=askI x x y y j=⟨0,pointW x y false j,pointW x y true j⟩∧pointE x y false j=0∧pointE x y true j=0∧val (pointW x y false j)≤val (pointW x y true j)
section
variable (x y:Nat) (lx:x < 18446744073709551616) (ly:y < 18446744073709551616) (rx:rightB x=true) (ry:rightB y=true)
include rx ry in
theorem one_0 (h:(askI x x y y 0).e=0):One x y 0:=by
 unfold One
 obtain⟨e1,e2,e3⟩:=tight_e h
 have d:=add_down x y rx ry
 have u:=add_up x y rx ry
 rw [e1] at d; rw [e2] at u
 exact ⟨e3,e1,e2,down_up (by decide) d u⟩
include rx ry in
theorem one_1 (h:(askI x x y y 1).e=0):One x y 1:=by
 unfold One
 obtain⟨e1,e2,e3⟩:=tight_e h
 have d:=sub_down x y rx ry
 have u:=sub_up x y rx ry
 rw [e1] at d; rw [e2] at u
 exact ⟨e3,e1,e2,down_up (by decide) d u⟩
include rx ry in
theorem one_2 (h:(askI x x y y 2).e=0):One x y 2:=by
 unfold One
 have cx:=cross_one x
 have cy:=cross_one y
 have e5:askI x x y y 2=mul1 x x y y:=by
   show mulI x x y y=_
   unfold mulI mulJ
   rw [cx,cy,Bool.false_and,if_neg Bool.false_ne_true,if_neg Bool.false_ne_true]
 rw [e5] at h ⊢
 unfold mul1 at h ⊢
 simp only [ends_one,low_one,high_one] at h ⊢
 obtain⟨e1,e2,e3⟩:=tight_e h
 have d:=(mul_dir x y rx ry false).1 rfl
 have u:=(mul_dir x y rx ry true).2 rfl
 rw [e1] at d; rw [e2] at u
 exact ⟨e3,e1,e2,down_up two_sq d u⟩
include rx ly ry in
theorem one_3 (h:(askI x x y y 3).e=0):One x y 3:=by
 unfold One
 have e5:askI x x y y 3=divI x x y y:=rfl
 rw [e5] at h ⊢
 unfold divI at h ⊢
 by_cases hz:hasB y y 0=true
 · rw [if_pos hz] at h; exact absurd h (by decide)
 · rw [if_neg hz] at h ⊢
   unfold div1 at h ⊢
   simp only [ends_one,low_one,high_one] at h ⊢
   obtain⟨e1,e2,e3⟩:=tight_e h
   refine ⟨e3,e1,e2,?_⟩
   show val (divW x y false)≤val (divW x y true)
   rcases Int.lt_trichotomy (val y) 0 with g | g | g
   · obtain⟨s,hs,hs',d1,_⟩:=div_neg x y rx ly ry g false
     obtain⟨s',ht,ht',_,d2⟩:=div_neg x y rx ly ry g true
     have hss:s'=s:=by omega
     subst hss
     have d:=d1 rfl
     have u:=d2 rfl
     rw [e1] at d; rw [e2] at u
     exact down_up hs d u
   · exfalso
     rw [has_zero ly ly (ivR_one y ry),g] at hz
     exact hz (by decide)
   · obtain⟨s,hs,hs',d1,_⟩:=div_pos x y rx ly ry g false
     obtain⟨s',ht,ht',_,d2⟩:=div_pos x y rx ly ry g true
     have hss:s'=s:=by omega
     subst hss
     have d:=d1 rfl
     have u:=d2 rfl
     rw [e1] at d; rw [e2] at u
     exact down_up hs d u
theorem one_4 (_:(askI x x y y 4).e=0):One x y 4:=by
 unfold One
 exact ⟨rfl,rfl,rfl,Int.le_of_eq (congrArg val (same_4 x y))⟩
theorem one_5 (_:(askI x x y y 5).e=0):One x y 5:=by
 unfold One
 exact ⟨rfl,rfl,rfl,Int.le_of_eq (congrArg val (same_5 x y))⟩
include lx rx in
theorem one_6 (h:(askI x x y y 6).e=0):One x y 6:=by
 unfold One
 have ha:(absLo x x=x∨absLo x x=turnW x)∧(absHi x x=x∨absHi x x=turnW x):=by
   unfold absLo absHi leB
   rw [val_nil]
   by_cases g:0≤val x
   · rw [decide_eq_true g,if_pos rfl,if_pos rfl]; exact ⟨Or.inl rfl,Or.inl rfl⟩
   · rw [decide_eq_false g,if_neg Bool.false_ne_true,if_neg Bool.false_ne_true,decide_eq_true (by omega:val x≤0),if_pos rfl,if_pos rfl]; exact ⟨Or.inr rfl,Or.inr rfl⟩
 have e5:askI x x y y 6=tightR (mulW x x false) (mulE x x false) (mulW x x true) (mulE x x true):=by
   show sqrI x x=_
   unfold sqrI
   obtain⟨m1,m2⟩:=mul_turn x lx rx false
   obtain⟨n1,n2⟩:=mul_turn x lx rx true
   rcases ha with ⟨hl | hl,hr | hr⟩ <;> rw [hl,hr] <;> (try rw [m1,m2]) <;> (try rw [n1,n2])
 rw [e5] at h ⊢
 obtain⟨e1,e2,e3⟩:=tight_e h
 have d:=(mul_dir x x rx rx false).1 rfl
 have u:=(mul_dir x x rx rx true).2 rfl
 rw [e1] at d; rw [e2] at u
 exact ⟨e3,e1,e2,down_up two_sq d u⟩
include lx rx in
theorem one_7 (h:(askI x x y y 7).e=0):One x y 7:=by
 unfold One
 have e5:askI x x y y 7=sqrtI x x:=rfl
 rw [e5] at h ⊢
 unfold sqrtI at h ⊢
 by_cases hz:ltB x 0=true
 · rw [if_pos hz] at h; exact absurd h (by decide)
 · rw [if_neg hz] at h ⊢
   obtain⟨e1,e2,e3⟩:=tight_e h
   refine ⟨e3,e1,e2,?_⟩
   show val (sqrtW x false)≤val (sqrtW x true)
   exact sqrt_down_up x lx rx (by unfold ltB at hz; rw [val_nil] at hz; simp at hz; exact hz)
theorem one_8 (_:(askI x x y y 8).e=0):One x y 8:=by
 unfold One
 exact ⟨rfl,rfl,rfl,Int.le_of_eq (congrArg val (same_8 x y))⟩
include lx rx in
theorem one_9 (_:(askI x x y y 9).e=0):One x y 9:=by
 unfold One
 have e5:askI x x y y 9=⟨0,maxW x (turnW x),maxW x (turnW x)⟩:=by
   show absI x x=_
   unfold absI absLo absHi leB
   rw [val_nil]
   by_cases g:0≤val x
   · rw [decide_eq_true g,if_pos rfl,if_pos rfl,←self_or lx rx g]
   · rw [decide_eq_false g,if_neg Bool.false_ne_true,if_neg Bool.false_ne_true,decide_eq_true (by omega:val x≤0),if_pos rfl,if_pos rfl,←turn_zero_or lx rx (by omega)]
 exact ⟨e5,rfl,rfl,Int.le_of_eq (congrArg val (same_9 x y))⟩
include rx in
theorem one_10 (_:(askI x x y y 10).e=0):One x y 10:=by
 unfold One
 have e5:askI x x y y 10=⟨0,x,x⟩:=by show ofI x=_; unfold ofI; rw [if_pos rx]
 exact ⟨e5,rfl,rfl,Int.le_of_eq (congrArg val (same_10 x y))⟩
end
theorem ask_one (x y j:Nat) (hj:j < 11) (lx:x < 18446744073709551616) (ly:y < 18446744073709551616) (rx:rightB x=true) (ry:rightB y=true) (h:(askI x x y y j).e=0):One x y j:=by
 rcases (show j=0∨j=1∨j=2∨j=3∨j=4∨j=5∨j=6∨j=7∨j=8∨j=9∨j=10 by omega) with rfl | rfl | rfl | rfl | rfl | rfl | rfl | rfl | rfl | rfl | rfl
 · exact one_0 x y rx ry h
 · exact one_1 x y rx ry h
 · exact one_2 x y rx ry h
 · exact one_3 x y ly rx ry h
 · exact one_4 x y  h
 · exact one_5 x y  h
 · exact one_6 x y lx rx h
 · exact one_7 x y lx rx h
 · exact one_8 x y  h
 · exact one_9 x y lx rx h
 · exact one_10 x y rx h
theorem ask_holds (al ah bl bh x y j:Nat) (hj:j < 11) (la:al < 18446744073709551616) (ha:ah < 18446744073709551616) (lb:bl < 18446744073709551616) (hb:bh < 18446744073709551616) (lx:x < 18446744073709551616) (ly:y < 18446744073709551616)
   (r1:ivR al ah=true) (r2:ivR bl bh=true) (rx:rightB x=true) (ry:rightB y=true) (h1:val al≤val x) (h2:val x≤val ah) (h3:val bl≤val y) (h4:val y≤val bh) (h10:j=10→al=ah) (h:(askI al ah bl bh j).e=0) :
   ivR (askI al ah bl bh j).lo (askI al ah bl bh j).hi=true∧pointE x y false j=0∧pointE x y true j=0∧val (askI al ah bl bh j).lo≤val (pointW x y false j)∧val (pointW x y true j)≤val (askI al ah bl bh j).hi:=by
 obtain⟨w1,w2,w3⟩:=ask_within al ah bl bh x x y y j hj la ha lb hb lx lx ly ly r1 r2 (ivR_one x rx) (ivR_one y ry) h1 h2 h3 h4 h10 h
 obtain⟨o1,o2,o3,o4⟩:=ask_one x y j hj lx ly rx ry w1
 rw [o1] at w2 w3
 obtain⟨n1,n2,n3,n4⟩:=ask_nums al ah bl bh j hj la ha lb hb r1 r2 h
 refine ⟨?_,o2,o3,w2,w3⟩
 unfold ivR leB
 rw [n2,n4,decide_eq_true (Int.le_trans w2 (Int.le_trans o4 w3))]; rfl
end
section
open Go.RowKit
attribute [local go_sem] run_store_float
def boundI (lo hi:Nat):Res:=⟨0,meetLo lo hi 13830554455654793216 4607182418800017408,meetHi lo hi 13830554455654793216 4607182418800017408⟩
def eighth:Nat→Nat
 | 0=>4593671619917905920 | 1=>4600427019358961664 | 2=>4603804719079489536 | _=>4606056518893174784
def qN (x:Nat):Nat:=if val x < val (eighth 0) then 0 else if val x < val (eighth 1) then 1 else if val x < val (eighth 2) then 2 else if val x < val (eighth 3) then 3 else 4
end
section
open Go.RowKit
section
variable {P:Program} {ops:Array Oper} {Q:Exit→Act→World→Prop} {md:Region.Mode} {S:World→Prop}
def wpAnyV (P:Program) (md:Region.Mode) (ops:Array Oper) (Q:Exit→Act→World→Prop) (S:World→Prop) (T:List Nat):Nat→Array Bool→Act→World→Prop
 | 0,listed,a,w=>Region.ready md ops listed=[]∧Q .normal a w
 | n+1,listed,a,w=>(Region.ready md ops listed=[]→Q .normal a w) ∧
     ∀ i,i∈Region.ready md ops listed→wpOp P ops Q i (fun b v=>(i∈T∨S v)∧wpAnyV P md ops Q S T n (listed.setIfInBounds i true) b v) a w
def ClosedL (md:Region.Mode) (ops:Array Oper) (listed:Array Bool):Prop:=
 ∀ j q,ops[j]? = some q→listed.getD j false=true→∀ e,e∈q.after→Region.binds md e=true→listed.getD e.on false=true
def closedB (md:Region.Mode) (ops:Array Oper) (listed:Array Bool):Bool:=
 (List.range ops.size).all fun j=>match ops[j]? with
   | some q => !listed.getD j false || q.after.all fun e => !Region.binds md e || listed.getD e.on false
   | none=>true
theorem closed_of {listed:Array Bool} (h:closedB md ops listed=true):ClosedL md ops listed:=by
 intro j q hq hl e he hb
 unfold closedB at h
 rw [List.all_eq_true] at h
 have hj:j < ops.size:=by
   rcases Nat.lt_or_ge j ops.size with g | g
   · exact g
   · simp [Array.getElem?_eq_none g] at hq
 have k:=h j (by simp [hj])
 rw [hq] at k
 simp only [hl,Bool.not_true,Bool.false_or,Array.all_eq_true] at k
 obtain⟨m,hm,rfl⟩:=Array.mem_iff_getElem.1 he
 have k2:=k m hm
 rw [hb] at k2
 simpa using k2
theorem getD_set_true (listed:Array Bool) (i k:Nat) (h:listed.getD k false=true):(listed.setIfInBounds i true).getD k false=true:=by
 simp only [Array.getD_eq_getD_getElem?] at h ⊢
 rw [Array.getElem?_setIfInBounds]
 by_cases hk:i=k
 · subst hk
   by_cases hs:i < listed.size
   · simp [hs]
   · simp [Array.getElem?_eq_none (Nat.le_of_not_lt hs)] at h
 · simp [hk]; simpa using h
theorem closed_set {listed:Array Bool} {i:Nat} (h:ClosedL md ops listed) (hi:i∈Region.ready md ops listed):ClosedL md ops (listed.setIfInBounds i true):=by
 intro j q hq hl e he hb
 by_cases hj:i=j
 · subst hj
   obtain⟨_,q',hq',hall⟩:=mem_ready.1 hi
   rw [hq] at hq'
   cases hq'
   exact getD_set_true _ _ _ (hall e he hb)
 · refine getD_set_true _ _ _ (h j q hq ?_ e he hb)
   simp only [Array.getD_eq_getD_getElem?] at hl ⊢
   rw [Array.getElem?_setIfInBounds] at hl
   simpa [hj] using hl
variable {T:List Nat}
theorem tails_any:∀ (n:Nat) (listed:Array Bool) (a:Act) (w:World),wpAnyV P md ops Q S T n listed a w→wpAny P md ops Q n listed a w
 | 0,_,_,_,h=>h
 | n+1,_,_,_,h=>⟨h.1,fun i hi=>wpOp_mono (fun b v k=>tails_any n _ b v k.2) (h.2 i hi)⟩
def waitsFor (md:Region.Mode) (ops:Array Oper) (L i:Nat):Bool:=
 match ops[L]? with
 | some q=>q.after.any fun e=>Region.binds md e&&(e.on == i || (match ops[e.on]? with
     | some q'=>q'.after.any fun e'=>Region.binds md e'&&e'.on == i
     | none=>false))
 | none=>true
theorem waits_listed {listed:Array Bool} {L i:Nat} (hc:ClosedL md ops listed) (hL:L∈Region.ready md ops listed) (h:waitsFor md ops L i=true):listed.getD i false=true:=by
 obtain⟨_,q,hq,hall⟩:=mem_ready.1 hL
 unfold waitsFor at h
 rw [hq] at h
 simp only [Array.any_eq_true,Bool.and_eq_true,Bool.or_eq_true,beq_iff_eq] at h
 obtain⟨k,hk,hb,hor⟩:=h
 have hl:=hall _ (Array.getElem_mem hk) hb
 rcases hor with rfl | hor
 · exact hl
 · cases hq':ops[q.after[k].on]? with
   | none=>rw [hq'] at hor; simp at hor
   | some q' =>
     rw [hq'] at hor
     simp only [Array.any_eq_true,Bool.and_eq_true,beq_iff_eq] at hor
     obtain⟨m,hm,hb',rfl⟩:=hor
     exact hc _ q' hq' hl _ (Array.getElem_mem hm) hb'
theorem tails_first {i:Nat} {o:Oper} {x:Value} (hi:ops[i]? = some o) (hsel:∀ (j:Nat) (q:Oper) cs b,ops[j]? = some q→q.op ≠ .select cs b) (hQ:∀ c a w,Q (.panic c) (a.put o.dst x) w→Q (.panic c) a w)
   (hL:∀ L,L∈T→waitsFor md ops L i=true) (n:Nat) :
   ∀ (listed:Array Bool) (a:Act) (w:World),ClosedL md ops listed→(∀ j q,ops[j]? = some q→j≠i→listed.getD j true=false→(∀ e∈q.after,Region.binds md e=true→e.on≠i)→o.apart ops q=true) →
     i∈Region.ready md ops listed→YieldsIf P ops S o x a→S w→wpAnyV P md ops Q S T n (listed.setIfInBounds i true) (a.put o.dst x) w→wpAnyV P md ops Q S T (n+1) listed a w:=by
 have unl:∀ {listed:Array Bool},i∈Region.ready md ops listed→listed.getD i false=true→False:=by
   intro listed hr h1
   have h0:=(mem_ready.1 hr).1
   rcases Nat.lt_or_ge i listed.size with g | g
   · simp [g] at h0 h1; rw [h0] at h1; cases h1
   · simp [Array.getElem?_eq_none g] at h1
 have wait:∀ {listed:Array Bool} {j:Nat} {q:Oper},i∈Region.ready md ops listed→(∀ e∈q.after,Region.binds md e=true→listed.getD e.on false=true)→∀ e∈q.after,Region.binds md e=true→e.on≠i:=by
   intro listed j q hr hall e he hb heq
   have h1:=hall e he hb
   rw [heq] at h1
   exact unl hr h1
 induction n with
 | zero =>
   intro listed a w _ _ hr hy hS H
   refine ⟨fun h=>absurd hr (by rw [h]; simp),fun j hj=>?_⟩
   rcases Nat.decEq j i with hne | rfl
   · exact absurd (ready_mono hj hne) (by rw [H.1]; simp)
   · exact hy.wpOp hi hS ⟨Or.inr hS,H⟩
 | succ n ih =>
   intro listed a w hcl hfree hr hy hS H
   refine ⟨fun h=>absurd hr (by rw [h]; simp),fun j hj=>?_⟩
   rcases Nat.decEq j i with hne | rfl
   · obtain⟨un,q,hq,hall⟩:=mem_ready.1 hj
     have away:=wait (j:=j) hr hall
     have step:=wpOp_putIf hq (hfree j q hq hne un away) (fun cs b=>hsel i o cs b hi) (fun cs b=>hsel j q cs b hq) hQ hy (H.2 j (ready_mono hj hne))
     have still:i∈Region.ready md ops (listed.setIfInBounds j true):=ready_mono hr (Ne.symm hne)
     have hcl':=closed_set hcl hj
     refine wpOp_mono (fun b v k=>?_) step
     obtain⟨yb,ks,kt⟩:=k
     have ks':S v:=by
       rcases ks with ks | ks
       · exact absurd (waits_listed hcl hj (hL j ks)) (fun h=>unl hr h)
       · exact ks
     refine ⟨Or.inr ks',ih _ b v hcl' (fun l r hl hli hun hno=>hfree l r hl hli ?_ hno) still yb ks' ?_⟩
     · by_cases g:j=l
       · subst g; exact un
       · rw [getD_set_ne true g] at hun; exact hun
     · rw [Array.setIfInBounds_comm _ _ hne]
       exact kt
   · exact hy.wpOp hi hS ⟨Or.inr hS,H⟩
theorem tails_take {i:Nat} {o:Oper} {x:Value} {n:Nat} {listed:Array Bool} {a:Act} {w:World} (hi:ops[i]? = some o) (hs:Region.noSelect ops=true) (hf:Region.free md ops listed i=true) (hr:(Region.ready md ops listed).contains i=true)
   (hl:(closedB md ops listed&&T.all fun L=>waitsFor md ops L i)=true) (hQ:∀ c a w,Q (.panic c) (a.put o.dst x) w→Q (.panic c) a w) (hy:YieldsIf P ops S o x a) (hS:S w)
   (h:wpAnyV P md ops Q S T n (listed.setIfInBounds i true) (a.put o.dst x) w):wpAnyV P md ops Q S T (n+1) listed a w:=by
 rw [Bool.and_eq_true,List.all_eq_true] at hl
 exact tails_first hi (Region.noSelect_spec hs) hQ hl.2 n listed a w (closed_of hl.1) (Region.free_spec hi hf) (by simpa using hr) hy hS h
theorem tails_one {i:Nat} {o:Oper} {n:Nat} {listed:Array Bool} {a:Act} {w:World} (hi:ops[i]? = some o) (hr:Region.ready md ops listed=[i])
   (h:∀ K:Act→World→Prop,Shut (∀ b v,(i∈T∨S v)→((i∈T∨S v)→wpAnyV P md ops Q S T n (listed.setIfInBounds i true) b v)→K b v)→if Region.wanted o (yielded ops a.tmps) then o.wp P a w K Q else K (a.put o.dst undef) w) :
   wpAnyV P md ops Q S T (n+1) listed a w:=by
 refine ⟨fun h0=>absurd hr (by rw [h0]; simp),fun j hj=>?_⟩
 rw [hr] at hj
 have:j=i:=by simpa using hj
 subst this
 have k:=h (fun b v=>(j∈T∨S v)∧wpAnyV P md ops Q S T n (listed.setIfInBounds j true) b v) (fun b v h1 h2=>⟨h1,h2 h1⟩)
 unfold wpOp
 simp only [hi]
 split at k
 · rename_i hw
   rw [if_pos hw]; exact Or.inl k
 · rename_i hw
   rw [if_neg hw]; exact k
theorem tn {P:Program} {ops:Array Oper} {Q:Exit→Act→World→Prop} {md:Region.Mode} {S:World→Prop} (T:List Nat) (i:Nat) {o:Oper} {n:Nat} {listed:Array Bool} {a:Act} {w:World}
    (h:∀ K:Act→World→Prop,Shut (∀ b v,(i∈T∨S v)→((i∈T∨S v)→wpAnyV P md ops Q S T n (listed.setIfInBounds i true) b v)→K b v)→if Region.wanted o (yielded ops a.tmps) then o.wp P a w K Q else K (a.put o.dst undef) w)
    (hi:ops[i]? = some o:=by rfl) (hr:Region.ready md ops listed=[i]:=by kernel_rfl):wpAnyV P md ops Q S T (n+1) listed a w:=tails_one hi hr h
theorem tails_done {listed:Array Bool} {a:Act} {w:World} (hr:Region.ready md ops listed=[]) (h:Q .normal a w):∀ n,wpAnyV P md ops Q S T n listed a w
 | 0=>⟨hr,h⟩
 | _+1=>⟨fun _=>h,by rw [hr]; simp⟩
theorem tails_region {id:Nat} {a:Act} {w:World} (T:List Nat) (hm:P.follows .mixedOrders=true) (hS:S w.drew) (h:S w.drew→wpAnyV P .any ops Q S T ops.size (Array.replicate ops.size false) a w.drew):(Code.region id ops true).wp P Q a w:=
 wp_region_any hm (tails_any _ _ _ _ (h hS))
end
end
section
open Go.RowKit
def fitB (r:Res):Bool:=decide (r.e=0)&&decide (r.lo < 18446744073709551616)&&decide (r.hi < 18446744073709551616)&&ivR r.lo r.hi
structure Fit (r:Res):Prop where
 e:r.e=0
 lo:r.lo < 18446744073709551616
 hi:r.hi < 18446744073709551616
 iv:ivR r.lo r.hi=true
theorem Fit.of {r:Res} (h:fitB r=true):Fit r:=by
 unfold fitB at h
 simp only [Bool.and_eq_true,decide_eq_true_eq] at h
 exact ⟨h.1.1.1,h.1.1.2,h.1.2,h.2⟩
theorem Fit.rlo {r:Res} (h:Fit r):rightB r.lo=true:=(ivR_parts h.iv).1
theorem Fit.rhi {r:Res} (h:Fit r):rightB r.hi=true:=(ivR_parts h.iv).2.1
theorem Fit.le {r:Res} (h:Fit r):val r.lo≤val r.hi:=(ivR_parts h.iv).2.2
structure In (r s:Res):Prop where
 fit:Fit r
 lo:val s.lo≤val r.lo
 hi:val r.hi≤val s.hi
theorem In.refl {r:Res} (h:Fit r):In r r:=⟨h,Int.le_refl _,Int.le_refl _⟩
theorem ask_fit (a b:Res) (j:Nat) (hj:j < 10) (ha:Fit a) (hb:Fit b) (he:(askI a.lo a.hi b.lo b.hi j).e=0):Fit (askI a.lo a.hi b.lo b.hi j):=by
 obtain⟨n1,n2,n3,n4⟩:=ask_nums a.lo a.hi b.lo b.hi j (by omega) ha.lo ha.hi hb.lo hb.hi ha.iv hb.iv he
 have h:=ask_holds a.lo a.hi b.lo b.hi a.lo b.lo j (by omega) ha.lo ha.hi hb.lo hb.hi ha.lo hb.lo ha.iv hb.iv ha.rlo hb.rlo (Int.le_refl _) ha.le (Int.le_refl _) hb.le (by omega) he
 exact ⟨he,n1,n3,h.1⟩
theorem ask_in (a A b B:Res) (j:Nat) (hj:j < 10) (ha:In a A) (fA:Fit A) (hb:In b B) (fB:Fit B) (he:(askI A.lo A.hi B.lo B.hi j).e=0):In (askI a.lo a.hi b.lo b.hi j) (askI A.lo A.hi B.lo B.hi j):=by
 obtain⟨w1,w2,w3⟩:=ask_within A.lo A.hi B.lo B.hi a.lo a.hi b.lo b.hi j (by omega) fA.lo fA.hi fB.lo fB.hi ha.fit.lo ha.fit.hi hb.fit.lo hb.fit.hi fA.iv fB.iv ha.fit.iv hb.fit.iv ha.lo ha.hi hb.lo hb.hi (by omega) he
 exact ⟨ask_fit a b j hj ha.fit hb.fit w1,w2,w3⟩
def addR (a b:Res):Res:=addI a.lo a.hi b.lo b.hi
def subR (a b:Res):Res:=subI a.lo a.hi b.lo b.hi
def mulR (a b:Res):Res:=mulI a.lo a.hi b.lo b.hi
def divR (a b:Res):Res:=divI a.lo a.hi b.lo b.hi
def sqrR (a:Res):Res:=sqrI a.lo a.hi
def negR (a:Res):Res:=negI a.lo a.hi
theorem add_in {a A b B:Res} (ha:In a A) (fA:Fit A) (hb:In b B) (fB:Fit B) (he:(addR A B).e=0):In (addR a b) (addR A B):=ask_in a A b B 0 (by decide) ha fA hb fB he
theorem sub_in {a A b B:Res} (ha:In a A) (fA:Fit A) (hb:In b B) (fB:Fit B) (he:(subR A B).e=0):In (subR a b) (subR A B):=ask_in a A b B 1 (by decide) ha fA hb fB he
theorem mul_in {a A b B:Res} (ha:In a A) (fA:Fit A) (hb:In b B) (fB:Fit B) (he:(mulR A B).e=0):In (mulR a b) (mulR A B):=ask_in a A b B 2 (by decide) ha fA hb fB he
theorem div_in {a A b B:Res} (ha:In a A) (fA:Fit A) (hb:In b B) (fB:Fit B) (he:(divR A B).e=0):In (divR a b) (divR A B):=ask_in a A b B 3 (by decide) ha fA hb fB he
theorem sqr_in {a A:Res} (ha:In a A) (fA:Fit A) (he:(sqrR A).e=0):In (sqrR a) (sqrR A):=ask_in a A a A 6 (by decide) ha fA ha fA he
def oneR (x:Nat):Res:=⟨0,x,x⟩
theorem one_fit {x:Nat} (lx:x < 18446744073709551616) (rx:rightB x=true):Fit (oneR x):=⟨rfl,lx,lx,ivR_one x rx⟩
def u1:Nat:=4607182418800017408
def m1:Nat:=13830554455654793216
theorem u1_fit:Fit (oneR u1):=one_fit (by decide) (by decide)
def nW (k:Nat):Nat:=floatOfInt .f64 ((k:Int)*((k:Int)+1))
def termR (y:Res) (k:Nat):Res:=divR y (oneR (nW k))
def serStart (y:Res) (m:Nat):Res:=⟨0,(subR (oneR u1) (termR y m)).lo,u1⟩
def serStep (y:Res) (k:Nat) (r:Res):Res:=subR (oneR u1) (mulR (termR y k) r)
def serN (y:Res) (m:Nat):Nat→Res
 | 0=>serStart y m
 | i+1=>serStep y (m - 2 - 2*i) (serN y m i)
def serR (y:Res) (m:Nat):Res:=serN y m 9
def quartW:Nat→Nat
 | 0=>0 | 1=>4598175219545276416 | 2=>4602678819172646912 | 3=>4604930618986332160 | _=>4607182418800017408
def piR:Res:=⟨0,4614256656552045848,4614256656552045849⟩
def beyondR (x j:Nat):Res:=subR (oneR x) (oneR (quartW j))
def angleR (x j:Nat):Res:=mulR (addR piR piR) (beyondR x j)
def sinS (t:Res):Res:=mulR t (serR (sqrR t) 20)
def cosS (t:Res):Res:=serR (sqrR t) 19
def bigB:Res:=⟨0,4593671619917905920+9223372036854775808,4593671619917905920⟩
def bigT:Res:=mulR (addR piR piR) bigB
def bigY:Res:=sqrR bigT
theorem big_fit:Fit piR∧Fit (addR piR piR)∧Fit bigB∧Fit bigT∧Fit bigY:=⟨.of (by decide +kernel),.of (by decide +kernel),.of (by decide +kernel),.of (by decide +kernel),.of (by decide +kernel)⟩
structure Turn (x:Nat):Prop where
 lt:x < 18446744073709551616
 right:rightB x=true
 lo:0≤val x
 hi:val x≤val u1
def qEnds:Nat→Res
 | 0=>⟨0,0,4593671619917905920⟩ | 1=>⟨0,4593671619917905920,4600427019358961664⟩ | 2=>⟨0,4600427019358961664,4603804719079489536⟩ | 3=>⟨0,4603804719079489536,4606056518893174784⟩ | _=>⟨0,4606056518893174784,4607182418800017408⟩
def boundR (r:Res):Res:=boundI r.lo r.hi
theorem bound_facts {r:Res} (h:Fit r):Fit (boundR r)∧val m1≤val (boundR r).lo∧val (boundR r).hi≤val u1:=by
 obtain⟨x1,x2,x3⟩:=max_facts r.lo m1 h.lo (by decide) h.rlo (by decide)
 obtain⟨y1,y2,y3⟩:=min_facts r.hi u1 h.hi (by decide) h.rhi (by decide)
 have v1:val m1≤0:=by decide +kernel
 have v2:0≤val u1:=by decide +kernel
 have v0:val 0=0:=by decide
 have e1:(boundR r).lo=if bothB r.lo r.hi m1 u1 then maxW r.lo m1 else 0:=rfl
 have e2:(boundR r).hi=if bothB r.lo r.hi m1 u1 then minW r.hi u1 else 0:=rfl
 cases hb:bothB r.lo r.hi m1 u1
 · rw [hb,if_neg Bool.false_ne_true] at e1 e2
   refine ⟨⟨rfl,by rw [e1]; decide,by rw [e2]; decide,by rw [e1,e2]; decide⟩,by rw [e1,v0]; exact v1,by rw [e2,v0]; exact v2⟩
 · rw [hb,if_pos rfl] at e1 e2
   have hb':leB (maxW r.lo m1) (minW r.hi u1)=true:=hb
   refine ⟨⟨rfl,by rw [e1]; exact x1,by rw [e2]; exact y1,?_⟩,by rw [e1,x3]; omega,by rw [e2,y3]; omega⟩
   rw [e1,e2]
   unfold ivR
   rw [x2,y2,hb']; rfl
def sinT (s c:Res):Nat→Res
 | 1=>c | 2=>negR s | 3=>negR c | _=>s
def cosT (s c:Res):Nat→Res
 | 1=>negR s | 2=>negR c | 3=>s | _=>c
def sinR (x:Nat):Res:=boundR (sinT (sinS (angleR x (qN x))) (cosS (angleR x (qN x))) (qN x))
def cosR (x:Nat):Res:=boundR (cosT (sinS (angleR x (qN x))) (cosS (angleR x (qN x))) (qN x))
end
section
open Go.RowKit
attribute [local go_sem] run_store_float
structure Env (B:World) (pb:Nat) (l:List (Nat×Array Value)) (v:World):Prop where
 put:Put ⟨pb,0,none⟩ (.int .i64 0) B v
 cal:Has1 v (pb,#[true])
 blocks:∀ p,p∈l→Has1 v p∧pb≠p.1
section
variable {B v v':World} {pb:Nat} {l:List (Nat×Array Value)}
end
abbrev Calc2 (f:FuncId) (pb al ah bl bh rl rh:Nat):Prop:=∀ v:World,Has1 v (pb,#[true])→Calls Tryz.prog f #[.pointer (some ⟨pb,0,none⟩),.agg #[al,ah],.agg #[bl,bh]] v fun r w'=>r = .returned (.agg #[rl,rh])∧Put ⟨pb,0,none⟩ (.int .i64 0) v w'
abbrev Calc1 (f:FuncId) (pb al ah rl rh:Nat):Prop:=∀ v:World,Has1 v (pb,#[true])→Calls Tryz.prog f #[.pointer (some ⟨pb,0,none⟩),.agg #[al,ah]] v fun r w'=>r = .returned (.agg #[rl,rh])∧Put ⟨pb,0,none⟩ (.int .i64 0) v w'
abbrev CalcN (pb x:Nat):Prop:=∀ v:World,Has1 v (pb,#[true])→Calls Tryz.prog 35 #[.pointer (some ⟨pb,0,none⟩),x] v fun r w'=>r = .returned (.agg #[x,x])∧Put ⟨pb,0,none⟩ (.int .i64 0) v w'
theorem told_none {R:Res} {pb:Nat} {w:World} {f:FuncId} {args:Array Value} (he:R.e=0) (h:Calls Tryz.prog f args w (Told R pb 0 w)) :
   Calls Tryz.prog f args w fun r w'=>r = .returned (.agg #[R.lo,R.hi])∧Put ⟨pb,0,none⟩ (.int .i64 0) w w':=by
 refine h.mono fun r w' ⟨h1,h2⟩=>⟨h1,?_⟩
 rw [he] at h2
 exact h2
theorem step_two {a b:Res} (fa:Fit a) (fb:Fit b) (r:Res):stepI 0 (ivR a.lo a.hi&&ivR b.lo b.hi) r=r:=by
 rw [fa.iv,fb.iv]; rfl
theorem step_one {a:Res} (fa:Fit a) (r:Res):stepI 0 (ivR a.lo a.hi) r=r:=by
 rw [fa.iv]; rfl
theorem calc_num {x:Nat} (f:Fit (oneR x)) (pb:Nat):CalcN pb x:=fun v h=>by
 have c:=cNum_any 0 x pb 0 v f.lo h.pc h.pf
 have e:stepI 0 true (ofI x)=⟨0,x,x⟩:=by
   unfold stepI ofI
   rw [if_pos rfl,if_pos rfl,if_pos (show rightB x=true from f.rlo)]
 rw [e] at c
 exact told_none rfl c
theorem calc_add {a b:Res} (fa:Fit a) (fb:Fit b) (fr:Fit (addR a b)) (pb:Nat):Calc2 103 pb a.lo a.hi b.lo b.hi (addR a b).lo (addR a b).hi:=fun v h=>by
 have c:=cAdd_any 0 a.lo a.hi b.lo b.hi pb 0 v fa.lo fa.hi fb.lo fb.hi h.pc h.pf
 rw [step_two fa fb] at c
 exact told_none fr.e c
theorem calc_sub {a b:Res} (fa:Fit a) (fb:Fit b) (fr:Fit (subR a b)) (pb:Nat):Calc2 34 pb a.lo a.hi b.lo b.hi (subR a b).lo (subR a b).hi:=fun v h=>by
 have c:=cSub_any 0 a.lo a.hi b.lo b.hi pb 0 v fa.lo fa.hi fb.lo fb.hi h.pc h.pf
 rw [step_two fa fb] at c
 exact told_none fr.e c
theorem calc_mul {a b:Res} (fa:Fit a) (fb:Fit b) (fr:Fit (mulR a b)) (pb:Nat):Calc2 32 pb a.lo a.hi b.lo b.hi (mulR a b).lo (mulR a b).hi:=fun v h=>by
 have c:=cMul_any 0 a.lo a.hi b.lo b.hi pb 0 v fa.lo fa.hi fb.lo fb.hi h.pc h.pf
 rw [step_two fa fb] at c
 exact told_none fr.e c
theorem calc_div {a b:Res} (fa:Fit a) (fb:Fit b) (fr:Fit (divR a b)) (pb:Nat):Calc2 60 pb a.lo a.hi b.lo b.hi (divR a b).lo (divR a b).hi:=fun v h=>by
 have c:=cDiv_any 0 a.lo a.hi b.lo b.hi pb 0 v fa.lo fa.hi fb.lo fb.hi h.pc h.pf
 rw [step_two fa fb] at c
 exact told_none fr.e c
theorem calc_sqr {a:Res} (fa:Fit a) (fr:Fit (sqrR a)) (pb:Nat):Calc1 104 pb a.lo a.hi (sqrR a).lo (sqrR a).hi:=fun v h=>by
 have c:=cSqr_any 0 a.lo a.hi pb 0 v fa.lo fa.hi h.pc h.pf
 rw [step_one fa] at c
 exact told_none fr.e c
end
section
open Go.RowKit
attribute [local go_sem] run_store_float
end
section
open Go.RowKit
attribute [local go_sem] run_store_float
end
section
open Go.RowKit
attribute [local go_sem] run_store_float
end
end Go.Proofs.YtnaomilkgfkegaaGreat
