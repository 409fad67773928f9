/- What the claim stands on, part 12: QAwk, QLess. -/
import Derived.Test.YtnaomilkgfkegaaGreatWA2
import Derived.Test.YtnaomilkgfkegaaGreatWA0
import Derived.Test.YtnaomilkgfkegaaGreatWA10
import Derived.Test.YtnaomilkgfkegaaGreatWA7
import Derived.Test.YtnaomilkgfkegaaGreatWA4
import Derived.Deep.RegionHeld3
import Derived.Test.YtnaomilkgfkegaaGreatWA9
namespace Go.Proofs.YtnaomilkgfkegaaGreat
section
open Go.RowKit
attribute [local go_sem] run_store_float
end
section
open Go.RowKit
attribute [local go_sem] run_store_float
end
section
open Go.RowKit
attribute [local go_sem] run_store_float
theorem Has1.set2 {v:World} {b:Nat} {x y:Value} (h:Has1 v (b,#[x,y])) (x' y':Value):Has1 ((v.setCell ⟨b,0,none⟩ x').setCell ⟨b,1,none⟩ y') (b,#[x',y']):=⟨by rw [size_set,size_set]; exact h.1,put2 h.2.1 _ _,fun i=>by rw [frozen_set,frozen_set]; exact h.2.2 i⟩
theorem Has1.two {v:World} {b:Nat} {x y:Value} (h:Has1 v (b,#[x,y])):v.cell? ⟨b,0,none⟩=some x∧v.cell? ⟨b,1,none⟩=some y:=⟨h.2.1 0,h.2.1 1⟩
theorem Has1.pc {v:World} {b:Nat} {x:Value} (h:Has1 v (b,#[x])):v.cell? ⟨b,0,none⟩=some x:=h.2.1 0
theorem Has1.pf {v:World} {p:Nat×Array Value} (h:Has1 v p):v.frozen? ⟨p.1,0,none⟩=false:=h.2.2 0
end
section
open Go.RowKit
attribute [local go_sem] run_store_float
def askI (al ah bl bh:Nat):Nat→Res
 | 0=>addI al ah bl bh | 1=>subI al ah bl bh | 2=>mulI al ah bl bh | 3=>divI al ah bl bh | 4=>minI al ah bl bh | 5=>maxI al ah bl bh
 | 6=>sqrI al ah | 7=>sqrtI al ah | 8=>negI al ah | 9=>absI al ah | _=>ofI al
def askB (al ah bl bh:Nat):Nat→Bool
 | 0=>ivR al ah&&ivR bl bh | 1=>ivR al ah&&ivR bl bh | 2=>ivR al ah&&ivR bl bh | 3=>ivR al ah&&ivR bl bh | 4=>ivR al ah&&ivR bl bh | 5=>ivR al ah&&ivR bl bh
 | 6=>ivR al ah | 7=>ivR al ah | 8=>ivR al ah | 9=>ivR al ah | _=>true
def askR (e:Int) (al ah bl bh j:Nat):Res:=stepI e (askB al ah bl bh j) (askI al ah bl bh j)
end
section
open Go.RowKit
attribute [local go_sem] run_store_float
end
section
open Go.RowKit
structure St (B:World) (c d:Nat) (e f:Int) (l:List (Nat×Array Value)) (v:World):Prop where
 mem:Mem B l v
 hc:Has1 v (c,#[.int .i64 e])
 hd:Has1 v (d,#[.int .i64 f])
 lc:B.heap.size≤c
 ld:B.heap.size≤d
 ne:c≠d
 off:∀ p,p∈l→c≠p.1∧d≠p.1
 apart:l.Pairwise fun p q=>p.1≠q.1
 low:∀ p,p∈l→B.heap.size≤p.1
theorem Has1.setIn {v:World} {b:Nat} {c:Array Value} (h:Has1 v (b,c)) (i:Nat) (y:Value):Has1 (v.setCell ⟨b,i,none⟩ y) (b,c.setIfInBounds i y):=by
 refine ⟨by rw [size_set]; exact h.1,fun j=>?_,fun j=>(frozen_set _ _ _ _).trans (h.2.2 j)⟩
 by_cases hij:i=j
 · subst hij
   have h0:v.cell? ⟨b,i,none⟩=c[i]?:=h.2.1 i
   cases hx:c[i]? with
   | none =>
     rw [hx] at h0
     have hge:c.size≤i:=by
       rcases Nat.lt_or_ge i c.size with g | g
       · simp [g] at hx
       · exact g
     have e1:(c.setIfInBounds i y)[i]? = none:=by simp [hge]
     rw [e1]
     unfold World.cell? at h0 ⊢
     rw [heap_set,if_pos rfl]
     cases hb:v.heap[b]? with
     | none=>rfl
     | some o =>
       cases o with
       | cells cs t f =>
         rw [hb] at h0
         simp only [Option.map_some,putObj] at h0 ⊢
         simp at h0 ⊢
         omega
       | _=>simp [putObj]
   | some x =>
     rw [hx] at h0
     have hlt:i < c.size:=by
       rcases Nat.lt_or_ge i c.size with g | g
       · exact g
       · simp [g] at hx
     rw [World.cell?_setCell_same _ _ _ h0]
     simp [hlt]
 · rw [World.cell?_setCell_other _ _ _ _ (by simp)]
   have h0:v.cell? ⟨b,j,none⟩=c[j]?:=h.2.1 j
   rw [h0]
   simp [hij]
theorem keep_alloc {v:World} {b i:Nat} {x:Value} (o:Obj) (h:v.cell? ⟨b,i,none⟩=some x):(v.alloc o).cell? ⟨b,i,none⟩=some x:=(World.cell?_alloc_past _ _ _ (cell_lt h)).trans h
theorem keep_set {v:World} {b i q j:Nat} {x:Value} (y:Value) (hq:q≠b) (h:v.cell? ⟨b,i,none⟩=some x):(v.setCell ⟨q,j,none⟩ y).cell? ⟨b,i,none⟩=some x:=by
 rw [World.cell?_setCell_other _ _ _ _ (fun e=>hq (congrArg Addr.block e))]; exact h
theorem keep_undrew {v:World} {a:Addr} {x:Value} (h:v.drew.cell? a=some x):v.cell? a=some x:=h
theorem keep_drew {v:World} {a:Addr} {x:Value} (h:v.cell? a=some x):v.drew.cell? a=some x:=h
section
variable {B v:World} {c d:Nat} {e f:Int} {l:List (Nat×Array Value)} {a b x y q r:Nat} {z0 z1 z2 z3:Value} {t u:TypeId}
end
end
section
open Go.RowKit
attribute [local go_sem] run_store_float
end
section
open Go.RowKit
theorem down_le {s s':Nat} {T T':Int} {c c':Nat} {e':Int} (hs:0 < s) (h:Down s T c 0) (k:Down s' T' c' e') (hT:T*(s':Int)≤T'*(s:Int)):e'=0∧val c≤val c':=by
 obtain⟨c1,c2,c3,_⟩:=h.ok
 have hs':(0:Int) < (s:Int):=by omega
 have key:val c*(s':Int)≤T':=by
   have h1:val c*(s:Int)*(s':Int)≤T*(s':Int):=Int.mul_le_mul_of_nonneg_right c3 (by omega)
   have h2:val c*(s':Int)*(s:Int)≤T'*(s:Int):=by
     rw [Int.mul_assoc,Int.mul_comm (s':Int) (s:Int),←Int.mul_assoc]
     exact Int.le_trans h1 hT
   exact Int.le_of_mul_le_mul_right h2 hs'
 rcases k with ⟨k0,_,_,_,k4⟩ | ⟨_,_,k3⟩
 · exact ⟨k0,k4 c c1 c2 key⟩
 · have:=k3 c c1 c2; omega
theorem up_le {s s':Nat} {T T':Int} {c c':Nat} {e':Int} (hs:0 < s) (h:Up s T c 0) (k:Up s' T' c' e') (hT:T'*(s:Int)≤T*(s':Int)):e'=0∧val c'≤val c:=by
 obtain⟨c1,c2,c3,_⟩:=h.ok
 have hs':(0:Int) < (s:Int):=by omega
 have key:T'≤val c*(s':Int):=by
   have h1:T*(s':Int)≤val c*(s:Int)*(s':Int):=Int.mul_le_mul_of_nonneg_right c3 (by omega)
   have h2:T'*(s:Int)≤val c*(s':Int)*(s:Int):=by
     rw [Int.mul_assoc,Int.mul_comm (s':Int) (s:Int),←Int.mul_assoc]
     exact Int.le_trans hT h1
   exact Int.le_of_mul_le_mul_right h2 hs'
 rcases k with ⟨k0,_,_,_,k4⟩ | ⟨_,_,k3⟩
 · exact ⟨k0,k4 c c1 c2 key⟩
 · have:=k3 c c1 c2; omega
def Within (r s:Res):Prop:=s.e=0→r.e=0∧val s.lo≤val r.lo∧val r.hi≤val s.hi
theorem tight_e {lo hi:Nat} {e f:Int} (h:(tightR lo e hi f).e=0):e=0∧f=0∧tightR lo e hi f=⟨0,lo,hi⟩:=by
 unfold tightR at h ⊢
 by_cases he:e=0
 · rw [if_pos he] at h ⊢
   by_cases hf:f=0
   · rw [if_pos hf]; exact ⟨he,hf,rfl⟩
   · rw [if_neg hf] at h; exact absurd h hf
 · rw [if_neg he] at h; exact absurd h he
theorem tight_within {s s' u u':Nat} {T T' U U':Int} {lo hi lo' hi':Nat} {e f e' f':Int} (hs:0 < s) (hu:0 < u) (d:Down s T lo e) (p:Up u U hi f) (d':Down s' T' lo' e') (p':Up u' U' hi' f') (hT:T*(s':Int)≤T'*(s:Int)) (hU:U'*(u:Int)≤U*(u':Int)) :
   Within (tightR lo' e' hi' f') (tightR lo e hi f):=by
 intro h
 obtain⟨rfl,rfl,h3⟩:=tight_e h
 obtain⟨rfl,l⟩:=down_le hs d d' hT
 obtain⟨rfl,g⟩:=up_le hu p p' hU
 rw [h3]
 have e2:tightR lo' 0 hi' 0=⟨0,lo',hi'⟩:=by unfold tightR; rw [if_pos rfl,if_pos rfl]
 rw [e2]
 exact ⟨rfl,l,g⟩
section
variable (al ah bl bh cl ch dl dh:Nat) (hr:ivR al ah=true) (hs:ivR bl bh=true) (hr':ivR cl ch=true) (hs':ivR dl dh=true) (h1:val al≤val cl) (h2:val ch≤val ah) (h3:val bl≤val dl) (h4:val dh≤val bh)
include hr hs hr' hs' h1 h2 h3 h4 in
theorem add_within:Within (addI cl ch dl dh) (addI al ah bl bh):=by
 obtain⟨a1,a2,_⟩:=ivR_parts hr
 obtain⟨b1,b2,_⟩:=ivR_parts hs
 obtain⟨c1,c2,_⟩:=ivR_parts hr'
 obtain⟨d1,d2,_⟩:=ivR_parts hs'
 exact tight_within (by decide) (by decide) (add_down al bl a1 b1) (add_up ah bh a2 b2) (add_down cl dl c1 d1) (add_up ch dh c2 d2) (by omega) (by omega)
include hr hs hr' hs' h1 h2 h3 h4 in
theorem sub_within:Within (subI cl ch dl dh) (subI al ah bl bh):=by
 obtain⟨a1,a2,_⟩:=ivR_parts hr
 obtain⟨b1,b2,_⟩:=ivR_parts hs
 obtain⟨c1,c2,_⟩:=ivR_parts hr'
 obtain⟨d1,d2,_⟩:=ivR_parts hs'
 exact tight_within (by decide) (by decide) (sub_down al bh a1 b2) (sub_up ah bl a2 b1) (sub_down cl dh c1 d2) (sub_up ch dl c2 d1) (by omega) (by omega)
end
structure Worth (s:Nat) (R:Res) (T U:Int):Prop where
 ends:R.e=0→Down s T R.lo 0∧Up s U R.hi 0
 there:(∃ c,Down s T c 0)→(∃ c,Up s U c 0)→R.e=0
 low:∃ c e,Down s T c e
 high:∃ c e,Up s U c e
theorem Worth.within {s:Nat} {R R':Res} {T U T' U':Int} (hs:0 < s) (h:Worth s R T U) (h':Worth s R' T' U') (hT:T≤T') (hU:U'≤U):Within R' R:=by
 intro he
 obtain⟨d,u⟩:=h.ends he
 obtain⟨c,e,dc⟩:=h'.low
 obtain⟨c',e',uc⟩:=h'.high
 have m1:T*(s:Int)≤T'*(s:Int):=Int.mul_le_mul_of_nonneg_right hT (by omega)
 have m2:U'*(s:Int)≤U*(s:Int):=Int.mul_le_mul_of_nonneg_right hU (by omega)
 obtain⟨rfl,_⟩:=down_le hs d dc m1
 obtain⟨rfl,_⟩:=up_le hs u uc m2
 have he':=h'.there ⟨c,dc⟩ ⟨c',uc⟩
 obtain⟨d',u'⟩:=h'.ends he'
 exact ⟨he',(down_le hs d d' m1).2,(up_le hs u u' m2).2⟩
theorem worth_tight {s:Nat} {T U:Int} {lo hi:Nat} {e f:Int} (hs:0 < s) (d:Down s T lo e) (u:Up s U hi f):Worth s (tightR lo e hi f) T U where
 ends:=fun h=>by
   obtain⟨rfl,rfl,h3⟩:=tight_e h
   rw [h3]; exact ⟨d,u⟩
 there:=fun ⟨c,dc⟩ ⟨c',uc⟩=>by
   obtain⟨rfl,_⟩:=down_le hs dc d (Int.le_refl _)
   obtain⟨rfl,_⟩:=up_le hs uc u (Int.le_refl _)
   unfold tightR; rw [if_pos rfl,if_pos rfl]
 low:=⟨_,_,d⟩
 high:=⟨_,_,u⟩
theorem down_min {s:Nat} {T T':Int} {c c':Nat} (h:Down s T c 0) (h':Down s T' c' 0):Down s (min T T') (minW c c') 0:=by
 obtain⟨a1,a2,a3,a4⟩:=h.ok
 obtain⟨b1,b2,b3,b4⟩:=h'.ok
 refine Or.inl ⟨rfl,(min_facts c c' a1 b1 a2 b2).1,(min_facts c c' a1 b1 a2 b2).2.1,?_,fun d hd rd hle=>?_⟩
 · rw [(min_facts c c' a1 b1 a2 b2).2.2]
   rcases Int.le_total (val c) (val c') with g | g
   · rw [Int.min_eq_left g]
     have:val c*(s:Int)≤val c'*(s:Int):=Int.mul_le_mul_of_nonneg_right g (by omega)
     omega
   · rw [Int.min_eq_right g]
     have:val c'*(s:Int)≤val c*(s:Int):=Int.mul_le_mul_of_nonneg_right g (by omega)
     omega
 · rw [(min_facts c c' a1 b1 a2 b2).2.2]
   have:=a4 d hd rd (by omega)
   have:=b4 d hd rd (by omega)
   omega
theorem up_max {s:Nat} {T T':Int} {c c':Nat} (h:Up s T c 0) (h':Up s T' c' 0):Up s (max T T') (maxW c c') 0:=by
 obtain⟨a1,a2,a3,a4⟩:=h.ok
 obtain⟨b1,b2,b3,b4⟩:=h'.ok
 refine Or.inl ⟨rfl,(max_facts c c' a1 b1 a2 b2).1,(max_facts c c' a1 b1 a2 b2).2.1,?_,fun d hd rd hle=>?_⟩
 · rw [(max_facts c c' a1 b1 a2 b2).2.2]
   rcases Int.le_total (val c) (val c') with g | g
   · rw [Int.max_eq_right g]
     have:val c*(s:Int)≤val c'*(s:Int):=Int.mul_le_mul_of_nonneg_right g (by omega)
     omega
   · rw [Int.max_eq_left g]
     have:val c'*(s:Int)≤val c*(s:Int):=Int.mul_le_mul_of_nonneg_right g (by omega)
     omega
 · rw [(max_facts c c' a1 b1 a2 b2).2.2]
   have:=a4 d hd rd (by omega)
   have:=b4 d hd rd (by omega)
   omega
theorem worth_join {s:Nat} {R R':Res} {T U T' U':Int} (hs:0 < s) (h:Worth s R T U) (h':Worth s R' T' U'):Worth s (joinR R R') (min T T') (max U U') where
 ends:=fun he=>by
   unfold joinR at he ⊢
   by_cases h1:R.e=0
   · rw [if_pos h1] at he ⊢
     by_cases h2:R'.e=0
     · rw [if_pos h2]
       obtain⟨d,u⟩:=h.ends h1
       obtain⟨d',u'⟩:=h'.ends h2
       exact ⟨down_min d d',up_max u u'⟩
     · rw [if_neg h2] at he; exact absurd he h2
   · rw [if_neg h1] at he; exact absurd he h1
 there:=fun ⟨c,dc⟩ ⟨c',uc⟩=>by
   obtain⟨x,ex,dx⟩:=h.low
   obtain⟨y,ey,uy⟩:=h.high
   obtain⟨x',ex',dx'⟩:=h'.low
   obtain⟨y',ey',uy'⟩:=h'.high
   have k:∀ (P Q:Int),P≤Q→P*(s:Int)≤Q*(s:Int):=fun P Q g=>Int.mul_le_mul_of_nonneg_right g (by omega)
   obtain⟨rfl,_⟩:=down_le hs dc dx (k _ _ (by omega))
   obtain⟨rfl,_⟩:=down_le hs dc dx' (k _ _ (by omega))
   obtain⟨rfl,_⟩:=up_le hs uc uy (k _ _ (by omega))
   obtain⟨rfl,_⟩:=up_le hs uc uy' (k _ _ (by omega))
   unfold joinR
   rw [if_pos (h.there ⟨x,dx⟩ ⟨y,uy⟩),if_pos (h'.there ⟨x',dx'⟩ ⟨y',uy'⟩)]
 low:=by
   rcases Int.le_total T T' with g | g
   · rw [Int.min_eq_left g]; exact h.low
   · rw [Int.min_eq_right g]; exact h'.low
 high:=by
   rcases Int.le_total U U' with g | g
   · rw [Int.max_eq_right g]; exact h'.high
   · rw [Int.max_eq_left g]; exact h.high
def Ranged (a b c d T U:Int):Prop:=
 (∀ x y,a≤x→x≤b→c≤y→y≤d→T≤x*y∧x*y≤U)∧(∃ x y,a≤x∧x≤b∧c≤y∧y≤d∧T=x*y)∧∃ x y,a≤x∧x≤b∧c≤y∧y≤d∧U=x*y
theorem ranged_mono {a b c d T U a' b' c' d' T' U':Int} (h:Ranged a b c d T U) (h':Ranged a' b' c' d' T' U') (h1:a≤a') (h2:b'≤b) (h3:c≤c') (h4:d'≤d):T≤T'∧U'≤U:=by
 obtain⟨_,⟨x,y,x1,x2,y1,y2,rfl⟩,⟨z,v,z1,z2,v1,v2,rfl⟩⟩:=h'
 exact ⟨(h.1 x y (by omega) (by omega) (by omega) (by omega)).1,(h.1 z v (by omega) (by omega) (by omega) (by omega)).2⟩
theorem ranged_swap {a b c d T U:Int} (h:Ranged a b c d T U):Ranged c d a b T U:=by
 obtain⟨h1,⟨x,y,x1,x2,y1,y2,e⟩,⟨z,v,z1,z2,v1,v2,g⟩⟩:=h
 refine ⟨fun p q p1 p2 q1 q2=>?_,⟨y,x,y1,y2,x1,x2,by rw [e,Int.mul_comm]⟩,⟨v,z,v1,v2,z1,z2,by rw [g,Int.mul_comm]⟩⟩
 rw [Int.mul_comm p q]; exact h1 q p q1 q2 p1 p2
end
section
open Go.RowKit
theorem mul_le_l {a b c:Int} (h:a≤b) (hc:0≤c):c*a≤c*b:=Int.mul_le_mul_of_nonneg_left h hc
theorem mul_le_n {a b c:Int} (h:a≤b) (hc:c≤0):c*b≤c*a:=Int.mul_le_mul_of_nonpos_left hc h
theorem ranged_pos (a b c d:Int) (hab:a≤b) (hcd:c≤d) (hc:0≤c):Ranged a b c d (a*(if a < 0 then d else c)) (b*(if 0≤b then d else c)):=by
 refine ⟨fun x y x1 x2 y1 y2=>⟨?_,?_⟩,?_,?_⟩
 · have h1:a*y≤x*y:=Int.mul_le_mul_of_nonneg_right x1 (by omega)
   split
   · exact Int.le_trans (mul_le_n y2 (by omega)) h1
   · exact Int.le_trans (mul_le_l y1 (by omega)) h1
 · have h1:x*y≤b*y:=Int.mul_le_mul_of_nonneg_right x2 (by omega)
   split
   · exact Int.le_trans h1 (mul_le_l y2 (by omega))
   · exact Int.le_trans h1 (mul_le_n y1 (by omega))
 · refine ⟨a,_,by omega,by omega,?_,?_,rfl⟩ <;> split <;> omega
 · refine ⟨b,_,by omega,by omega,?_,?_,rfl⟩ <;> split <;> omega
theorem ranged_neg (a b c d:Int) (hab:a≤b) (hcd:c≤d) (hd:d≤0):Ranged a b c d (b*(if b < 0 then d else c)) (a*(if 0≤a then d else c)):=by
 refine ⟨fun x y x1 x2 y1 y2=>⟨?_,?_⟩,?_,?_⟩
 · have h1:b*y≤x*y:=Int.mul_le_mul_of_nonpos_right x2 (by omega)
   split
   · exact Int.le_trans (mul_le_n y2 (by omega)) h1
   · exact Int.le_trans (mul_le_l y1 (by omega)) h1
 · have h1:x*y≤a*y:=Int.mul_le_mul_of_nonpos_right x1 (by omega)
   split
   · exact Int.le_trans h1 (mul_le_l y2 (by omega))
   · exact Int.le_trans h1 (mul_le_n y1 (by omega))
 · refine ⟨b,_,by omega,by omega,?_,?_,rfl⟩ <;> split <;> omega
 · refine ⟨a,_,by omega,by omega,?_,?_,rfl⟩ <;> split <;> omega
theorem ranged_join {a b c d T U T' U':Int} (hab:a≤b) (h:Ranged a a c d T U) (h':Ranged b b c d T' U'):Ranged a b c d (min T T') (max U U'):=by
 obtain⟨h1,⟨x,y,x1,x2,y1,y2,e⟩,⟨z,v,z1,z2,v1,v2,g⟩⟩:=h
 obtain⟨k1,⟨x',y',x1',x2',y1',y2',e'⟩,⟨z',v',z1',z2',v1',v2',g'⟩⟩:=h'
 refine ⟨fun p q p1 p2 q1 q2=>?_,?_,?_⟩
 · have l1:=h1 a q (by omega) (by omega) q1 q2
   have l2:=k1 b q (by omega) (by omega) q1 q2
   rcases Int.le_total 0 q with g | g
   · have m1:a*q≤p*q:=Int.mul_le_mul_of_nonneg_right p1 g
     have m2:p*q≤b*q:=Int.mul_le_mul_of_nonneg_right p2 g
     omega
   · have m1:p*q≤a*q:=Int.mul_le_mul_of_nonpos_right p1 g
     have m2:b*q≤p*q:=Int.mul_le_mul_of_nonpos_right p2 g
     omega
 · rcases Int.le_total T T' with r | r
   · exact ⟨x,y,by omega,by omega,y1,y2,by omega⟩
   · exact ⟨x',y',by omega,by omega,y1',y2',by omega⟩
 · rcases Int.le_total U U' with r | r
   · exact ⟨z',v',by omega,by omega,v1',v2',by omega⟩
   · exact ⟨z,v,by omega,by omega,v1,v2,by omega⟩
theorem val_end (bl bh:Nat) (u:Bool):val (endW bl bh u)=if u=true then val bh else val bl:=by
 unfold endW; cases u <;> rfl
theorem cross_false {a b:Nat} (h:crossB a b=false):0≤val a∨val b≤0:=by
 unfold crossB ltB at h
 rw [val_nil] at h
 simp at h
 omega
theorem two_sq:0 < 2 ^ sq:=Nat.two_pow_pos _
theorem mul1_worth (al ah bl bh:Nat) (la:al < 18446744073709551616) (ha:ah < 18446744073709551616) (hr:ivR al ah=true) (hs:ivR bl bh=true) (hc:crossB bl bh=false) :
   ∃ T U,Ranged (val al) (val ah) (val bl) (val bh) T U∧Worth (2 ^ sq) (mul1 al ah bl bh) T U:=by
 obtain⟨a1,a2,a3⟩:=ivR_parts hr
 obtain⟨b1,b2,b3⟩:=ivR_parts hs
 obtain⟨_,x2,_,y2⟩:=low_right al ah bl la ha a1 a2
 have W:=worth_tight two_sq ((mul_dir _ _ x2 (end_right bl bh (ltB (lowOf al ah bl) 0) b1 b2) false).1 rfl) ((mul_dir _ _ y2 (end_right bl bh (leB 0 (highOf al ah bl)) b1 b2) true).2 rfl)
 refine ⟨_,_,?_,W⟩
 rw [val_end,val_end]
 unfold ltB leB
 rw [val_nil]
 by_cases hn:val bl < 0
 · have e1:lowOf al ah bl=ah∧highOf al ah bl=al:=by unfold lowOf highOf ltB; rw [val_nil]; simp [hn]
   rw [e1.1,e1.2]
   have hd:val bh≤0:=by rcases cross_false hc with g | g <;> omega
   simpa using ranged_neg (val al) (val ah) (val bl) (val bh) a3 b3 hd
 · have e1:lowOf al ah bl=al∧highOf al ah bl=ah:=by unfold lowOf highOf ltB; rw [val_nil]; simp [hn]
   rw [e1.1,e1.2]
   simpa using ranged_pos (val al) (val ah) (val bl) (val bh) a3 b3 (by omega)
theorem mulJ_worth (al ah bl bh:Nat) (la:al < 18446744073709551616) (ha:ah < 18446744073709551616) (lb:bl < 18446744073709551616) (hb:bh < 18446744073709551616) (hr:ivR al ah=true) (hs:ivR bl bh=true) (hc:(crossB al ah&&crossB bl bh)=false) :
   ∃ T U,Ranged (val al) (val ah) (val bl) (val bh) T U∧Worth (2 ^ sq) (mulJ al ah bl bh) T U:=by
 unfold mulJ
 cases h:crossB bl bh
 · rw [if_neg Bool.false_ne_true]
   exact mul1_worth al ah bl bh la ha hr hs h
 · rw [if_pos rfl]
   rw [h,Bool.and_true] at hc
   obtain⟨T,U,h1,h2⟩:=mul1_worth bl bh al ah lb hb hs hr hc
   exact ⟨T,U,ranged_swap h1,h2⟩
theorem mul_worth (al ah bl bh:Nat) (la:al < 18446744073709551616) (ha:ah < 18446744073709551616) (lb:bl < 18446744073709551616) (hb:bh < 18446744073709551616) (hr:ivR al ah=true) (hs:ivR bl bh=true) :
   ∃ T U,Ranged (val al) (val ah) (val bl) (val bh) T U∧Worth (2 ^ sq) (mulI al ah bl bh) T U:=by
 obtain⟨a1,a2,a3⟩:=ivR_parts hr
 unfold mulI
 cases h:(crossB al ah&&crossB bl bh)
 · rw [if_neg Bool.false_ne_true]
   exact mulJ_worth al ah bl bh la ha lb hb hr hs h
 · rw [if_pos rfl]
   obtain⟨T,U,h1,h2⟩:=mulJ_worth al al bl bh la la lb hb (ivR_one al a1) hs (by rw [cross_one,Bool.false_and])
   obtain⟨T',U',k1,k2⟩:=mulJ_worth ah ah bl bh ha ha lb hb (ivR_one ah a2) hs (by rw [cross_one,Bool.false_and])
   exact ⟨_,_,ranged_join a3 h1 k1,worth_join two_sq h2 k2⟩
theorem mul_within (al ah bl bh cl ch dl dh:Nat) (la:al < 18446744073709551616) (ha:ah < 18446744073709551616) (lb:bl < 18446744073709551616) (hb:bh < 18446744073709551616) (lc:cl < 18446744073709551616) (hc:ch < 18446744073709551616) (ld:dl < 18446744073709551616) (hd:dh < 18446744073709551616)
   (hr:ivR al ah=true) (hs:ivR bl bh=true) (hr':ivR cl ch=true) (hs':ivR dl dh=true) (h1:val al≤val cl) (h2:val ch≤val ah) (h3:val bl≤val dl) (h4:val dh≤val bh):Within (mulI cl ch dl dh) (mulI al ah bl bh):=by
 obtain⟨T,U,r,wo⟩:=mul_worth al ah bl bh la ha lb hb hr hs
 obtain⟨T',U',r',wo'⟩:=mul_worth cl ch dl dh lc hc ld hd hr' hs'
 obtain⟨g1,g2⟩:=ranged_mono r r' h1 h2 h3 h4
 exact wo.within two_sq wo' g1 g2
end
section
open Go.RowKit
section
variable (al ah bl bh cl ch dl dh:Nat) (la:al < 18446744073709551616) (ha:ah < 18446744073709551616) (lb:bl < 18446744073709551616) (hb:bh < 18446744073709551616) (lc:cl < 18446744073709551616) (hc:ch < 18446744073709551616) (ld:dl < 18446744073709551616) (hd:dh < 18446744073709551616)
 (hr:ivR al ah=true) (hs:ivR bl bh=true) (hr':ivR cl ch=true) (hs':ivR dl dh=true) (h1:val al≤val cl) (h2:val ch≤val ah) (h3:val bl≤val dl) (h4:val dh≤val bh)
include la ha lc hc hr hr' h1 h2 in
theorem neg_within:Within (negI cl ch) (negI al ah):=by
 obtain⟨a1,a2,_⟩:=ivR_parts hr
 obtain⟨c1,c2,_⟩:=ivR_parts hr'
 intro _
 refine ⟨rfl,?_,?_⟩
 · show val (turnW ah)≤val (turnW ch)
   rw [(turn_facts ah ha a2).2.2,(turn_facts ch hc c2).2.2]; omega
 · show val (turnW cl)≤val (turnW al)
   rw [(turn_facts al la a1).2.2,(turn_facts cl lc c1).2.2]; omega
include la ha hr in
theorem abs_facts:absLo al ah < 18446744073709551616∧absHi al ah < 18446744073709551616∧rightB (absLo al ah)=true∧rightB (absHi al ah)=true ∧
   val (absLo al ah)=(if 0≤val al then val al else if val ah≤0 then -val ah else 0)∧val (absHi al ah)=max (val ah) (-val al):=by
 obtain⟨a1,a2,a3⟩:=ivR_parts hr
 obtain⟨t1,t2,t3⟩:=turn_facts al la a1
 obtain⟨u1,u2,u3⟩:=turn_facts ah ha a2
 obtain⟨m1,m2,m3⟩:=max_facts ah (turnW al) ha t1 a2 t2
 unfold absLo absHi leB
 rw [val_nil]
 by_cases h:0≤val al
 · simp only [h,decide_true,if_true]
   exact ⟨la,ha,a1,a2,by simp,by omega⟩
 · by_cases g:val ah≤0
   · simp only [h,g,decide_true,decide_false,if_true,Bool.false_eq_true,if_false]
     exact ⟨u1,t1,u2,t2,u3,by omega⟩
   · simp only [h,g,decide_false,Bool.false_eq_true,if_false]
     exact ⟨by decide,m1,right_0,m2,val_nil,by omega⟩
include la ha lc hc hr hr' h1 h2 in
theorem abs_within:Within (absI cl ch) (absI al ah):=by
 obtain⟨_,_,a3⟩:=ivR_parts hr
 obtain⟨_,_,c3⟩:=ivR_parts hr'
 obtain⟨_,_,_,_,e1,e2⟩:=abs_facts al ah la ha hr
 obtain⟨_,_,_,_,f1,f2⟩:=abs_facts cl ch lc hc hr'
 intro _
 refine ⟨rfl,?_,?_⟩
 · show val (absLo al ah)≤val (absLo cl ch)
   rw [e1,f1]; split <;> split <;> (try split) <;> (try split) <;> omega
 · show val (absHi cl ch)≤val (absHi al ah)
   rw [e2,f2]; omega
include la ha lb hb lc hc ld hd hr hs hr' hs' h1 h2 h3 h4 in
theorem min_within:Within (minI cl ch dl dh) (minI al ah bl bh):=by
 obtain⟨a1,a2,_⟩:=ivR_parts hr
 obtain⟨b1,b2,_⟩:=ivR_parts hs
 obtain⟨c1,c2,_⟩:=ivR_parts hr'
 obtain⟨d1,d2,_⟩:=ivR_parts hs'
 intro _
 refine ⟨rfl,?_,?_⟩
 · show val (minW al bl)≤val (minW cl dl)
   rw [(min_facts al bl la lb a1 b1).2.2,(min_facts cl dl lc ld c1 d1).2.2]; omega
 · show val (minW ch dh)≤val (minW ah bh)
   rw [(min_facts ch dh hc hd c2 d2).2.2,(min_facts ah bh ha hb a2 b2).2.2]; omega
include la ha lb hb lc hc ld hd hr hs hr' hs' h1 h2 h3 h4 in
theorem max_within:Within (maxI cl ch dl dh) (maxI al ah bl bh):=by
 obtain⟨a1,a2,_⟩:=ivR_parts hr
 obtain⟨b1,b2,_⟩:=ivR_parts hs
 obtain⟨c1,c2,_⟩:=ivR_parts hr'
 obtain⟨d1,d2,_⟩:=ivR_parts hs'
 intro _
 refine ⟨rfl,?_,?_⟩
 · show val (maxW al bl)≤val (maxW cl dl)
   rw [(max_facts al bl la lb a1 b1).2.2,(max_facts cl dl lc ld c1 d1).2.2]; omega
 · show val (maxW ch dh)≤val (maxW ah bh)
   rw [(max_facts ch dh hc hd c2 d2).2.2,(max_facts ah bh ha hb a2 b2).2.2]; omega
include la ha lc hc hr hr' h1 h2 in
theorem sqr_within:Within (sqrI cl ch) (sqrI al ah):=by
 obtain⟨_,_,a3⟩:=ivR_parts hr
 obtain⟨_,_,c3⟩:=ivR_parts hr'
 obtain⟨_,_,p1,p2,e1,e2⟩:=abs_facts al ah la ha hr
 obtain⟨_,_,q1,q2,f1,f2⟩:=abs_facts cl ch lc hc hr'
 have g1:0≤val (absLo al ah)∧val (absLo al ah)≤val (absLo cl ch):=by
   rw [e1,f1]; split <;> split <;> (try split) <;> (try split) <;> omega
 have g2:0≤val (absHi cl ch)∧val (absHi cl ch)≤val (absHi al ah):=by rw [e2,f2]; omega
 have k1:val (absLo al ah)*val (absLo al ah)≤val (absLo cl ch)*val (absLo cl ch):=Int.mul_le_mul g1.2 g1.2 g1.1 (by omega)
 have k2:val (absHi cl ch)*val (absHi cl ch)≤val (absHi al ah)*val (absHi al ah):=Int.mul_le_mul g2.2 g2.2 g2.1 (by omega)
 exact (worth_tight two_sq ((mul_dir _ _ p1 p1 false).1 rfl) ((mul_dir _ _ p2 p2 true).2 rfl)).within two_sq (worth_tight two_sq ((mul_dir _ _ q1 q1 false).1 rfl) ((mul_dir _ _ q2 q2 true).2 rfl)) k1 k2
end
end
section
open Go.RowKit
theorem sgn_of_val (a:Nat) (la:a < 18446744073709551616) (ra:rightB a=true):(0≤val a→sgnB a=false)∧(val a < 0→sgnB a=true):=by
 have h:=val_neg a la ra
 refine ⟨fun g=>?_,fun g=>h.1 g⟩
 cases hs:sgnB a
 · rfl
 · have:=h.2 hs; omega
theorem sqrt_within (al ah cl ch:Nat) (la:al < 18446744073709551616) (ha:ah < 18446744073709551616) (lc:cl < 18446744073709551616) (hc:ch < 18446744073709551616) (hr:ivR al ah=true) (hr':ivR cl ch=true) (h1:val al≤val cl) (h2:val ch≤val ah):Within (sqrtI cl ch) (sqrtI al ah):=by
 obtain⟨a1,a2,a3⟩:=ivR_parts hr
 obtain⟨c1,c2,c3⟩:=ivR_parts hr'
 intro he
 have hn:ltB al 0=false:=by
   cases h:ltB al 0
   · rfl
   · unfold sqrtI at he; rw [if_pos h] at he; exact absurd he (by decide)
 have hv:0≤val al:=by
   unfold ltB at hn; rw [val_nil] at hn; simp at hn; exact hn
 have hn':ltB cl 0=false:=by unfold ltB; rw [val_nil]; exact decide_eq_false (by omega)
 have sa:=(sgn_of_val al la a1).1 hv
 have sh:=(sgn_of_val ah ha a2).1 (by omega)
 have sc:=(sgn_of_val cl lc c1).1 (by omega)
 have sd:=(sgn_of_val ch hc c2).1 (by omega)
 obtain⟨p1,p2,p3,_⟩:=sqrt_rungs al a1 sa false
 obtain⟨q1,q2,_,q4⟩:=sqrt_rungs ah a2 sh true
 obtain⟨r1,r2,r3,_⟩:=sqrt_rungs cl c1 sc false
 obtain⟨t1,t2,_,t4⟩:=sqrt_rungs ch c2 sd true
 have e1:sqrtI al ah=⟨0,sqrtW al false,sqrtW ah true⟩:=by unfold sqrtI tightR; rw [if_neg (by rw [hn]; exact Bool.false_ne_true),if_pos p1,if_pos q1]
 have e2:sqrtI cl ch=⟨0,sqrtW cl false,sqrtW ch true⟩:=by unfold sqrtI tightR; rw [if_neg (by rw [hn']; exact Bool.false_ne_true),if_pos r1,if_pos t1]
 rw [e1,e2]
 have va:=val_pos sa
 have vh:=val_pos sh
 have vc:=val_pos sc
 have vd:=val_pos sd
 have l1:steps (rung al)*2 ^ sq≤steps (rung cl)*2 ^ sq:=Nat.mul_le_mul_right _ (by omega)
 have l2:steps (rung ch)*2 ^ sq≤steps (rung ah)*2 ^ sq:=Nat.mul_le_mul_right _ (by omega)
 have m1:sqrtW al false≤sqrtW cl false:=(r3 rfl _).1 (Nat.le_trans ((p3 rfl _).2 (Nat.le_refl _)) l1)
 have m2:sqrtW ch true≤sqrtW ah true:=(t4 rfl _).1 (Nat.le_trans l2 ((q4 rfl _).2 (Nat.le_refl _)))
 have w:∀ x,x≤9218868437227405311→val x=(steps x:Int):=fun x hx=>by
   have:=(sw_facts false x hx).2.2
   rw [sw_false] at this
   exact this
 refine ⟨rfl,?_,?_⟩
 · show val (sqrtW al false)≤val (sqrtW cl false)
   rw [w _ p2,w _ r2]; exact Int.ofNat_le.2 (steps_le m1)
 · show val (sqrtW ch true)≤val (sqrtW ah true)
   rw [w _ t2,w _ q2]; exact Int.ofNat_le.2 (steps_le m2)
theorem sg_by (b:Bool) (A K:Nat):sg b (A*K)=sg b A*(K:Int):=by
 cases b
 · show ((A*K:Nat):Int)=(A:Int)*(K:Int)
   rw [Int.natCast_mul]
 · show -((A*K:Nat):Int)=-(A:Int)*(K:Int)
   rw [Int.natCast_mul,Int.neg_mul]
theorem div_pos (x y:Nat) (rx:rightB x=true) (ly:y < 18446744073709551616) (ry:rightB y=true) (h:0 < val y) (up:Bool) :
   ∃ s:Nat,0 < s∧(s:Int)=val y∧(up=false→Down s (val x*((2 ^ sq:Nat):Int)) (divW x y up) (divE x y up))∧(up=true→Up s (val x*((2 ^ sq:Nat):Int)) (divW x y up) (divE x y up)):=by
 have sy:=(sgn_of_val y ly ry).1 (by omega)
 have hy0:y≠0:=fun e=>by rw [e,val_nil] at h; omega
 have hv:=val_pos sy
 have hd:=div_dir x y rx ry ly hy0 up
 have e:(!(sgnB x == sgnB y))=sgnB x:=by rw [sy]; cases sgnB x <;> rfl
 rw [e,sg_by,←val_sg] at hd
 exact ⟨steps (rung y),by omega,by omega,hd⟩
theorem div_neg (x y:Nat) (rx:rightB x=true) (ly:y < 18446744073709551616) (ry:rightB y=true) (h:val y < 0) (up:Bool) :
   ∃ s:Nat,0 < s∧(s:Int)=-val y∧(up=false→Down s (-val x*((2 ^ sq:Nat):Int)) (divW x y up) (divE x y up))∧(up=true→Up s (-val x*((2 ^ sq:Nat):Int)) (divW x y up) (divE x y up)):=by
 have sy:=(sgn_of_val y ly ry).2 h
 have hy0:y≠0:=fun e=>by rw [e,val_nil] at h; omega
 have hv:=val_negs sy
 have hd:=div_dir x y rx ry ly hy0 up
 have e:(!(sgnB x == sgnB y))=!sgnB x:=by rw [sy]; cases sgnB x <;> rfl
 rw [e,sg_by,neg_sg,←val_sg] at hd
 exact ⟨steps (rung y),by omega,by omega,hd⟩
theorem has_zero {bl bh:Nat} (lb:bl < 18446744073709551616) (hb:bh < 18446744073709551616) (hs:ivR bl bh=true):hasB bl bh 0=decide (val bl≤0∧0≤val bh):=by
 obtain⟨b1,b2,b3⟩:=ivR_parts hs
 unfold hasB
 rw [hs]
 have e1:rawLe bl 0=leB bl 0:=order_le bl 0 lb (by decide) b1 right_0
 have e2:rawLe 0 bh=leB 0 bh:=order_le 0 bh (by decide) hb right_0 b2
 rw [e1,e2]
 unfold leB
 rw [val_nil,Bool.true_and,Bool.eq_iff_iff]
 simp
theorem quo_pos (a b c d a' b' c' d':Int) (hcd:c'≤d') (h1:a≤a') (h2:b'≤b) (h3:c≤c') (h4:d'≤d) (hc:0 < c) :
   a*(if 0≤a' then d' else c')≤a'*(if 0≤a then d else c)∧b'*(if b < 0 then d else c)≤b*(if b' < 0 then d' else c'):=by
 constructor
 · have k:∀ y,c≤y→y≤d→a*y≤a'*(if 0≤a then d else c):=fun y y1 y2=>by
     split
     · rename_i g
       exact Int.le_trans (mul_le_l y2 g) (Int.mul_le_mul_of_nonneg_right h1 (by omega))
     · rename_i g
       exact Int.le_trans (mul_le_n y1 (by omega)) (Int.mul_le_mul_of_nonneg_right h1 (by omega))
   apply k <;> split <;> omega
 · have k:∀ y,c≤y→y≤d→b'*(if b < 0 then d else c)≤b*y:=fun y y1 y2=>by
     split
     · rename_i g
       exact Int.le_trans (Int.mul_le_mul_of_nonneg_right h2 (by omega)) (mul_le_n y2 (by omega))
     · rename_i g
       exact Int.le_trans (Int.mul_le_mul_of_nonneg_right h2 (by omega)) (mul_le_l y1 (by omega))
   apply k <;> split <;> omega
theorem quo_neg (a b c d a' b' c' d':Int) (hcd:c'≤d') (h1:a≤a') (h2:b'≤b) (h3:c≤c') (h4:d'≤d) (hd:d < 0) :
   b*(if 0≤b' then d' else c')≤b'*(if 0≤b then d else c)∧a'*(if a < 0 then d else c)≤a*(if a' < 0 then d' else c'):=by
 constructor
 · have k:∀ y,c≤y→y≤d→b*y≤b'*(if 0≤b then d else c):=fun y y1 y2=>by
     split
     · rename_i g
       exact Int.le_trans (mul_le_l y2 g) (Int.mul_le_mul_of_nonpos_right h2 (by omega))
     · rename_i g
       exact Int.le_trans (mul_le_n y1 (by omega)) (Int.mul_le_mul_of_nonpos_right h2 (by omega))
   apply k <;> split <;> omega
 · have k:∀ y,c≤y→y≤d→a'*(if a < 0 then d else c)≤a*y:=fun y y1 y2=>by
     split
     · rename_i g
       exact Int.le_trans (Int.mul_le_mul_of_nonpos_right h1 (by omega)) (mul_le_n y2 (by omega))
     · rename_i g
       exact Int.le_trans (Int.mul_le_mul_of_nonpos_right h1 (by omega)) (mul_le_l y1 (by omega))
   apply k <;> split <;> omega
theorem scale_mul {x y u v:Int} (K:Nat) (h:x*v≤y*u):x*(K:Int)*v≤y*(K:Int)*u:=by
 have h1:x*v*(K:Int)≤y*u*(K:Int):=Int.mul_le_mul_of_nonneg_right h (by omega)
 rw [Int.mul_assoc x,Int.mul_comm (K:Int) v,←Int.mul_assoc,Int.mul_assoc y,Int.mul_comm (K:Int) u,←Int.mul_assoc]
 exact h1
theorem div_within (al ah bl bh cl ch dl dh:Nat) (lb:bl < 18446744073709551616) (hb:bh < 18446744073709551616) (ld:dl < 18446744073709551616) (hd:dh < 18446744073709551616)
   (hr:ivR al ah=true) (hs:ivR bl bh=true) (hr':ivR cl ch=true) (hs':ivR dl dh=true) (h1:val al≤val cl) (h2:val ch≤val ah) (h3:val bl≤val dl) (h4:val dh≤val bh):Within (divI cl ch dl dh) (divI al ah bl bh):=by
 obtain⟨a1,a2,a3⟩:=ivR_parts hr
 obtain⟨b1,b2,b3⟩:=ivR_parts hs
 obtain⟨c1,c2,c3⟩:=ivR_parts hr'
 obtain⟨d1,d2,d3⟩:=ivR_parts hs'
 intro he
 have hz:¬ (val bl≤0∧0≤val bh):=fun g=>by
   unfold divI at he
   rw [if_pos (by rw [has_zero lb hb hs]; exact decide_eq_true g)] at he
   exact absurd he (by decide)
 have e1:divI al ah bl bh=div1 al ah bl bh:=by unfold divI; rw [if_neg (by rw [has_zero lb hb hs]; simpa using hz)]
 have e2:divI cl ch dl dh=div1 cl ch dl dh:=by unfold divI; rw [if_neg (by rw [has_zero ld hd hs']; simp; omega)]
 rw [e1] at he ⊢
 rw [e2]
 revert he
 show Within (div1 cl ch dl dh) (div1 al ah bl bh)
 unfold div1 leB ltB
 rw [val_nil]
 rcases (show 0 < val bl∨val bh < 0 by omega) with hp | hn
 · have f1:lowOf al ah bl=al∧highOf al ah bl=ah:=by unfold lowOf highOf ltB; rw [val_nil]; simp; omega
   have f2:lowOf cl ch dl=cl∧highOf cl ch dl=ch:=by unfold lowOf highOf ltB; rw [val_nil]; simp; omega
   rw [f1.1,f1.2,f2.1,f2.2]
   obtain⟨k1,k2⟩:=quo_pos (val al) (val ah) (val bl) (val bh) (val cl) (val ch) (val dl) (val dh) d3 h1 h2 h3 h4 hp
   have pe:∀ u,0 < val (endW bl bh u):=fun u=>by rw [val_end]; split <;> omega
   have qe:∀ u,0 < val (endW dl dh u):=fun u=>by rw [val_end]; split <;> omega
   obtain⟨s,s0,s1,s2,_⟩:=div_pos al (endW bl bh (decide (0≤val al))) a1 (end_lt bl bh _ lb hb) (end_right bl bh _ b1 b2) (pe _) false
   obtain⟨u,u0,u1,_,u2⟩:=div_pos ah (endW bl bh (decide (val ah < 0))) a2 (end_lt bl bh _ lb hb) (end_right bl bh _ b1 b2) (pe _) true
   obtain⟨s',_,t1,t2,_⟩:=div_pos cl (endW dl dh (decide (0≤val cl))) c1 (end_lt dl dh _ ld hd) (end_right dl dh _ d1 d2) (qe _) false
   obtain⟨u',_,v1,_,v2⟩:=div_pos ch (endW dl dh (decide (val ch < 0))) c2 (end_lt dl dh _ ld hd) (end_right dl dh _ d1 d2) (qe _) true
   rw [val_end] at s1 u1 t1 v1
   simp only [decide_eq_true_eq] at s1 u1 t1 v1
   refine tight_within s0 u0 (s2 rfl) (u2 rfl) (t2 rfl) (v2 rfl) (scale_mul _ ?_) (scale_mul _ ?_)
   · rw [s1,t1]; exact k1
   · rw [u1,v1]; exact k2
 · have f1:lowOf al ah bl=ah∧highOf al ah bl=al:=by unfold lowOf highOf ltB; rw [val_nil]; simp; omega
   have f2:lowOf cl ch dl=ch∧highOf cl ch dl=cl:=by unfold lowOf highOf ltB; rw [val_nil]; simp; omega
   rw [f1.1,f1.2,f2.1,f2.2]
   obtain⟨k1,k2⟩:=quo_neg (val al) (val ah) (val bl) (val bh) (val cl) (val ch) (val dl) (val dh) d3 h1 h2 h3 h4 hn
   have pe:∀ u,val (endW bl bh u) < 0:=fun u=>by rw [val_end]; split <;> omega
   have qe:∀ u,val (endW dl dh u) < 0:=fun u=>by rw [val_end]; split <;> omega
   obtain⟨s,s0,s1,s2,_⟩:=div_neg ah (endW bl bh (decide (0≤val ah))) a2 (end_lt bl bh _ lb hb) (end_right bl bh _ b1 b2) (pe _) false
   obtain⟨u,u0,u1,_,u2⟩:=div_neg al (endW bl bh (decide (val al < 0))) a1 (end_lt bl bh _ lb hb) (end_right bl bh _ b1 b2) (pe _) true
   obtain⟨s',_,t1,t2,_⟩:=div_neg ch (endW dl dh (decide (0≤val ch))) c2 (end_lt dl dh _ ld hd) (end_right dl dh _ d1 d2) (qe _) false
   obtain⟨u',_,v1,_,v2⟩:=div_neg cl (endW dl dh (decide (val cl < 0))) c1 (end_lt dl dh _ ld hd) (end_right dl dh _ d1 d2) (qe _) true
   rw [val_end] at s1 u1 t1 v1
   simp only [decide_eq_true_eq] at s1 u1 t1 v1
   refine tight_within s0 u0 (s2 rfl) (u2 rfl) (t2 rfl) (v2 rfl) (scale_mul _ ?_) (scale_mul _ ?_)
   · rw [s1,t1,Int.neg_mul_neg,Int.neg_mul_neg]; exact k1
   · rw [u1,v1,Int.neg_mul_neg,Int.neg_mul_neg]; exact k2
end
section
open Go.RowKit
def Nums (R:Res):Prop:=R.e=0→R.lo < 18446744073709551616∧rightB R.lo=true∧R.hi < 18446744073709551616∧rightB R.hi=true
theorem num_tight {lo hi:Nat} {e f:Int} (h:e=0→lo < 18446744073709551616∧rightB lo=true) (k:f=0→hi < 18446744073709551616∧rightB hi=true):Nums (tightR lo e hi f):=by
 intro he
 obtain⟨rfl,rfl,h3⟩:=tight_e he
 rw [h3]
 exact ⟨(h rfl).1,(h rfl).2,(k rfl).1,(k rfl).2⟩
theorem both_right {a b:Nat} {e:Int} (h:(if rightB a&&rightB b then e else 13)=0):rightB a=true∧rightB b=true:=by
 cases ra:rightB a
 · rw [ra,Bool.false_and,if_neg Bool.false_ne_true] at h; exact absurd h (by decide)
 · cases rb:rightB b
   · rw [ra,rb,Bool.and_false,if_neg Bool.false_ne_true] at h; exact absurd h (by decide)
   · exact ⟨rfl,rfl⟩
theorem num_add (a b:Nat) (up:Bool) (h:addE a b up=0):addW a b up < 18446744073709551616∧rightB (addW a b up)=true:=by
 obtain⟨ra,rb⟩:=both_right h
 cases up
 · have d:=add_down a b ra rb
   rw [h] at d; exact ⟨d.ok.1,d.ok.2.1⟩
 · have d:=add_up a b ra rb
   rw [h] at d; exact ⟨d.ok.1,d.ok.2.1⟩
theorem num_sub (a b:Nat) (up:Bool) (h:subE a b up=0):subW a b up < 18446744073709551616∧rightB (subW a b up)=true:=by
 obtain⟨ra,rb⟩:=both_right h
 cases up
 · have d:=sub_down a b ra rb
   rw [h] at d; exact ⟨d.ok.1,d.ok.2.1⟩
 · have d:=sub_up a b ra rb
   rw [h] at d; exact ⟨d.ok.1,d.ok.2.1⟩
theorem num_mul (a b:Nat) (up:Bool) (h:mulE a b up=0):mulW a b up < 18446744073709551616∧rightB (mulW a b up)=true:=by
 obtain⟨ra,rb⟩:=both_right h
 have d:=mul_dir a b ra rb up
 cases up
 · have d:=d.1 rfl
   rw [h] at d; exact ⟨d.ok.1,d.ok.2.1⟩
 · have d:=d.2 rfl
   rw [h] at d; exact ⟨d.ok.1,d.ok.2.1⟩
theorem num_div (a b:Nat) (up:Bool) (lb:b < 18446744073709551616) (h:divE a b up=0):divW a b up < 18446744073709551616∧rightB (divW a b up)=true:=by
 obtain⟨ra,rb⟩:=both_right h
 by_cases h0:b=0
 · exfalso
   unfold divE at h
   rw [ra,rb,show (true&&true)=true from rfl,if_pos rfl,if_pos h0] at h
   exact absurd h (by decide)
 · rcases Int.lt_trichotomy (val b) 0 with g | g | g
   · obtain⟨s,_,_,d1,d2⟩:=div_neg a b ra lb rb g up
     cases up
     · have d:=d1 rfl
       rw [h] at d; exact ⟨d.ok.1,d.ok.2.1⟩
     · have d:=d2 rfl
       rw [h] at d; exact ⟨d.ok.1,d.ok.2.1⟩
   · exact absurd (val_inj lb (by decide) rb right_0 (by rw [g,val_0])) h0
   · obtain⟨s,_,_,d1,d2⟩:=div_pos a b ra lb rb g up
     cases up
     · have d:=d1 rfl
       rw [h] at d; exact ⟨d.ok.1,d.ok.2.1⟩
     · have d:=d2 rfl
       rw [h] at d; exact ⟨d.ok.1,d.ok.2.1⟩
theorem num_sqrt (a:Nat) (up:Bool) (h:sqrtE a up=0):sqrtW a up < 18446744073709551616∧rightB (sqrtW a up)=true:=by
 have ra:rightB a=true:=by
   cases ra:rightB a
   · unfold sqrtE at h; rw [ra,if_neg Bool.false_ne_true] at h; exact absurd h (by decide)
   · rfl
 have sa:sgnB a=false:=by
   cases sa:sgnB a
   · rfl
   · unfold sqrtE at h; rw [ra,sa,if_pos rfl,if_pos rfl] at h; exact absurd h (by decide)
 obtain⟨_,a2,_⟩:=sqrt_rungs a ra sa up
 obtain⟨p1,p2,_⟩:=pos_facts (sqrtW a up) (by omega)
 exact ⟨p1,p2⟩
theorem ask_nums (al ah bl bh j:Nat) (hj:j < 11) (la:al < 18446744073709551616) (ha:ah < 18446744073709551616) (lb:bl < 18446744073709551616) (hb:bh < 18446744073709551616) (r1:ivR al ah=true) (r2:ivR bl bh=true):Nums (askI al ah bl bh j):=by
 obtain⟨a1,a2,_⟩:=ivR_parts r1
 obtain⟨b1,b2,_⟩:=ivR_parts r2
 rcases (show j=0∨j=1∨j=2∨j=3∨j=4∨j=5∨j=6∨j=7∨j=8∨j=9∨j=10 by omega) with rfl | rfl | rfl | rfl | rfl | rfl | rfl | rfl | rfl | rfl | rfl
 · exact num_tight (num_add _ _ _) (num_add _ _ _)
 · exact num_tight (num_sub _ _ _) (num_sub _ _ _)
 · intro he
   obtain⟨T,U,_,wo⟩:=mul_worth al ah bl bh la ha lb hb r1 r2
   obtain⟨d,u⟩:=wo.ends he
   exact ⟨d.ok.1,d.ok.2.1,u.ok.1,u.ok.2.1⟩
 · show Nums (divI al ah bl bh)
   unfold divI
   by_cases hz:hasB bl bh 0=true
   · rw [if_pos hz]; intro he; exact absurd he (by decide)
   · rw [if_neg hz]
     exact num_tight (num_div _ _ _ (end_lt bl bh _ lb hb)) (num_div _ _ _ (end_lt bl bh _ lb hb))
 · intro _
   obtain⟨m1,m2,_⟩:=min_facts al bl la lb a1 b1
   obtain⟨n1,n2,_⟩:=min_facts ah bh ha hb a2 b2
   exact ⟨m1,m2,n1,n2⟩
 · intro _
   obtain⟨m1,m2,_⟩:=max_facts al bl la lb a1 b1
   obtain⟨n1,n2,_⟩:=max_facts ah bh ha hb a2 b2
   exact ⟨m1,m2,n1,n2⟩
 · exact num_tight (num_mul _ _ _) (num_mul _ _ _)
 · show Nums (sqrtI al ah)
   unfold sqrtI
   by_cases hz:ltB al 0=true
   · rw [if_pos hz]; intro he; exact absurd he (by decide)
   · rw [if_neg hz]
     exact num_tight (num_sqrt _ _) (num_sqrt _ _)
 · intro _
   obtain⟨m1,m2,_⟩:=turn_facts ah ha a2
   obtain⟨n1,n2,_⟩:=turn_facts al la a1
   exact ⟨m1,m2,n1,n2⟩
 · intro _
   obtain⟨m1,m2,m3,m4,_⟩:=abs_facts al ah la ha r1
   exact ⟨m1,m3,m2,m4⟩
 · show Nums (ofI al)
   unfold ofI
   rw [if_pos a1]
   intro _
   exact ⟨la,a1,la,a1⟩
theorem ask_within (al ah bl bh cl ch dl dh j:Nat) (hj:j < 11) (la:al < 18446744073709551616) (ha:ah < 18446744073709551616) (lb:bl < 18446744073709551616) (hb:bh < 18446744073709551616) (lc:cl < 18446744073709551616) (hc:ch < 18446744073709551616) (ld:dl < 18446744073709551616) (hd:dh < 18446744073709551616)
   (r1:ivR al ah=true) (r2:ivR bl bh=true) (r3:ivR cl ch=true) (r4:ivR dl dh=true) (h1:val al≤val cl) (h2:val ch≤val ah) (h3:val bl≤val dl) (h4:val dh≤val bh) (h10:j=10→al=ah) :
   Within (askI cl ch dl dh j) (askI al ah bl bh j):=by
 rcases (show j=0∨j=1∨j=2∨j=3∨j=4∨j=5∨j=6∨j=7∨j=8∨j=9∨j=10 by omega) with rfl | rfl | rfl | rfl | rfl | rfl | rfl | rfl | rfl | rfl | rfl
 · exact add_within al ah bl bh cl ch dl dh r1 r2 r3 r4 h1 h2 h3 h4
 · exact sub_within al ah bl bh cl ch dl dh r1 r2 r3 r4 h1 h2 h3 h4
 · exact mul_within al ah bl bh cl ch dl dh la ha lb hb lc hc ld hd r1 r2 r3 r4 h1 h2 h3 h4
 · exact div_within al ah bl bh cl ch dl dh lb hb ld hd r1 r2 r3 r4 h1 h2 h3 h4
 · exact min_within al ah bl bh cl ch dl dh la ha lb hb lc hc ld hd r1 r2 r3 r4 h1 h2 h3 h4
 · exact max_within al ah bl bh cl ch dl dh la ha lb hb lc hc ld hd r1 r2 r3 r4 h1 h2 h3 h4
 · exact sqr_within al ah cl ch la ha lc hc r1 r3 h1 h2
 · exact sqrt_within al ah cl ch la ha lc hc r1 r3 h1 h2
 · exact neg_within al ah cl ch la ha lc hc r1 r3 h1 h2
 · exact abs_within al ah cl ch la ha lc hc r1 r3 h1 h2
 · have e:=h10 rfl
   subst e
   obtain⟨a1,a2,_⟩:=ivR_parts r1
   obtain⟨c1,c2,c3⟩:=ivR_parts r3
   show Within (ofI cl) (ofI al)
   unfold ofI
   rw [if_pos a1,if_pos c1]
   intro _
   exact ⟨rfl,h1,by show val cl≤val al; omega⟩
end
section
open Go.RowKit
def Nil0 (R:Res):Prop:=R.e≠0→R.lo=0∧R.hi=0
theorem nil_tight (lo hi:Nat) (e f:Int):Nil0 (tightR lo e hi f):=by
 intro h
 unfold tightR at h ⊢
 by_cases he:e=0
 · rw [if_pos he] at h ⊢
   by_cases hf:f=0
   · rw [if_pos hf] at h; exact absurd rfl h
   · rw [if_neg hf]; exact ⟨rfl,rfl⟩
 · rw [if_neg he]; exact ⟨rfl,rfl⟩
theorem nil_none (e:Int):Nil0 ⟨e,0,0⟩:=fun _=>⟨rfl,rfl⟩
theorem nil_some (a b:Nat):Nil0 ⟨0,a,b⟩:=fun h=>absurd rfl h
theorem nil_join (R R':Res):Nil0 (joinR R R'):=by
 unfold joinR
 split
 · split
   · exact nil_some _ _
   · exact nil_none _
 · exact nil_none _
theorem nil_mulJ (al ah bl bh:Nat):Nil0 (mulJ al ah bl bh):=by
 unfold mulJ
 split
 · exact nil_tight _ _ _ _
 · exact nil_tight _ _ _ _
theorem ask_nil (e:Int) (al ah bl bh j:Nat) (hj:j < 11):Nil0 (askR e al ah bl bh j):=by
 unfold askR stepI
 by_cases he:e=0
 · rw [if_pos he]
   cases askB al ah bl bh j
   · rw [if_neg Bool.false_ne_true]; exact nil_none _
   · rw [if_pos rfl]
     rcases (show j=0∨j=1∨j=2∨j=3∨j=4∨j=5∨j=6∨j=7∨j=8∨j=9∨j=10 by omega) with rfl | rfl | rfl | rfl | rfl | rfl | rfl | rfl | rfl | rfl | rfl
     · exact nil_tight _ _ _ _
     · exact nil_tight _ _ _ _
     · show Nil0 (mulI al ah bl bh)
       unfold mulI
       split
       · exact nil_join _ _
       · exact nil_mulJ _ _ _ _
     · show Nil0 (divI al ah bl bh)
       unfold divI
       split
       · exact nil_none _
       · exact nil_tight _ _ _ _
     · exact nil_some _ _
     · exact nil_some _ _
     · exact nil_tight _ _ _ _
     · show Nil0 (sqrtI al ah)
       unfold sqrtI
       split
       · exact nil_none _
       · exact nil_tight _ _ _ _
     · exact nil_some _ _
     · exact nil_some _ _
     · show Nil0 (ofI al)
       unfold ofI
       split
       · exact nil_some _ _
       · exact nil_none _
 · rw [if_neg he]; exact nil_none _
end
end Go.Proofs.YtnaomilkgfkegaaGreat
