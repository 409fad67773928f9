/- What the claim stands on, part 23: QFA, QM, QHm, QO2, QFD. -/
import Derived.Test.YtnaomilkgfkegaaGreatTA17
import Derived.LoopN
import Derived.Deep.RegionHeld3
import Derived.Test.YtnaomilkgfkegaaGreatTA9
set_option maxRecDepth 100000
namespace Go.Proofs.YtnaomilkgfkegaaGreat
section
open Go.RowKit
section
variable {P:Program} {ops:Array Oper} {Q:Exit→Act→World→Prop} {md:Region.Mode} {S:World→Prop} {T:List Nat}
def lstOf (L0:Array Bool) (cs ms:List Nat) (k:Nat) (p:List Bool):Array Bool:=
 (ms.zip p).foldl (fun l x=>if x.2 then l.setIfInBounds x.1 true else l) ((cs.take k).foldl (fun l i=>l.setIfInBounds i true) L0)
def boolLists:Nat→List (List Bool)
 | 0=>[[]]
 | n+1=>(boolLists n).flatMap fun l=>[false :: l,true :: l]
theorem mem_bools:∀ (p:List Bool),p∈boolLists p.length
 | []=>by simp [boolLists]
 | b :: p=>by
   have h:=mem_bools p
   simp only [boolLists,List.length_cons,List.mem_flatMap]
   exact ⟨p,h,by cases b <;> simp⟩
def latAt (md:Region.Mode) (ops:Array Oper) (L0:Array Bool) (cs ms:List Nat) (k:Nat) (p:List Bool):Bool:=
 (decide (k=cs.length)&&p.all id) ||
 (!(Region.ready md ops (lstOf L0 cs ms k p)).isEmpty &&
  (Region.ready md ops (lstOf L0 cs ms k p)).all (fun i =>
   (match cs[k]? with
     | some j=>i == j&&((lstOf L0 cs ms k p).setIfInBounds i true == lstOf L0 cs ms (k+1) p)
     | none=>false) ||
   (List.range ms.length).any (fun m=>ms[m]? == some i&&p[m]? == some false&&((lstOf L0 cs ms k p).setIfInBounds i true == lstOf L0 cs ms k (p.set m true)))))
theorem count_set:∀ (p:List (Option Nat)) (m q:Nat),p[m]? = some none→(p.set m (some q)).count none+1=p.count none
 | [],m,q,h=>by simp at h
 | x :: p,0,q,h=>by
   simp at h
   subst h
   simp
 | x :: p,m+1,q,h=>by
   have ih:=count_set p m q (by simpa using h)
   simp only [List.set_cons_succ,List.count_cons]
   omega
theorem count_nil:∀ (p:List (Option Nat)),p.count none=0→∀ x∈p,x.isSome=true
 | [],_,_,h=>by cases h
 | y :: p,h,x,hx=>by
   rw [List.count_cons] at h
   rcases List.mem_cons.1 hx with e | e
   · subst e
     cases x
     · simp at h
     · rfl
   · exact count_nil p (by omega) x e
end
end
section
open Go.RowKit
structure Own (B:World) (l:List (Nat×Array Value)) (v:World):Prop where
 base:Below B.heap.size B v
 blocks:∀ x,x∈l→Has1 v x∧B.heap.size≤x.1
 apart:l.Pairwise (fun x y=>x.1≠y.1)
section
variable {B v v':World} {l:List (Nat×Array Value)}
theorem Own.nil (B:World):Own B [] B:=⟨Below.refl _ _,fun x h=>(by cases h),List.Pairwise.nil⟩
theorem Own.below (h:Own B l v) (hb:Below v.heap.size v v'):Own B l v':=⟨h.base.trans (hb.mono h.base.size),fun x hx=>⟨(h.blocks x hx).1.below hb,(h.blocks x hx).2⟩,h.apart⟩
theorem Own.drew (h:Own B l v):Own B l v.drew:=⟨h.base.drew,h.blocks,h.apart⟩
theorem Own.made (h:Own B l v) (c:Array Value) (t:TypeId):Own B ((v.heap.size,c) :: l) (v.alloc (.cells c t)):=
 ⟨h.base.alloc h.base.size _,fun x hx=>(by
   rcases List.mem_cons.1 hx with e | e
   · rw [e]; exact ⟨Has1.made v c t,h.base.size⟩
   · exact ⟨(h.blocks x e).1.below (bel1 _ _),(h.blocks x e).2⟩),
  List.Pairwise.cons (fun y hy=>Ne.symm (Nat.ne_of_lt (h.blocks y hy).1.1)) h.apart⟩
theorem Own.nth (h:Own B l v) (i:Nat) {x:Nat×Array Value} (hx:l[i]? = some x):Has1 v x:=(h.blocks x (List.mem_of_getElem? hx)).1
theorem Own.lowest (h:Own B l v) (i:Nat) {x:Nat×Array Value} (hx:l[i]? = some x):B.heap.size≤x.1:=(h.blocks x (List.mem_of_getElem? hx)).2
theorem Own.ne (h:Own B l v) (i j:Nat) {x y:Nat×Array Value} (hx:l[i]? = some x) (hy:l[j]? = some y) (hij:i≠j):x.1≠y.1:=by
 obtain⟨li,ei⟩:=List.getElem?_eq_some_iff.1 hx
 obtain⟨lj,ej⟩:=List.getElem?_eq_some_iff.1 hy
 have hp:=List.pairwise_iff_getElem.1 h.apart
 rcases Nat.lt_or_ge i j with g | g
 · rw [←ei,←ej]; exact hp i j li lj g
 · rw [←ei,←ej]; exact Ne.symm (hp j i lj li (by omega))
theorem Own.at (h:Own B l v) (i:Nat) {q:Nat} {c c':Array Value} (hi:l[i]? = some (q,c)) (hbase:Below B.heap.size B v') (hq:Has1 v' (q,c')) (hother:∀ x,Has1 v x→q≠x.1→Has1 v' x):Own B (l.set i (q,c')) v' where
 base:=hbase
 blocks:=fun x hx=>by
   obtain⟨j,lj,ej⟩:=List.mem_iff_getElem.1 hx
   rw [List.getElem_set] at ej
   split at ej
   · rw [←ej]; exact ⟨hq,(h.lowest i hi:B.heap.size≤(q,c).1)⟩
   · rename_i hne
     rw [List.length_set] at lj
     have hj:l[j]? = some x:=by rw [List.getElem?_eq_getElem lj,ej]
     exact ⟨hother x (h.nth j hj) (h.ne i j hi hj hne),h.lowest j hj⟩
 apart:=by
   rw [List.pairwise_iff_getElem]
   have hp:=List.pairwise_iff_getElem.1 h.apart
   obtain⟨li,ei⟩:=List.getElem?_eq_some_iff.1 hi
   have e1:∀ (j:Nat) (lj:j < (l.set i (q,c')).length),((l.set i (q,c'))[j]).1=(l[j]'(by rw [List.length_set] at lj; exact lj)).1:=fun j lj=>by
     rw [List.getElem_set]
     split
     · rename_i he
       subst he
       rw [ei]
     · rfl
   intro j k lj lk hjk
   rw [e1 j lj,e1 k lk]
   rw [List.length_set] at lj lk
   exact hp j k lj lk hjk
theorem Own.putAt (h:Own B l v) (i:Nat) {q:Nat} {x y:Value} (hi:l[i]? = some (q,#[x])) (hb:Put ⟨q,0,none⟩ y v v'):Own B (l.set i (q,#[y])) v':=
 h.at i hi (h.base.trans (hb.lift (h.lowest i hi) h.base.size)) ((h.nth i hi).own hb) (fun _ hx hne=>hx.put hne hb)
theorem Own.set2 (h:Own B l v) (i:Nat) {q:Nat} {x y:Value} (hi:l[i]? = some (q,#[x,y])) (x' y':Value):Own B (l.set i (q,#[x',y'])) ((v.setCell ⟨q,0,none⟩ x').setCell ⟨q,1,none⟩ y'):=
 h.at i hi ((h.base.setCell (h.lowest i hi) _).setCell (h.lowest i hi) _) ((h.nth i hi).set2 x' y') (fun _ hx hne=>(hx.set hne).set hne)
theorem Own.set6 (h:Own B l v) (i:Nat) {q:Nat} {z0 z1 z2 z3 z4 z5:Value} (hi:l[i]? = some (q,#[z0,z1,z2,z3,z4,z5])) (y0 y1 y2 y3 y4 y5:Value) :
   Own B (l.set i (q,#[y0,y1,y2,y3,y4,y5])) ((((((v.setCell ⟨q,0,none⟩ y0).setCell ⟨q,1,none⟩ y1).setCell ⟨q,2,none⟩ y2).setCell ⟨q,3,none⟩ y3).setCell ⟨q,4,none⟩ y4).setCell ⟨q,5,none⟩ y5):=
 h.at i hi ((((((h.base.setCell (h.lowest i hi) _).setCell (h.lowest i hi) _).setCell (h.lowest i hi) _).setCell (h.lowest i hi) _).setCell (h.lowest i hi) _).setCell (h.lowest i hi) _)
   ((((((( h.nth i hi).setIn 0 y0).setIn 1 y1).setIn 2 y2).setIn 3 y3).setIn 4 y4).setIn 5 y5) (fun _ hx hne=>(((((hx.set hne).set hne).set hne).set hne).set hne).set hne)
end
structure OwnF (B:World) (l:List (Nat×Array Value)) (zc:List (Array Value)) (p:List (Option Nat)) (v:World):Prop where
 own:Own B l v
 blk:∀ (m q:Nat),p[m]? = some (some q)→(∃ c,zc[m]? = some c∧Has1 v (q,c))∧B.heap.size≤q∧∀ x,x∈l→q≠x.1
 apart:∀ (m n q:Nat),p[m]? = some (some q)→p[n]? = some (some q)→m=n
section
variable {B v v':World} {l:List (Nat×Array Value)} {zc:List (Array Value)} {p:List (Option Nat)}
theorem OwnF.start (h:Own B l v) (n:Nat):OwnF B l zc (List.replicate n none) v:=
 ⟨h,fun m q hm=>by simp [List.getElem?_replicate] at hm,fun m n' q hm=>by simp [List.getElem?_replicate] at hm⟩
theorem OwnF.below (h:OwnF B l zc p v) (hb:Below v.heap.size v v'):OwnF B l zc p v':=
 ⟨h.own.below hb,fun m q hm=>by
   obtain⟨⟨c,h1,h2⟩,h3⟩:=h.blk m q hm
   exact ⟨⟨c,h1,h2.below hb⟩,h3⟩,h.apart⟩
theorem OwnF.putAt (h:OwnF B l zc p v) (i:Nat) {q:Nat} {x0 y:Value} (hi:l[i]? = some (q,#[x0])) (hb:Put ⟨q,0,none⟩ y v v'):OwnF B (l.set i (q,#[y])) zc p v':=
 ⟨h.own.putAt i hi hb,fun m r hm=>by
   obtain⟨⟨c,h1,h2⟩,h3,h4⟩:=h.blk m r hm
   refine ⟨⟨c,h1,h2.put (Ne.symm (h4 _ (List.mem_of_getElem? hi))) hb⟩,h3,fun x hx=>?_⟩
   rcases List.mem_or_eq_of_mem_set hx with e | e
   · exact h4 x e
   · rw [e]; exact (h4 _ (List.mem_of_getElem? hi):r≠(q,#[x0]).1),h.apart⟩
theorem OwnF.alloc (h:OwnF B l zc p v) {m:Nat} {c:Array Value} (_hm:p[m]? = some none) (hz:zc[m]? = some c) (t:TypeId):OwnF B l zc (p.set m (some v.heap.size)) (v.alloc (.cells c t)) where
 own:=h.own.below (bel1 _ _)
 blk:=fun n q hn=>by
   rw [List.getElem?_set] at hn
   split at hn
   · rename_i e
     subst e
     split at hn
     · simp at hn
       subst hn
       exact ⟨⟨c,hz,Has1.made v c t⟩,h.own.base.size,fun x hx=>Ne.symm (Nat.ne_of_lt (h.own.blocks x hx).1.1)⟩
     · simp at hn
   · obtain⟨⟨c',h1,h2⟩,h3⟩:=h.blk n q hn
     exact ⟨⟨c',h1,h2.below (bel1 _ _)⟩,h3⟩
 apart:=fun n n' q hn hn'=>by
   have key:∀ j,(p.set m (some v.heap.size))[j]? = some (some q)→(j=m∧q=v.heap.size)∨(j≠m∧p[j]? = some (some q)):=fun j hj=>by
     rw [List.getElem?_set] at hj
     split at hj
     · rename_i e
       split at hj
       · simp at hj; exact Or.inl ⟨e.symm,hj.symm⟩
       · simp at hj
     · rename_i e; exact Or.inr ⟨fun e'=>e e'.symm,hj⟩
   have small:∀ j,p[j]? = some (some q)→q < v.heap.size:=fun j hj=>by
     obtain⟨⟨c',_,h2⟩,_⟩:=h.blk j q hj
     exact h2.1
   rcases key n hn with ⟨e1,e2⟩ | ⟨e1,e2⟩ <;> rcases key n' hn' with ⟨g1,g2⟩ | ⟨g1,g2⟩
   · omega
   · have:=small n' g2; omega
   · have:=small n e2; omega
   · exact h.apart n n' q e2 g2
theorem OwnF.fin1 {c1:Array Value} {q1:Nat} (h:OwnF B l [c1] [some q1] v):Own B ((q1,c1) :: l) v:=by
 obtain⟨⟨c,a1,a2⟩,a3,a4⟩:=h.blk 0 q1 rfl
 obtain rfl:c1=c:=by simpa using a1
 refine ⟨h.own.base,fun x hx=>?_,List.Pairwise.cons (fun y hy=>a4 y hy) h.own.apart⟩
 rcases List.mem_cons.1 hx with e | e
 · rw [e]; exact ⟨a2,a3⟩
 · exact h.own.blocks x e
end
section
variable {P:Program} {ops:Array Oper} {Q:Exit→Act→World→Prop} {md:Region.Mode} {S:World→Prop} {T:List Nat}
theorem op_step {i:Nat} {o:Oper} {a:Act} {w:World} {J:Act→World→Prop} (hi:ops[i]? = some o)
   (h:∀ K:Act→World→Prop,Shut (∀ b v,J b v→K b v)→if Region.wanted o (yielded ops a.tmps) then o.wp P a w K Q else K (a.put o.dst undef) w):wpOp P ops Q i J a w:=by
 have k:=h J (fun _ _ h=>h)
 unfold wpOp
 simp only [hi]
 split at k
 · rename_i hw
   rw [if_pos hw]; exact Or.inl k
 · rename_i hw
   rw [if_neg hw]; exact k
theorem put_ex {a:Act} {s:Nat} (h:s < a.tmps.size):∃ y,a.put (some s) y=a:=by
 refine ⟨a.tmps[s],?_⟩
 cases a
 simp only [Act.put]
 congr 1
 apply Array.ext (by simp)
 intro i h1 h2
 rw [Array.getElem_setIfInBounds]
 split
 · rename_i e; subst e; rfl
 · rfl
end
theorem fin_one {p:List (Option Nat)} (hp:p.length=1) (h:∀ x∈p,x.isSome=true):∃ q,p=[some q]:=by
 match p,hp with
 | [some q],_=>exact ⟨q,rfl⟩
 | [none],_=>exact absurd (h none (by simp)) (by decide)
theorem ptr_set {p:List (Option Nat)} {m n q:Nat} (h:(p.set m (some n))[m]? = some (some q)):(.pointer (some ⟨n,0,none⟩):Value) = .pointer (some ⟨q,0,none⟩):=by
 rw [List.getElem?_set,if_pos rfl] at h
 split at h
 · simp at h; rw [h]
 · simp at h
section
variable {P:Program} {ops:Array Oper} {Q:Exit→Act→World→Prop} {md:Region.Mode} {S:World→Prop} {T:List Nat}
end
end
section
open Go.RowKit
section
variable {P:Program} {ops:Array Oper} {Q:Exit→Act→World→Prop} {md:Region.Mode} {S:World→Prop} {T:List Nat}
end
end
section
open Go.RowKit
abbrev RowL:=List (Nat×Array Value)
section
variable {B v:World} {l:RowL} {x y z:Nat×Array Value}
theorem Own.front (h:Own B (x :: y :: l) v):Own B (y :: x :: l) v:=by
 have h1:=List.pairwise_cons.1 h.apart
 have h2:=List.pairwise_cons.1 h1.2
 refine ⟨h.base,fun r hr=>h.blocks r ?_,?_⟩
 · simp only [List.mem_cons] at hr ⊢
   rcases hr with e | e | e <;> simp [e]
 · refine List.pairwise_cons.2 ⟨fun r hr=>?_,List.pairwise_cons.2 ⟨fun r hr=>h1.1 r (List.mem_cons_of_mem _ hr),h2.2⟩⟩
   rcases List.mem_cons.1 hr with e | e
   · rw [e]; exact Ne.symm (h1.1 y (List.mem_cons_self ..))
   · exact h2.1 r e
end
section
variable {B v v':World} {l:RowL} {q:Nat} {x y x' y':Value} {z:Nat×Array Value}
theorem OwnF.putHead {zc:List (Array Value)} {p:List (Option Nat)} (h:OwnF B ((q,#[x]) :: l) zc p v) (hb:Put ⟨q,0,none⟩ y v v'):OwnF B ((q,#[y]) :: l) zc p v':=h.putAt 0 rfl hb
end
theorem tk {P:Program} {ops:Array Oper} {Q:Exit→Act→World→Prop} {md:Region.Mode} {S:World→Prop} {o:Oper} {x:Value} {n:Nat} {listed:Array Bool} {a:Act} {w:World} (i:Nat) (hi:ops[i]? = some o)
   (hb:(Region.noSelect ops&&Region.free md ops listed i&&(Region.ready md ops listed).contains i&&closedB md ops listed)=true)
   (hy:Region.wanted o (yielded ops a.tmps)=true∧∀ w,S w→(execOp a.eval o).run P w = .ok (.value x) w) (hQ:∀ c a w,Q (.panic c) (a.put o.dst x) w→Q (.panic c) a w) (hS:S w)
   (h:wpAnyV P md ops Q S [] n (listed.setIfInBounds i true) (a.put o.dst x) w):wpAnyV P md ops Q S [] (n+1) listed a w:=by
 simp only [Bool.and_eq_true] at hb
 exact tails_take hi hb.1.1.1 hb.1.1.2 hb.1.2 (by rw [hb.2]; rfl) hQ (Or.inl hy) hS h
theorem tq {P:Program} {ops:Array Oper} {Q:Exit→Act→World→Prop} {md:Region.Mode} {S:World→Prop} {o:Oper} {x:Value} {n:Nat} {listed:Array Bool} {a:Act} {w:World} (i:Nat) (hS:S w)
   (h:wpAnyV P md ops Q S [] n (listed.setIfInBounds i true) (a.put o.dst x) w) (hi:ops[i]? = some o:=by rfl)
   (hb:(Region.noSelect ops&&Region.free md ops listed i&&(Region.ready md ops listed).contains i&&closedB md ops listed)=true:=by kernel_rfl)
   (hx:Region.wanted o (yielded ops a.tmps)=true:=by kernel_rfl) (hy:∀ w,S w→(execOp a.eval o).run P w = .ok (.value x) w:=by intro w hSw; (try dsimp only at hSw); go_simp; try with_reducible rfl)
   (hQ:∀ c a w,Q (.panic c) (a.put o.dst x) w→Q (.panic c) a w:=by exact fun _ _ _ h=>h):wpAnyV P md ops Q S [] (n+1) listed a w:=
 tk i hi hb ⟨hx,hy⟩ hQ hS h
abbrev KN (f:FuncId) (e e':Int) (x rl rh:Nat):Prop:=∀ (pb:Nat) (v:World),Has1 v (pb,#[.int .i64 e])→Calls Tryz.prog f #[.pointer (some ⟨pb,0,none⟩),x] v fun r w'=>r = .returned (.agg #[rl,rh])∧Put ⟨pb,0,none⟩ (.int .i64 e') v w'
abbrev K1 (f:FuncId) (e e':Int) (al ah rl rh:Nat):Prop:=∀ (pb:Nat) (v:World),Has1 v (pb,#[.int .i64 e])→Calls Tryz.prog f #[.pointer (some ⟨pb,0,none⟩),.agg #[al,ah]] v fun r w'=>r = .returned (.agg #[rl,rh])∧Put ⟨pb,0,none⟩ (.int .i64 e') v w'
abbrev K2 (f:FuncId) (e e':Int) (al ah bl bh rl rh:Nat):Prop:=∀ (pb:Nat) (v:World),Has1 v (pb,#[.int .i64 e])→Calls Tryz.prog f #[.pointer (some ⟨pb,0,none⟩),.agg #[al,ah],.agg #[bl,bh]] v fun r w'=>r = .returned (.agg #[rl,rh])∧Put ⟨pb,0,none⟩ (.int .i64 e') v w'
end
section
open Go.RowKit
attribute [local go_sem] run_store_float
def clampW (x:Nat):Nat:=minW (maxW x 0) u1
theorem clamp_facts {x:Nat} (lx:x < 18446744073709551616) (rx:rightB x=true):clampW x < 18446744073709551616∧rightB (clampW x)=true∧val (clampW x)=min (max (val x) 0) (val u1):=by
 obtain⟨m1,m2,m3⟩:=max_facts x 0 lx (by decide) rx (by decide)
 obtain⟨n1,n2,n3⟩:=min_facts (maxW x 0) u1 m1 (by decide) m2 (by decide)
 refine ⟨n1,n2,?_⟩
 show val (minW (maxW x 0) u1)=_
 rw [n3,m3]; rfl
theorem end_any (x:Nat) (w:World) (hx:x < 18446744073709551616) (rx:rightB x=true) :
   Calls Tryz.prog 91 #[x,(),(4607182418800017408:Nat)] w fun r w'=>r = .returned (.float .f64 (clampW x))∧Below w.heap.size w w':=by
 have o1:(FloatKind.f64.format.order x 0 == some Ordering.lt)=decide (val x < val 0):=order_lt x 0 hx (by decide) rx (by decide)
 have o2:(FloatKind.f64.format.order x 4607182418800017408 == some Ordering.gt)=decide (val u1 < val x):=order_gt x u1 hx (by decide) rx (by decide)
 have e:clampW x=if val x < val 0 then 0 else if val u1 < val x then u1 else x:=by
   have hz:¬ val u1 < val 0:=by decide +kernel
   unfold clampW maxW minW
   by_cases g:val x < val 0
   · rw [if_pos g,if_pos g,if_neg hz]
   · rw [if_neg g,if_neg g]
 rw [e]
 clear e
 by_cases g1:val x < val 0
 · rw [if_pos g1]
   rw [decide_eq_true g1] at o1
   clear o2 g1
   go_enter Tryz.func91,Tryz.ntmps91
   go_wp2
   go_ret
   exact ⟨rfl,Below.refl _ _⟩
 · rw [if_neg g1]
   rw [decide_eq_false g1] at o1
   by_cases g2:val u1 < val x
   · rw [if_pos g2]
     rw [decide_eq_true g2] at o2
     clear g1 g2
     go_enter Tryz.func91,Tryz.ntmps91
     go_wp2
     go_ret
     exact ⟨rfl,Below.refl _ _⟩
   · rw [if_neg g2]
     rw [decide_eq_false g2] at o2
     clear g1 g2
     go_enter Tryz.func91,Tryz.ntmps91
     go_wp2
     go_ret
     exact ⟨rfl,Below.refl _ _⟩
theorem kept_walk (a b x y:Nat) (w:World) (c1:Hid (∀ w,Calls Tryz.prog 91 #[a,(),(4607182418800017408:Nat)] w (Rt (.float .f64 x) w)))
   (c2:Hid (∀ w,Calls Tryz.prog 91 #[b,(),(4607182418800017408:Nat)] w (Rt (.float .f64 y) w))) :
   Calls Tryz.prog 44 #[.agg #[a,b],(),(4607182418800017408:Nat)] w (Rt (.agg #[x,y]) w):=by
 have M:=Lib.hid (((Own.nil w).made #[a,b] 31).made #[(),()] 31)
 simp only [World.size_alloc] at M
 go_enter Tryz.func44,Tryz.ntmps44
 go_upto_region 1 with fail
 replace M:=Lib.hid M.out.drew
 revert M
 generalize ((w.alloc (.cells #[a,b] 31)).alloc (.cells #[(),()] 31))=W
 intro M
 obtain⟨k1,k2⟩:=(M.out.nth 1 rfl).two
 have kc:=(M.out.nth 0 rfl).2.1
 have kf:=(M.out.nth 0 rfl).2.2
 go_region_held3 (fun w'=>w'.cell? ⟨w.heap.size,0,none⟩=some (.float .f64 a)∧w'.cell? ⟨w.heap.size,1,none⟩=some (.float .f64 b)) (((try dsimp only); (repeat' apply And.intro); all_goals (repeat (first | (with_reducible assumption) | ((with_reducible refine keep_undrew ?_); (with_reducible assumption)) | (with_reducible refine keep_drew ?_) | (with_reducible refine keep_set _ (by first | (with_reducible assumption) | omega) ?_)))))
   (first
     | (go_at_call 91; (with_reducible refine (c1.out _).mono ?_); rintro rr w5 ⟨rfl,hb⟩; replace M:=Lib.hid (M.out.below hb); clear hb k1 k2 kc kf; obtain⟨k1,k2⟩:=(M.out.nth 1 rfl).two; have kc:=(M.out.nth 0 rfl).2.1; have kf:=(M.out.nth 0 rfl).2.2)
     | (go_at_call 91; (with_reducible refine (c2.out _).mono ?_); rintro rr w5 ⟨rfl,hb⟩; replace M:=Lib.hid (M.out.below hb); clear hb k1 k2 kc kf; obtain⟨k1,k2⟩:=(M.out.nth 1 rfl).two; have kc:=(M.out.nth 0 rfl).2.1; have kf:=(M.out.nth 0 rfl).2.2))
 replace M:=Lib.hid (M.out.set2 0 rfl (.float .f64 x) (.float .f64 y))
 go_wp2
 obtain⟨f1,f2⟩:=(M.out.nth 0 rfl).two
 exact bodyPost_ret (v:=.agg #[.float .f64 x,.float .f64 y]) (by simp [results,Tryz.results44,go_sem,f1,f2]) rfl ⟨rfl,M.out.base⟩
theorem kept_any (a b:Nat) (w:World) (ha:a < 18446744073709551616) (hb:b < 18446744073709551616) (ra:rightB a=true) (rb:rightB b=true) :
   Calls Tryz.prog 44 #[.agg #[a,b],(),(4607182418800017408:Nat)] w (Rt (.agg #[.float .f64 (clampW a),.float .f64 (clampW b)]) w):=
 kept_walk a b _ _ w (Lib.hid fun w=>end_any a w ha ra) (Lib.hid fun w=>end_any b w hb rb)
end
section
open Go.RowKit
def sqrtR (a:Res):Res:=sqrtI a.lo a.hi
structure V3 where
 x:Res
 y:Res
 z:Res
structure FitV (a:V3):Prop where
 x:Fit a.x
 y:Fit a.y
 z:Fit a.z
structure InV (a b:V3):Prop where
 x:In a.x b.x
 y:In a.y b.y
 z:In a.z b.z
section
variable {e e':Int} {a A b B:V3} {k K:Res}
end
end
section
open Go.RowKit
def clampR (a:Res):Res:=⟨a.e,clampW a.lo,clampW a.hi⟩
def maxR (a b:Res):Res:=maxI a.lo a.hi b.lo b.hi
theorem max_in {a A b B:Res} (ha:In a A) (fA:Fit A) (hb:In b B) (fB:Fit B) (he:(maxR A B).e=0):In (maxR a b) (maxR A B):=ask_in a A b B 5 (by decide) ha fA hb fB he
theorem clamp_fit {a:Res} (h:Fit a):Fit (clampR a):=by
 obtain⟨l1,l2,l3⟩:=clamp_facts h.lo h.rlo
 obtain⟨m1,m2,m3⟩:=clamp_facts h.hi h.rhi
 have hle:=h.le
 refine ⟨h.e,l1,m1,?_⟩
 show ivR (clampW a.lo) (clampW a.hi)=true
 unfold ivR leB
 rw [l2,m2,decide_eq_true (show val (clampW a.lo)≤val (clampW a.hi) by rw [l3,m3]; omega)]; rfl
def unitR:Res:=⟨0,0,u1⟩
theorem clamp_unit {a:Res} (h:Fit a):In (clampR a) unitR:=by
 refine ⟨clamp_fit h,?_,?_⟩
 · show val 0≤val (clampW a.lo)
   rw [(clamp_facts h.lo h.rlo).2.2,show val 0=0 from by decide +kernel]
   have:(0:Int)≤val u1:=by decide +kernel
   omega
 · show val (clampW a.hi)≤val u1
   rw [(clamp_facts h.hi h.rhi).2.2]
   omega
def Di.s2 (_c n:Res):Res:=sqrR (n)
def Di.s3 (c n:Res):Res:=subR (Di.s2 c n) (oneR 4607182418800017408)
def Di.s4 (c _n:Res):Res:=sqrR (c)
def Di.s5 (c n:Res):Res:=addR (Di.s3 c n) (Di.s4 c n)
def Di.g (c n:Res):Res:=sqrtR (Di.s5 c n)
def Di.more (c n:Res):Res:=addR (Di.g c n) (c)
def Di.less (c n:Res):Res:=subR (Di.g c n) (c)
def Di.pq (c n:Res):Res:=divR (Di.less c n) (Di.more c n)
def Di.p (c n:Res):Res:=sqrR (Di.pq c n)
def Di.m11 (c n:Res):Res:=mulR (c) (Di.more c n)
def Di.over (c n:Res):Res:=subR (Di.m11 c n) (oneR 4607182418800017408)
def Di.m13 (c n:Res):Res:=mulR (c) (Di.less c n)
def Di.under (c n:Res):Res:=addR (Di.m13 c n) (oneR 4607182418800017408)
def Di.qq (c n:Res):Res:=divR (Di.over c n) (Di.under c n)
def Di.q (c n:Res):Res:=sqrR (Di.qq c n)
def Di.hp (c n:Res):Res:=mulR (oneR 4602678819172646912) (Di.p c n)
def Di.oq (c n:Res):Res:=addR (oneR 4607182418800017408) (Di.q c n)
def Di.f (c n:Res):Res:=mulR (Di.hp c n) (Di.oq c n)
def Di.out (c n:Res):Res:=clampR (Di.f c n)
structure Di.Fits (c n:Res):Prop where
 fc:Fit c
 fn:Fit n
 s2':Fit (Di.s2 c n)
 s3':Fit (Di.s3 c n)
 s4':Fit (Di.s4 c n)
 s5':Fit (Di.s5 c n)
 g':Fit (Di.g c n)
 more':Fit (Di.more c n)
 less':Fit (Di.less c n)
 pq':Fit (Di.pq c n)
 p':Fit (Di.p c n)
 m11':Fit (Di.m11 c n)
 over':Fit (Di.over c n)
 m13':Fit (Di.m13 c n)
 under':Fit (Di.under c n)
 qq':Fit (Di.qq c n)
 q':Fit (Di.q c n)
 hp':Fit (Di.hp c n)
 oq':Fit (Di.oq c n)
 f':Fit (Di.f c n)
 out':Fit (Di.out c n)
structure Di.Parts (c n C N:Res):Prop where
 s2':In (Di.s2 c n) (Di.s2 C N)
 s3':In (Di.s3 c n) (Di.s3 C N)
 s4':In (Di.s4 c n) (Di.s4 C N)
 s5':In (Di.s5 c n) (Di.s5 C N)
 g':In (Di.g c n) (Di.g C N)
 more':In (Di.more c n) (Di.more C N)
 less':In (Di.less c n) (Di.less C N)
 pq':In (Di.pq c n) (Di.pq C N)
 p':In (Di.p c n) (Di.p C N)
 m11':In (Di.m11 c n) (Di.m11 C N)
 over':In (Di.over c n) (Di.over C N)
 m13':In (Di.m13 c n) (Di.m13 C N)
 under':In (Di.under c n) (Di.under C N)
 qq':In (Di.qq c n) (Di.qq C N)
 q':In (Di.q c n) (Di.q C N)
 hp':In (Di.hp c n) (Di.hp C N)
 oq':In (Di.oq c n) (Di.oq C N)
 f':In (Di.f c n) (Di.f C N)
 out':In (Di.out c n) (Di.out C N)
def Co.c2 (c _h _k:Res):Res:=sqrR (c)
def Co.s3 (c h k:Res):Res:=subR (oneR 4607182418800017408) (Co.c2 c h k)
def Co.s2 (c h k:Res):Res:=clampR (Co.s3 c h k)
def Co.e2 (_c h _k:Res):Res:=sqrR (h)
def Co.k2 (_c _h k:Res):Res:=sqrR (k)
def Co.ek (c h k:Res):Res:=mulR (Co.e2 c h k) (Co.k2 c h k)
def Co.t11 (c h k:Res):Res:=subR (Co.e2 c h k) (Co.k2 c h k)
def Co.t0 (c h k:Res):Res:=subR (Co.t11 c h k) (Co.s2 c h k)
def Co.q13 (c h k:Res):Res:=sqrR (Co.t0 c h k)
def Co.m15 (c h k:Res):Res:=mulR (oneR 4616189618054758400) (Co.ek c h k)
def Co.a16 (c h k:Res):Res:=addR (Co.q13 c h k) (Co.m15 c h k)
def Co.ab (c h k:Res):Res:=sqrtR (Co.a16 c h k)
def Co.a18 (c h k:Res):Res:=addR (Co.ab c h k) (Co.t0 c h k)
def Co.x20 (c h k:Res):Res:=maxR (Co.a18 c h k) (oneR 0)
def Co.m21 (c h k:Res):Res:=mulR (oneR 4602678819172646912) (Co.x20 c h k)
def Co.a (c h k:Res):Res:=sqrtR (Co.m21 c h k)
def Co.t1 (c h k:Res):Res:=addR (Co.ab c h k) (Co.c2 c h k)
def Co.m25 (c h k:Res):Res:=mulR (oneR 4611686018427387904) (Co.a c h k)
def Co.t2 (c h k:Res):Res:=mulR (Co.m25 c h k) (c)
def Co.n27 (c h k:Res):Res:=subR (Co.t1 c h k) (Co.t2 c h k)
def Co.d27 (c h k:Res):Res:=addR (Co.t1 c h k) (Co.t2 c h k)
def Co.r27 (c h k:Res):Res:=divR (Co.n27 c h k) (Co.d27 c h k)
def Co.rs (c h k:Res):Res:=clampR (Co.r27 c h k)
def Co.m29 (c h k:Res):Res:=mulR (Co.c2 c h k) (Co.ab c h k)
def Co.q30 (c h k:Res):Res:=sqrR (Co.s2 c h k)
def Co.t3 (c h k:Res):Res:=addR (Co.m29 c h k) (Co.q30 c h k)
def Co.t4 (c h k:Res):Res:=mulR (Co.t2 c h k) (Co.s2 c h k)
def Co.n33 (c h k:Res):Res:=subR (Co.t3 c h k) (Co.t4 c h k)
def Co.d33 (c h k:Res):Res:=addR (Co.t3 c h k) (Co.t4 c h k)
structure Co.Fits (c h k:Res):Prop where
 fc:Fit c
 fh:Fit h
 fk:Fit k
 c2':Fit (Co.c2 c h k)
 s3':Fit (Co.s3 c h k)
 s2':Fit (Co.s2 c h k)
 e2':Fit (Co.e2 c h k)
 k2':Fit (Co.k2 c h k)
 ek':Fit (Co.ek c h k)
 t11':Fit (Co.t11 c h k)
 t0':Fit (Co.t0 c h k)
 q13':Fit (Co.q13 c h k)
 m15':Fit (Co.m15 c h k)
 a16':Fit (Co.a16 c h k)
 ab':Fit (Co.ab c h k)
 a18':Fit (Co.a18 c h k)
 x20':Fit (Co.x20 c h k)
 m21':Fit (Co.m21 c h k)
 a':Fit (Co.a c h k)
 t1':Fit (Co.t1 c h k)
 m25':Fit (Co.m25 c h k)
 t2':Fit (Co.t2 c h k)
 n27':Fit (Co.n27 c h k)
 d27':Fit (Co.d27 c h k)
 r27':Fit (Co.r27 c h k)
 rs':Fit (Co.rs c h k)
 m29':Fit (Co.m29 c h k)
 q30':Fit (Co.q30 c h k)
 t3':Fit (Co.t3 c h k)
 t4':Fit (Co.t4 c h k)
 n33':Fit (Co.n33 c h k)
 d33':Fit (Co.d33 c h k)
structure Co.Parts (c h k C H K:Res):Prop where
 c2':In (Co.c2 c h k) (Co.c2 C H K)
 s3':In (Co.s3 c h k) (Co.s3 C H K)
 s2':In (Co.s2 c h k) (Co.s2 C H K)
 e2':In (Co.e2 c h k) (Co.e2 C H K)
 k2':In (Co.k2 c h k) (Co.k2 C H K)
 ek':In (Co.ek c h k) (Co.ek C H K)
 t11':In (Co.t11 c h k) (Co.t11 C H K)
 t0':In (Co.t0 c h k) (Co.t0 C H K)
 q13':In (Co.q13 c h k) (Co.q13 C H K)
 m15':In (Co.m15 c h k) (Co.m15 C H K)
 a16':In (Co.a16 c h k) (Co.a16 C H K)
 ab':In (Co.ab c h k) (Co.ab C H K)
 a18':In (Co.a18 c h k) (Co.a18 C H K)
 x20':In (Co.x20 c h k) (Co.x20 C H K)
 m21':In (Co.m21 c h k) (Co.m21 C H K)
 a':In (Co.a c h k) (Co.a C H K)
 t1':In (Co.t1 c h k) (Co.t1 C H K)
 m25':In (Co.m25 c h k) (Co.m25 C H K)
 t2':In (Co.t2 c h k) (Co.t2 C H K)
 n27':In (Co.n27 c h k) (Co.n27 C H K)
 d27':In (Co.d27 c h k) (Co.d27 C H K)
 r27':In (Co.r27 c h k) (Co.r27 C H K)
 rs':In (Co.rs c h k) (Co.rs C H K)
 m29':In (Co.m29 c h k) (Co.m29 C H K)
 q30':In (Co.q30 c h k) (Co.q30 C H K)
 t3':In (Co.t3 c h k) (Co.t3 C H K)
 t4':In (Co.t4 c h k) (Co.t4 C H K)
 n33':In (Co.n33 c h k) (Co.n33 C H K)
 d33':In (Co.d33 c h k) (Co.d33 C H K)
def Co.r33 (c h k:Res):Res:=divR (Co.n33 c h k) (Co.d33 c h k)
def Co.m34 (c h k:Res):Res:=mulR (Co.rs c h k) (Co.r33 c h k)
def Co.rp (c h k:Res):Res:=clampR (Co.m34 c h k)
def Co.a36 (c h k:Res):Res:=addR (Co.rs c h k) (Co.rp c h k)
def Co.f (c h k:Res):Res:=mulR (oneR 4602678819172646912) (Co.a36 c h k)
structure Co.Last (c h k:Res):Prop where
 r33':Fit (Co.r33 c h k)
 m34':Fit (Co.m34 c h k)
 rp':Fit (Co.rp c h k)
 a36':Fit (Co.a36 c h k)
 f':Fit (Co.f c h k)
end
section
open Go.RowKit
attribute [local go_sem] run_store_float
structure EnvE (B:World) (pb:Nat) (e:Int) (l:List (Nat×Array Value)) (v:World):Prop where
 put:Put ⟨pb,0,none⟩ (.int .i64 e) B v
 cal:Has1 v (pb,#[.int .i64 e])
 blocks:∀ p,p∈l→Has1 v p∧pb≠p.1
theorem Has1.six {v:World} {b:Nat} {x0 x1 x2 x3 x4 x5:Value} (h:Has1 v (b,#[x0,x1,x2,x3,x4,x5])):v.cell? ⟨b,0,none⟩=some x0∧v.cell? ⟨b,1,none⟩=some x1∧v.cell? ⟨b,2,none⟩=some x2∧v.cell? ⟨b,3,none⟩=some x3∧v.cell? ⟨b,4,none⟩=some x4∧v.cell? ⟨b,5,none⟩=some x5:=⟨h.2.1 0,h.2.1 1,h.2.1 2,h.2.1 3,h.2.1 4,h.2.1 5⟩
section
variable {B v v':World} {pb:Nat} {e e':Int} {l:List (Nat×Array Value)}
end
structure Wd (a:Res):Prop where
 lo:a.lo < 18446744073709551616
 hi:a.hi < 18446744073709551616
end
section
open Go.RowKit
attribute [local go_sem] run_store_float
end
section
open Go.RowKit
attribute [local go_sem] run_store_float
end
section
open Go.RowKit
def SS:Int:=((2 ^ sq:Nat):Int)
theorem ss_pos:0≤SS:=Int.natCast_nonneg _
end
section
open Go.RowKit
theorem neg_num (r:Nat) (h1:1≤r) (h2:r < 9218868437227405312):9223372036854775808+r < 18446744073709551616∧rightB (9223372036854775808+r)=true∧val (9223372036854775808+r)=-(steps r:Int):=by
 obtain⟨f1,f2,f3⟩:=sw_facts true r (by omega)
 rw [sw_true r (by omega)] at f1 f2 f3
 exact ⟨f1,f2,f3⟩
theorem num_nat (m k:Nat) (hm:m≤9007199254740992) (k1:53≤k) (k2:k≤1899):∃ r,r < 9218868437227405312∧steps r=m*2 ^ k:=by
 rcases Nat.lt_or_ge m 9007199254740992 with g | g
 · exact num_at m k g k1 (by omega)
 · obtain rfl:m=9007199254740992:=by omega
   obtain⟨r,hr,e⟩:=num_at 4503599627370496 (k+1) (by decide) (by omega) (by omega)
   refine ⟨r,hr,?_⟩
   rw [e,Nat.pow_succ]; omega
theorem num_int (q:Int) (k:Nat) (h1:-9007199254740992≤q) (h2:q≤9007199254740992) (k1:53≤k) (k2:k≤1899):∃ d,d < 18446744073709551616∧rightB d=true∧val d=q*((2 ^ k:Nat):Int):=by
 rcases Int.lt_or_le 0 (-q) with g | g
 · obtain⟨m,hm⟩:∃ m:Nat,-q=(m:Int):=⟨(-q).toNat,by omega⟩
   obtain⟨r,hr,e⟩:=num_nat m k (by omega) k1 k2
   have hr1:1≤r:=by
     rcases Nat.eq_zero_or_pos r with z | z
     · subst z
       have:m*2 ^ k=0:=by rw [←e]; rfl
       have hp:=Nat.two_pow_pos k
       have:=Nat.mul_pos (show 0 < m by omega) hp
       omega
     · exact z
   obtain⟨f1,f2,f3⟩:=neg_num r hr1 hr
   refine ⟨_,f1,f2,?_⟩
   rw [f3,e,Int.natCast_mul,←hm,Int.neg_mul,Int.neg_neg]
 · obtain⟨m,hm⟩:∃ m:Nat,q=(m:Int):=⟨q.toNat,by omega⟩
   obtain⟨r,hr,e⟩:=num_nat m k (by omega) k1 k2
   obtain⟨f1,f2,_,_,f3⟩:=pos_facts r hr
   refine ⟨r,f1,f2,?_⟩
   rw [f3,e,Int.natCast_mul,←hm]
section
variable {s:Nat} {T:Int} {c k:Nat} (k1:53≤k) (k2:k≤1899) (hs:0 < s)
include k1 k2 hs
theorem down_gap (h:Down s T c 0) (h1:-9007199254740992*((2 ^ k:Nat):Int)≤val c) (h2:val c < 9007199254740992*((2 ^ k:Nat):Int)):T < (val c+((2 ^ k:Nat):Int))*s:=by
 obtain⟨_,_,_,best⟩:=h.ok
 obtain⟨P,hP⟩:∃ P:Int,P=((2 ^ k:Nat):Int):=⟨_,rfl⟩
 have p0:0 < P:=by rw [hP]; exact Int.natCast_pos.2 (Nat.two_pow_pos k)
 rw [←hP] at h1 h2 ⊢
 have s0:(0:Int) < s:=Int.natCast_pos.2 hs
 obtain⟨q,hq⟩:∃ q:Int,q=val c / P:=⟨_,rfl⟩
 have q1:q*P≤val c:=by rw [hq]; exact Int.ediv_mul_le _ (Int.ne_of_gt p0)
 have q2:val c < (q+1)*P:=by rw [hq]; exact Int.lt_ediv_add_one_mul_self _ p0
 have g1:-9007199254740992≤q:=by rw [hq,Int.le_ediv_iff_mul_le p0]; exact h1
 have g2:q < 9007199254740992:=by rw [hq,Int.ediv_lt_iff_lt_mul p0]; exact h2
 obtain⟨d,d1,d2,d3⟩:=num_int (q+1) k (by omega) (by omega) k1 k2
 rw [←hP] at d3
 rcases Int.lt_or_le T ((val c+P)*s) with g | g
 · exact g
 · have h3:val d*(s:Int)≤T:=by
     refine Int.le_trans (Int.mul_le_mul_of_nonneg_right ?_ (Int.le_of_lt s0)) g
     rw [d3,Int.add_mul,Int.one_mul]; omega
   have:=best d d1 d2 h3
   omega
theorem up_gap (h:Up s T c 0) (h1:-9007199254740992*((2 ^ k:Nat):Int) < val c) (h2:val c≤9007199254740992*((2 ^ k:Nat):Int)):(val c - ((2 ^ k:Nat):Int))*s < T:=by
 obtain⟨_,_,_,best⟩:=h.ok
 obtain⟨P,hP⟩:∃ P:Int,P=((2 ^ k:Nat):Int):=⟨_,rfl⟩
 have p0:0 < P:=by rw [hP]; exact Int.natCast_pos.2 (Nat.two_pow_pos k)
 rw [←hP] at h1 h2 ⊢
 have s0:(0:Int) < s:=Int.natCast_pos.2 hs
 obtain⟨q,hq⟩:∃ q:Int,q=(val c - 1) / P:=⟨_,rfl⟩
 have q1:q*P≤val c - 1:=by rw [hq]; exact Int.ediv_mul_le _ (Int.ne_of_gt p0)
 have q2:val c - 1 < (q+1)*P:=by rw [hq]; exact Int.lt_ediv_add_one_mul_self _ p0
 have g1:-9007199254740992≤q:=by rw [hq,Int.le_ediv_iff_mul_le p0]; omega
 have g2:q < 9007199254740992:=by rw [hq,Int.ediv_lt_iff_lt_mul p0]; omega
 obtain⟨d,d1,d2,d3⟩:=num_int q k g1 (by omega) k1 k2
 rw [←hP] at d3
 rcases Int.lt_or_le ((val c - P)*s) T with g | g
 · exact g
 · have h3:T≤val d*(s:Int):=by
     refine Int.le_trans g (Int.mul_le_mul_of_nonneg_right ?_ (Int.le_of_lt s0))
     rw [d3]
     rw [Int.add_mul,Int.one_mul] at q2
     omega
   have:=best d d1 d2 h3
   omega
end
end
section
open Go.RowKit
theorem word_val {x:Nat} (hx:x≤9218868437227405311):x < 18446744073709551616∧rightB x=true∧val x=(steps x:Int):=by
 have h:=sw_facts false x hx
 rw [sw_false] at h
 exact h
theorem sqrt_parts {r:Res} (fr:Fit r) (he:(sqrtR r).e=0):0≤val r.lo ∧
   (0≤val (sqrtR r).lo∧val (sqrtR r).lo*val (sqrtR r).lo≤val r.lo*SS∧∀ d,d < 18446744073709551616→rightB d=true→0≤val d→val d*val d≤val r.lo*SS→val d≤val (sqrtR r).lo) ∧
   (0≤val (sqrtR r).hi∧val r.hi*SS≤val (sqrtR r).hi*val (sqrtR r).hi∧∀ d,d < 18446744073709551616→rightB d=true→0≤val d→val r.hi*SS≤val d*val d→val (sqrtR r).hi≤val d):=by
 have he':(sqrtI r.lo r.hi).e=0:=he
 have hn:ltB r.lo 0=false:=by
   cases h:ltB r.lo 0
   · rfl
   · unfold sqrtI at he'; rw [if_pos h] at he'; exact absurd he' (by decide)
 have hv:0≤val r.lo:=by
   unfold ltB at hn; rw [val_nil] at hn; simp at hn; exact hn
 have l1:=fr.le
 have sa:=(sgn_of_val r.lo fr.lo fr.rlo).1 hv
 have sh:=(sgn_of_val r.hi fr.hi fr.rhi).1 (by omega)
 obtain⟨p1,p2,p3,_⟩:=sqrt_rungs r.lo fr.rlo sa false
 obtain⟨q1,q2,_,q4⟩:=sqrt_rungs r.hi fr.rhi sh true
 have e1:sqrtR r=⟨0,sqrtW r.lo false,sqrtW r.hi true⟩:=by
   show sqrtI r.lo r.hi=_
   unfold sqrtI tightR; rw [if_neg (by rw [hn]; exact Bool.false_ne_true),if_pos p1,if_pos q1]
 obtain⟨w1,w2,w3⟩:=word_val p2
 obtain⟨z1,z2,z3⟩:=word_val q2
 have va:=val_pos sa
 have vh:=val_pos sh
 have p3':=p3 rfl
 have q4':=q4 rfl
 have SSe:SS=((2 ^ sq:Nat):Int):=rfl
 rw [e1]
 refine ⟨hv,⟨?_,?_,?_⟩,⟨?_,?_,?_⟩⟩
 · show 0≤val (sqrtW r.lo false)
   omega
 · show val (sqrtW r.lo false)*val (sqrtW r.lo false)≤val r.lo*SS
   have h:=(p3' _).2 (Nat.le_refl _)
   rw [w3,va,SSe,←Int.natCast_mul,←Int.natCast_mul]
   exact Int.ofNat_le.2 h
 · intro d d1 d2 d3 d4
   show val d≤val (sqrtW r.lo false)
   have hd:=pos_word d d1 d2 d3
   obtain⟨_,_,_,_,vd⟩:=pos_facts d hd
   rw [vd,va,SSe,←Int.natCast_mul,←Int.natCast_mul] at d4
   rw [vd,w3]
   exact Int.ofNat_le.2 (steps_le ((p3' d).1 (Int.ofNat_le.1 d4)))
 · show 0≤val (sqrtW r.hi true)
   omega
 · show val r.hi*SS≤val (sqrtW r.hi true)*val (sqrtW r.hi true)
   have h:=(q4' _).2 (Nat.le_refl _)
   rw [z3,vh,SSe,←Int.natCast_mul,←Int.natCast_mul]
   exact Int.ofNat_le.2 h
 · intro d d1 d2 d3 d4
   show val (sqrtW r.hi true)≤val d
   have hd:=pos_word d d1 d2 d3
   obtain⟨_,_,_,_,vd⟩:=pos_facts d hd
   rw [vd,vh,SSe,←Int.natCast_mul,←Int.natCast_mul] at d4
   rw [vd,z3]
   exact Int.ofNat_le.2 (steps_le ((q4' d).1 (Int.ofNat_le.1 d4)))
end
section
open Go.RowKit
structure Wid (r R:Res) (w:Int):Prop where
 has:In r R
 wide:val r.hi - val r.lo≤w
def magn (R:Res):Nat:=max (val R.lo).natAbs (val R.hi).natAbs
def gapK (R:Res):Nat:=max 53 ((magn R).log2+1 - 53)
section
variable {r R:Res} (hk:gapK R≤1899) (h:In r R) {s:Nat} {T:Int} (hs:0 < s)
include hk h hs
end
section
variable {a A b B:Res} {wa wb:Int} (ha:Wid a A wa) (fA:Fit A) (hb:Wid b B wb) (fB:Fit B)
include ha fA hb fB
end
section
variable {a A:Res} {wa:Int} (ha:Wid a A wa) (fA:Fit A)
include ha fA
end
end
section
open Go.RowKit
structure HasV (r:Res) (P T:Int):Prop where
 pos:0 < P
 low:val r.lo*P≤T*SS
 high:T*SS≤val r.hi*P
theorem SS0:0 < SS:=Int.natCast_pos.2 (Nat.two_pow_pos sq)
section
variable {r s:Res} {P T Q U:Int} (fr:Fit r) (fs:Fit s) (h:HasV r P T) (h':HasV s Q U)
include fr fs h h'
end
section
variable {r:Res} {P T:Int} (fr:Fit r) (h:HasV r P T)
include fr h
end
end
section
open Go.RowKit
section
variable {f g f' g':Nat→Rat}
end
structure HasQ (r:Res) (x:Rat):Prop where
 low:((val r.lo:Int):Rat)≤x*((SS:Int):Rat)
 high:x*((SS:Int):Rat)≤((val r.hi:Int):Rat)
section
variable {r s:Res} {x y:Rat}
end
section
variable {r s:Res} {f g:Nat→Rat}
end
end
section
open Go.RowKit
def ev:List Rat→Rat→Rat
 | [],_=>0
 | a :: p,y=>a+y*ev p y
def padd:List Rat→List Rat→List Rat
 | [],q=>q
 | p,[]=>p
 | a :: p,b :: q=>(a+b) :: padd p q
def pscale (c:Rat):List Rat→List Rat
 | []=>[]
 | a :: p=>(c*a) :: pscale c p
def pmul:List Rat→List Rat→List Rat
 | [],_=>[]
 | a :: p,q=>padd (pscale a q) (0 :: pmul p q)
def pabs:List Rat→Rat
 | []=>0
 | a :: p=>(if a≤0 then -a else a)+pabs p
theorem ev_add (y:Rat):∀ p q:List Rat,ev (padd p q) y=ev p y+ev q y
 | [],q=>by unfold padd; show ev q y=0+ev q y; grind
 | a :: p,[]=>by unfold padd; show ev (a :: p) y=ev (a :: p) y+0; grind
 | a :: p,b :: q=>by
   have ih:=ev_add y p q
   show (a+b)+y*ev (padd p q) y=(a+y*ev p y)+(b+y*ev q y)
   rw [ih]; grind
theorem ev_scale (c y:Rat):∀ p:List Rat,ev (pscale c p) y=c*ev p y
 | []=>by show (0:Rat)=c*0; grind
 | a :: p=>by
   have ih:=ev_scale c y p
   show c*a+y*ev (pscale c p) y=c*(a+y*ev p y)
   rw [ih]; grind
theorem ev_mul (y:Rat):∀ p q:List Rat,ev (pmul p q) y=ev p y*ev q y
 | [],q=>by show (0:Rat)=0*ev q y; grind
 | a :: p,q=>by
   have ih:=ev_mul y p q
   show ev (padd (pscale a q) (0 :: pmul p q)) y=(a+y*ev p y)*ev q y
   rw [ev_add,ev_scale]
   show a*ev q y+(0+y*ev (pmul p q) y)=_
   rw [ih]; grind
theorem ev_abs {y:Rat} (h0:0≤y) (h1:y≤1):∀ p:List Rat,-(pabs p)≤ev p y∧ev p y≤pabs p∧0≤pabs p
 | []=>by show -(0:Rat)≤0∧(0:Rat)≤0∧(0:Rat)≤0; refine ⟨?_,?_,?_⟩ <;> grind
 | a :: p=>by
   obtain⟨i1,i2,i3⟩:=ev_abs h0 h1 p
   have k1:=Rat.mul_nonneg h0 (by grind:0≤pabs p - ev p y)
   have k2:=Rat.mul_nonneg h0 (by grind:0≤pabs p+ev p y)
   have k3:=Rat.mul_nonneg (by grind:0≤1 - y) i3
   show -((if a≤0 then -a else a)+pabs p)≤a+y*ev p y∧a+y*ev p y≤(if a≤0 then -a else a)+pabs p∧0≤(if a≤0 then -a else a)+pabs p
   split
   · refine ⟨?_,?_,?_⟩ <;> grind
   · refine ⟨?_,?_,?_⟩ <;> grind
def kk (k:Nat):Rat:=((((k:Int)*((k:Int)+1)):Int):Rat)
def serL (m:Nat):Nat→List Rat
 | 0=>[1]
 | i+1=>1 :: pscale (-(kk (m - 2 - 2*i))⁻¹) (serL m i)
theorem serL_ev (m i:Nat) (y:Rat):ev (serL m (i+1)) y=1 - y / kk (m - 2 - 2*i)*ev (serL m i) y:=by
 show 1+y*ev (pscale (-(kk (m - 2 - 2*i))⁻¹) (serL m i)) y=_
 rw [ev_scale,Rat.div_def]; grind
theorem kk_one {k:Nat} (h:1≤k):1≤kk k:=by
 have:(1:Int)≤(k:Int)*((k:Int)+1):=by
   have:=Int.mul_le_mul (by omega:(1:Int)≤(k:Int)) (by omega:(1:Int)≤(k:Int)+1) (by omega) (by omega)
   omega
 have h':=Rat.intCast_le_intCast.2 this
 exact h'
end
section
open Go.RowKit
theorem serL_unit2 {m:Nat} {y:Rat} (h0:0≤y) (h1:y≤1):∀ i,2*i+1≤m→0≤ev (serL m i) y∧ev (serL m i) y≤1
 | 0,_=>by
   have e:ev (serL m 0) y=1:=by show 1+y*0=1; grind
   rw [e]; constructor <;> grind
 | i+1,hi=>by
   obtain⟨a,b⟩:=serL_unit2 (m:=m) h0 h1 i (by omega)
   have k:=kk_one (by omega:1≤m - 2 - 2*i)
   rw [serL_ev]
   have q:=Rat.inv_pos.2 (by grind:0 < kk (m - 2 - 2*i))
   have q1:(kk (m - 2 - 2*i))⁻¹≤1:=by
     refine Rat.le_of_mul_le_mul_right (c:=kk (m - 2 - 2*i)) ?_ (by grind)
     have e:(kk (m - 2 - 2*i))⁻¹*kk (m - 2 - 2*i)=1:=by grind
     rw [e,Rat.one_mul]; exact k
   rw [Rat.div_def]
   generalize (kk (m - 2 - 2*i))⁻¹=c at *
   generalize ev (serL m i) y=s at *
   have yc:=Rat.mul_nonneg h0 (Rat.le_of_lt q)
   have yc1:y*c≤1:=by
     have:=Rat.mul_nonneg h0 (by grind:0≤1 - c)
     grind
   generalize y*c=z at *
   have z1:=Rat.mul_nonneg yc a
   have z2:=Rat.mul_nonneg yc (by grind:0≤1 - s)
   constructor <;> grind
theorem serL_half {m:Nat} {y:Rat} (h0:0≤y) (h1:y≤1) (i:Nat) (hi:2*i+3≤m):1 / 2≤ev (serL m (i+1)) y:=by
 obtain⟨a,b⟩:=serL_unit2 (m:=m) h0 h1 i (by omega)
 rw [serL_ev]
 have k:2≤kk (m - 2 - 2*i):=by
   have:(2:Int)≤((m - 2 - 2*i:Nat):Int)*(((m - 2 - 2*i:Nat):Int)+1):=by
     have:=Int.mul_le_mul (by omega:(1:Int)≤((m - 2 - 2*i:Nat):Int)) (by omega:(2:Int)≤((m - 2 - 2*i:Nat):Int)+1) (by omega) (by omega)
     omega
   exact Rat.intCast_le_intCast.2 this
 have q:=Rat.inv_pos.2 (by grind:0 < kk (m - 2 - 2*i))
 have q1:(kk (m - 2 - 2*i))⁻¹≤1 / 2:=by
   refine Rat.le_of_mul_le_mul_right (c:=kk (m - 2 - 2*i)) ?_ (by grind)
   have e:(kk (m - 2 - 2*i))⁻¹*kk (m - 2 - 2*i)=1:=by grind
   rw [e]; grind
 rw [Rat.div_def y]
 generalize (kk (m - 2 - 2*i))⁻¹=c at *
 generalize ev (serL m i) y=s at *
 have yc:=Rat.mul_nonneg h0 (Rat.le_of_lt q)
 have yc1:y*c≤1 / 2:=by
   have:=Rat.mul_nonneg (Rat.le_of_lt q) (by grind:0≤1 - y)
   grind
 generalize y*c=z at *
 have z2:=Rat.mul_nonneg yc (by grind:0≤1 - s)
 grind
def pcomp (l:List Rat):List Rat→List Rat
 | []=>[]
 | a :: p=>padd [a] (pmul l (pcomp l p))
theorem ev_comp (l:List Rat) (t:Rat):∀ p:List Rat,ev (pcomp l p) t=ev p (ev l t)
 | []=>rfl
 | a :: p=>by
   have ih:=ev_comp l t p
   show ev (padd [a] (pmul l (pcomp l p))) t=a+ev l t*ev p (ev l t)
   rw [ev_add,ev_mul,ih]
   show a+t*0+_=_
   grind
def Hs:List Rat:=serL 56 27
def Hc:List Rat:=serL 55 27
def hS (t:Rat):Rat:=t*ev Hs (t*t)
def hC (t:Rat):Rat:=ev Hc (t*t)
def hq:Rat:=4591442807048218921384805199743311128454155024418 / 1461501637330902918203684832716283019655932542976
def hE:Rat:=1 / 1329227995784915872903807060280344576
def Hd1:List Rat:=padd (pscale 2 (pcomp [0,4] Hs)) (pscale (-2) (pmul Hs Hc))
def Hd2:List Rat:=padd (pcomp [0,4] Hc) (padd (pscale (-1) (pmul Hc Hc)) (0 :: pmul Hs Hs))
theorem Hd1_ok:pabs Hd1≤hE:=by decide +kernel
theorem Hd2_ok:pabs Hd2≤hE:=by decide +kernel
def Nigh (a b:Rat):Prop:=∃ w,0≤w∧(w≤a∨w ≤ -a) ∧ -w≤(a - b)*36028797018963968∧(a - b)*36028797018963968≤w
theorem Nigh.of {a b e w:Rat} (h1:w≤a∨w ≤ -a) (h2:-e≤a - b) (h3:a - b≤e) (h4:e*36028797018963968≤w):Nigh a b:=by
 refine ⟨w,?_,h1,?_,?_⟩
 · grind
 · grind
 · grind
theorem sq_unit {t:Rat} (h0:-1≤t) (h1:t≤1):0≤t*t∧t*t≤1:=by
 refine ⟨?_,?_⟩
 · rcases Rat.le_total (a:=0) (b:=t) with g | g
   · exact Rat.mul_nonneg g g
   · have:=Rat.mul_nonneg (by grind:0 ≤ -t) (by grind:0 ≤ -t)
     grind
 · have:=Rat.mul_nonneg (by grind:0≤1 - t) (by grind:0≤1+t)
   grind
theorem Hs_facts {t:Rat} (h0:-1≤t) (h1:t≤1):1 / 2≤ev Hs (t*t)∧ev Hs (t*t)≤1∧1 / 2≤ev Hc (t*t)∧ev Hc (t*t)≤1:=by
 obtain⟨y0,y1⟩:=sq_unit h0 h1
 exact ⟨serL_half y0 y1 26 (by decide),(serL_unit2 y0 y1 27 (by decide)).2,serL_half y0 y1 26 (by decide),(serL_unit2 y0 y1 27 (by decide)).2⟩
theorem twice {t u:Rat} (e:u=2*t) (h0:-1≤u) (h1:u≤1):Nigh (hS u) (2*(hS t*hC t))∧Nigh (hC u) (hC t*hC t - hS t*hS t):=by
 obtain⟨s1,s2,c1,c2⟩:=Hs_facts h0 h1
 obtain⟨y0,y1⟩:=sq_unit (by grind:-1≤t) (by grind:t≤1)
 have ey:u*u=ev [0,4] (t*t):=by
   subst e
   show 2*t*(2*t)=0+t*t*(4+t*t*0)
   grind
 have a1:ev Hd1 (t*t)=2*ev Hs (u*u) - 2*(ev Hs (t*t)*ev Hc (t*t)):=by
   unfold Hd1
   rw [ev_add,ev_scale,ev_scale,ev_comp,ev_mul,←ey]; grind
 have a2:ev Hd2 (t*t)=ev Hc (u*u) - (ev Hc (t*t)*ev Hc (t*t))+t*t*(ev Hs (t*t)*ev Hs (t*t)):=by
   unfold Hd2
   rw [ev_add,ev_add,ev_scale,ev_comp,ev_mul,←ey]
   show _+(_+(0+t*t*ev (pmul Hs Hs) (t*t)))=_
   rw [ev_mul]; grind
 obtain⟨p1,p2,_⟩:=ev_abs y0 y1 Hd1
 obtain⟨p3,p4,_⟩:=ev_abs y0 y1 Hd2
 have o1:=Hd1_ok
 have o2:=Hd2_ok
 rw [a1] at p1 p2
 rw [a2] at p3 p4
 unfold hS hC
 generalize pabs Hd1=P at *
 generalize pabs Hd2=Q at *
 generalize ev Hs (u*u)=S at *
 generalize ev Hc (u*u)=C at *
 generalize ev Hs (t*t)=s at *
 generalize ev Hc (t*t)=c at *
 have hE':hE=1 / 1329227995784915872903807060280344576:=rfl
 refine ⟨?_,Nigh.of (w:=1 / 2) (Or.inl (by grind)) (e:=hE) (by grind) (by grind) (by rw [hE']; decide +kernel)⟩
 subst e
 rcases Rat.le_total (a:=0) (b:=t) with g | g
 · have k1:=Rat.mul_nonneg g (by grind:0≤hE - (2*S - 2*(s*c)))
   have k2:=Rat.mul_nonneg g (by grind:0≤hE+(2*S - 2*(s*c)))
   have k3:=Rat.mul_nonneg g (by grind:0≤S - 1 / 2)
   refine Nigh.of (w:=t) (Or.inl (by grind)) (e:=t*hE) (by grind) (by grind) ?_
   have k4:=Rat.mul_nonneg g (by rw [hE']; decide +kernel:0≤1 - hE*36028797018963968)
   grind
 · have k1:=Rat.mul_nonneg (by grind:0 ≤ -t) (by grind:0≤hE - (2*S - 2*(s*c)))
   have k2:=Rat.mul_nonneg (by grind:0 ≤ -t) (by grind:0≤hE+(2*S - 2*(s*c)))
   have k3:=Rat.mul_nonneg (by grind:0 ≤ -t) (by grind:0≤S - 1 / 2)
   refine Nigh.of (w:=-t) (Or.inr (by grind)) (e:=-t*hE) (by grind) (by grind) ?_
   have k4:=Rat.mul_nonneg (by grind:0 ≤ -t) (by rw [hE']; decide +kernel:0≤1 - hE*36028797018963968)
   grind
end
section
open Go.RowKit
def wideR:Res:=⟨0,m1,u1⟩
theorem wide_fits:Fit wideR∧Fit (sqrR wideR)∧Fit (addR (sqrR wideR) (sqrR wideR)):=⟨.of (by decide +kernel),.of (by decide +kernel),.of (by decide +kernel)⟩
end
section
open Go.RowKit
def hX (x:Nat):Rat:=((val x:Int):Rat) / ((SS:Int):Rat)
def hT (x j:Nat):Rat:=2*hq*(hX x - ((j:Int):Rat) / 4)
def cQ (s c:Rat):Nat→Rat
 | 1 => -s | 2 => -c | 3=>s | _=>c
theorem step_part {r s:Nat} (h:r < s):(steps s:Int)≤((steps s:Int) - (steps r:Int))*9007199254740992:=by
 obtain⟨p,rfl⟩:∃ p,s=p+1:=⟨s - 1,by omega⟩
 have l:=steps_le (by omega:r≤p)
 rw [steps_succ]
 have k:steps p+1*2 ^ (p / 4503599627370496 - 1)≤9007199254740992*2 ^ (p / 4503599627370496 - 1):=by
   unfold steps
   split
   · rename_i g
     rw [g]; show p+1*1≤9007199254740992*1; omega
   · rw [←Nat.add_mul]
     exact Nat.mul_le_mul_right _ (by omega)
 generalize 2 ^ (p / 4503599627370496 - 1)=G at *
 generalize steps p=P at *
 generalize steps r=R at *
 omega
theorem apart {a b:Nat} (la:a < 18446744073709551616) (lb:b < 18446744073709551616) (ra:rightB a=true) (rb:rightB b=true) (h:val a < val b) :
   val a≤(val b - val a)*9007199254740992 ∧ -val a≤(val b - val a)*9007199254740992∧val b≤(val b - val a)*9007199254740992 ∧ -val b≤(val b - val a)*9007199254740992:=by
 cases sa:sgnB a <;> cases sb:sgnB b
 · rw [val_pos sa,val_pos sb] at *
   have k:rung a < rung b:=by
     rcases Nat.lt_or_ge (rung a) (rung b) with g | g
     · exact g
     · have:=steps_le g; omega
   have:=step_part k
   omega
 · have h1:=(val_neg b lb rb).2 sb
   have h2:¬ val a < 0:=fun g=>by rw [(val_neg a la ra).1 g] at sa; exact absurd sa (by decide)
   omega
 · have h1:=(val_neg a la ra).2 sa
   have h2:¬ val b < 0:=fun g=>by rw [(val_neg b lb rb).1 g] at sb; exact absurd sb (by decide)
   omega
 · rw [val_negs sa,val_negs sb] at *
   have k:rung b < rung a:=by
     rcases Nat.lt_or_ge (rung b) (rung a) with g | g
     · exact g
     · have:=steps_le g; omega
   have:=step_part k
   omega
def hR:Rat:=7071067811865475244 / 10000000000000000000
structure Dbl (x x':Nat) (s c s' c':Rat):Prop where
 hs:HasQ (sinR x) s
 hc:HasQ (cosR x) c
 hs':HasQ (sinR x') s'
 hc':HasQ (cosR x') c'
 n:Nigh s' (2*(s*c))
 m:Nigh c' (c*c - s*s)
def w2H:Nat:=4611686018427387904
structure Meets2 (S O p q:Res):Prop where
 m:Fit (mulR S O)
 d:Fit (mulR (oneR w2H) (mulR S O))
 o:Fit (sqrR O)
 s:Fit (sqrR S)
 r:Fit (subR (sqrR O) (sqrR S))
 a:val p.lo≤val (mulR (oneR w2H) (mulR S O)).hi∧val (mulR (oneR w2H) (mulR S O)).lo≤val p.hi
 b:val q.lo≤val (subR (sqrR O) (sqrR S)).hi∧val (subR (sqrR O) (sqrR S)).lo≤val q.hi
end
section
open Go.RowKit
end
section
open Go.RowKit
end
section
open Go.RowKit
structure BW where
 R:Res
 w:Int
structure Snd (r:Res) (x:BW):Prop where
 wid:Wid r x.R x.w
 fit:Fit x.R
def BW.one (x:Nat):BW:=⟨oneR x,0⟩
section
variable {r s:Res} {x y:BW} (h:Snd r x) (g:Snd s y)
include h
include g
end
end
section
open Go.RowKit
theorem hull_wide {a b:Res} (ha:In a wideR) (hb:In b wideR):In (hullR a b) wideR:=by
 obtain⟨_,_,l⟩:=min_facts a.lo b.lo ha.fit.lo hb.fit.lo ha.fit.rlo hb.fit.rlo
 obtain⟨_,_,u⟩:=max_facts a.hi b.hi ha.fit.hi hb.fit.hi ha.fit.rhi hb.fit.rhi
 have e1:(hullR a b).lo=minW a.lo b.lo:=rfl
 have e2:(hullR a b).hi=maxW a.hi b.hi:=rfl
 have a1:=ha.lo
 have a2:=ha.hi
 have b1:=hb.lo
 have b2:=hb.hi
 exact ⟨hull_fit ha.fit hb.fit,by rw [e1,l]; omega,by rw [e2,u]; omega⟩
theorem sinU_wide {al ah:Nat} (t1:Turn al) (t2:Turn ah):In (sinU al ah) wideR∧In (cosU al ah) wideR:=by
 have s:∀ {x:Nat},Turn x→In (sinR x) wideR:=fun h=>⟨(sinR_facts h).1,(sinR_facts h).2.1,(sinR_facts h).2.2⟩
 have c:∀ {x:Nat},Turn x→In (cosR x) wideR:=fun h=>⟨(cosR_facts h).1,(cosR_facts h).2.1,(cosR_facts h).2.2⟩
 have i1:In (oneR u1) wideR:=⟨u1_fit,by decide +kernel,by decide +kernel⟩
 have i2:In (oneR m1) wideR:=⟨m1_fit,by decide +kernel,by decide +kernel⟩
 have s2:In (sin2 al ah) wideR:=hull_wide (s t1) (s t2)
 have c2:In (cos2 al ah) wideR:=hull_wide (c t1) (c t2)
 have s3:In (sin3 al ah) wideR:=by
   unfold sin3
   cases hasB al ah 4598175219545276416
   · exact s2
   · exact hull_wide s2 i1
 refine ⟨?_,?_⟩
 · unfold sinU
   cases hasB al ah 4604930618986332160
   · exact s3
   · exact hull_wide s3 i2
 · unfold cosU
   cases hasB al ah 4602678819172646912
   · exact c2
   · exact hull_wide c2 i2
end
section
open Go.RowKit
end
section
open Go.RowKit
section
variable {r s:Res} {x y:BW} (h:Snd r x) (g:Snd s y)
include h
include g
end
end
section
open Go.RowKit
section
variable {f g f' g':Nat→Rat}
end
section
variable {r s:Res} {x y:Rat}
end
section
variable {r s:Res} {f g:Nat→Rat}
end
end
section
open Go.RowKit
def Sn.a (c:Res):Res:=sqrR c
def Sn.b (c:Res):Res:=subR (oneR 4607182418800017408) (Sn.a c)
def Sn.d (n:Res):Res:=sqrR n
def Sn.g (c n:Res):Res:=divR (Sn.b c) (Sn.d n)
def Sn.i (c n:Res):Res:=subR (oneR 4607182418800017408) (Sn.g c n)
def Sn.s (c n:Res):Res:=sqrtR (Sn.i c n)
def Sn.j (c n:Res):Res:=mulR n (Sn.s c n)
def Sn.k (c n:Res):Res:=subR c (Sn.j c n)
def Sn.l (c n:Res):Res:=addR c (Sn.j c n)
def Sn.m (c n:Res):Res:=divR (Sn.k c n) (Sn.l c n)
def Sn.o (c n:Res):Res:=sqrR (Sn.m c n)
def Sn.q (c n:Res):Res:=mulR n c
def Sn.r (c n:Res):Res:=subR (Sn.q c n) (Sn.s c n)
def Sn.t (c n:Res):Res:=addR (Sn.q c n) (Sn.s c n)
def Sn.u (c n:Res):Res:=divR (Sn.r c n) (Sn.t c n)
def Sn.v (c n:Res):Res:=sqrR (Sn.u c n)
def Sn.x (c n:Res):Res:=addR (Sn.o c n) (Sn.v c n)
def Sn.y (c n:Res):Res:=mulR (oneR 4602678819172646912) (Sn.x c n)
structure Sn.Ins (c n C N:Res):Prop where
 a':In (Sn.a c) (Sn.a C)
 b':In (Sn.b c) (Sn.b C)
 d':In (Sn.d n) (Sn.d N)
 g':In (Sn.g c n) (Sn.g C N)
 i':In (Sn.i c n) (Sn.i C N)
 s':In (Sn.s c n) (Sn.s C N)
 j':In (Sn.j c n) (Sn.j C N)
 k':In (Sn.k c n) (Sn.k C N)
 l':In (Sn.l c n) (Sn.l C N)
 m':In (Sn.m c n) (Sn.m C N)
 o':In (Sn.o c n) (Sn.o C N)
 q':In (Sn.q c n) (Sn.q C N)
 r':In (Sn.r c n) (Sn.r C N)
 t':In (Sn.t c n) (Sn.t C N)
 u':In (Sn.u c n) (Sn.u C N)
 v':In (Sn.v c n) (Sn.v C N)
 x':In (Sn.x c n) (Sn.x C N)
 y':In (Sn.y c n) (Sn.y C N)
end
section
open Go.RowKit
def w2:Nat:=4611686018427387904
def w3:Nat:=4613937818241073152
def Or.x:Res:=divR piR (oneR w2)
def Or.t:Res:=divR (oneR w2) (oneR w3)
def Or.g:Res:=subR Or.x Or.t
def Or.m (s:Res):Res:=mulR Or.g s
def Or.q (s:Res):Res:=addR piR (Or.m s)
def Or.a (s:Res):Res:=divR (oneR u1) (Or.q s)
def Or.b (s:Res):Res:=mulR s (Or.a s)
def ouI:Res:=⟨0,0,u1⟩
def oeI:Res:=⟨0,m1,u1⟩
structure PairIn (s S:Res):Prop where
 m:In (Or.m s) (Or.m S)
 q:In (Or.q s) (Or.q S)
 a:In (Or.a s) (Or.a S)
 b:In (Or.b s) (Or.b S)
def Or.p (i o:Res):Res:=mulR i o
def Or.s (i o d:Res):Res:=subR d (Or.p i o)
def Or.top (i o:Res):Res:=maxR i o
def edgeW (x:Nat):Nat:=minW (maxW x m1) u1
def edgeR (r:Res):Res:=⟨r.e,edgeW r.lo,edgeW r.hi⟩
theorem edgeR_lo (r:Res):(edgeR r).lo=edgeW r.lo:=by rw [edgeR]
theorem edgeR_hi (r:Res):(edgeR r).hi=edgeW r.hi:=by rw [edgeR]
theorem edgeR_e (r:Res):(edgeR r).e=r.e:=by rw [edgeR]
theorem edge_facts {x:Nat} (lx:x < 18446744073709551616) (rx:rightB x=true):edgeW x < 18446744073709551616∧rightB (edgeW x)=true∧val (edgeW x)=min (max (val x) (-SS)) SS:=by
 obtain⟨p1,p2,p3⟩:=max_facts x m1 lx (by decide) rx (by decide)
 obtain⟨n1,n2,n3⟩:=min_facts (maxW x m1) u1 p1 (by decide) p2 (by decide)
 refine ⟨n1,n2,?_⟩
 have e1:val m1=-SS:=by decide +kernel
 have e2:val u1=SS:=by decide +kernel
 show val (minW (maxW x m1) u1)=_
 rw [n3,p3,e1,e2]
theorem edge_fit {a:Res} (h:Fit a):Fit (edgeR a):=by
 obtain⟨l1,l2,l3⟩:=edge_facts h.lo h.rlo
 obtain⟨k1,k2,k3⟩:=edge_facts h.hi h.rhi
 have hle:=h.le
 refine ⟨by rw [edgeR_e]; exact h.e,by rw [edgeR_lo]; exact l1,by rw [edgeR_hi]; exact k1,?_⟩
 rw [edgeR_lo,edgeR_hi]
 unfold ivR leB
 rw [l2,k2,decide_eq_true (show val (edgeW a.lo)≤val (edgeW a.hi) by rw [l3,k3]; omega)]; rfl
structure Dirs (i o d:Res):Prop where
 i:In i ouI
 o:In o ouI
 d:In d oeI
structure SlopeIn (i o d I O D:Res):Prop where
 p:In (Or.p i o) (Or.p I O)
 s:In (Or.s i o d) (Or.s I O D)
 top:In (Or.top i o) (Or.top I O)
def Or.n (s t:Res):Res:=mulR (Or.b s) t
def Or.k (s t:Res):Res:=addR (Or.a s) (Or.n s t)
def Or.l (r s t:Res):Res:=mulR r (Or.k s t)
structure ValIn (r s t R S T:Res):Prop where
 n:In (Or.n s t) (Or.n S T)
 k:In (Or.k s t) (Or.k S T)
 l:In (Or.l r s t) (Or.l R S T)
end
section
open Go.RowKit
def half (k:Nat):Nat:=4607182418800017408 - k*4503599627370496
end
section
open Go.RowKit
theorem calc_sqrt {a:Res} (fa:Fit a) (fr:Fit (sqrtR a)) (pb:Nat):Calc1 30 pb a.lo a.hi (sqrtR a).lo (sqrtR a).hi:=fun v h=>by
 have c:=cSqrt_any 0 a.lo a.hi pb 0 v fa.lo fa.hi h.pc h.pf
 rw [step_one fa] at c
 exact told_none fr.e c
theorem calc_max {a b:Res} (fa:Fit a) (fb:Fit b) (fr:Fit (maxR a b)) (pb:Nat):Calc2 33 pb a.lo a.hi b.lo b.hi (maxR a b).lo (maxR a b).hi:=fun v h=>by
 have c:=cMax_any 0 a.lo a.hi b.lo b.hi pb 0 v fa.lo fa.hi fb.lo fb.hi h.pc h.pf
 rw [step_two fa fb] at c
 exact told_none fr.e c
end
section
open Go.RowKit
attribute [local go_sem] run_store_float
theorem near_between {s:Nat} {T:Int} {c c' r:Nat} {e e':Int} (hs:0 < s) (hD:Down s T c e) (hU:Up s T c' e') (hB:Beside s T r) {x0 y0:Nat} (lx:x0 < 18446744073709551616) (rx:rightB x0=true) (hx:val x0*(s:Int)≤T) (ly:y0 < 18446744073709551616) (ry:rightB y0=true) (hy:T≤val y0*(s:Int)) :
   r < 18446744073709551616∧rung r < 9218868437227405312∧val x0≤val r∧val r≤val y0:=by
 have hs':(0:Int) < (s:Int):=by omega
 rcases hD with ⟨d0,d1,d2,d3,d4⟩ | ⟨_,_,d3⟩
 · rcases hU with ⟨u0,u1,u2,u3,u4⟩ | ⟨_,_,u3⟩
   · obtain⟨b1,b2,b3⟩:=hB c c' (Or.inl ⟨rfl,d1,d2,d3,d4⟩) (Or.inl ⟨rfl,u1,u2,u3,u4⟩)
     have h1:=d4 x0 lx rx hx
     have h2:=u4 y0 ly ry hy
     have h3:val c≤val y0:=Int.le_of_mul_le_mul_right (Int.le_trans d3 hy) hs'
     have h4:val x0≤val c':=Int.le_of_mul_le_mul_right (Int.le_trans hx u3) hs'
     rcases b3 with g | g
     · exact ⟨b1,b2,by omega,by omega⟩
     · exact ⟨b1,b2,by omega,by omega⟩
   · have:=u3 y0 ly ry; omega
 · have:=d3 x0 lx rx; omega
theorem word_right {r:Nat} (h:r < 9223372036854775808) (hr:rung r < 9218868437227405312):rightB r=true:=by
 unfold rightB
 unfold rung at hr
 rw [decide_eq_true hr,decide_eq_false (by omega:¬ r=9223372036854775808)]; rfl
theorem plain_sgn {x:Nat} (lx:x < 18446744073709551616) (rx:rightB x=true) (h:0≤val x):sgnB x=false:=by
 cases hs:sgnB x
 · rfl
 · have p:=neg_rung lx rx hs
   have e:=val_negs hs
   omega
theorem near_pos (mag:Nat) (place:Int) (hp:-6000≤place):Ieee.double.nearest false mag place < 9223372036854775808:=by
 have key:∀ R,Ieee.double.word false (min R 9218868437227405312) < 9223372036854775808:=fun R=>by
   unfold Ieee.Format.word
   simp only [Bool.false_eq_true,if_false]
   omega
 by_cases h0:mag=0
 · subst h0
   have e:Ieee.double.nearest false 0 place=Ieee.double.word false (min 0 9218868437227405312):=by
     unfold Ieee.Format.nearest; rw [if_pos rfl]; rfl
   rw [e]; exact key 0
 · obtain⟨R,e,_,_⟩:=near_rung false mag place h0 hp
   rw [e]; exact key R
theorem sum_plain (s t:Bool) (a b:Nat) (xa:-1074≤expo a) (xb:-1074≤expo b) (hst:(s&&t)=false) (hT:0≤sg s (steps (rung a))+sg t (steps (rung b))) (r:Nat)
   (h:((Ieee.Datum.number s (mant a) (expo a)).sum (.number t (mant b) (expo b))).map Ieee.double.write=some r):r < 9223372036854775808:=by
 obtain⟨base,hbase⟩:∃ base:Int,base=min (expo a) (expo b):=⟨_,rfl⟩
 obtain⟨total,htot⟩:∃ total:Int,total=Ieee.signed s (mant a) (expo a - base).toNat+Ieee.signed t (mant b) (expo b - base).toNat:=⟨_,rfl⟩
 have e1:sg s (steps (rung a))=Ieee.signed s (mant a) (expo a - base).toNat*((2 ^ (base+1074).toNat:Nat):Int):=by
   rw [←signed_mul,show (expo a - base).toNat+(base+1074).toNat=(expo a+1074).toNat by omega]
   unfold Ieee.signed sg; rw [steps_parts,Nat.shiftLeft_eq]
 have e2:sg t (steps (rung b))=Ieee.signed t (mant b) (expo b - base).toNat*((2 ^ (base+1074).toNat:Nat):Int):=by
   rw [←signed_mul,show (expo b - base).toNat+(base+1074).toNat=(expo b+1074).toNat by omega]
   unfold Ieee.signed sg; rw [steps_parts,Nat.shiftLeft_eq]
 have eT:sg s (steps (rung a))+sg t (steps (rung b))=total*((2 ^ (base+1074).toNat:Nat):Int):=by
   rw [e1,e2,htot,Int.add_mul]
 have hp:(0:Int) < ((2 ^ (base+1074).toNat:Nat):Int):=Int.natCast_pos.2 (Nat.two_pow_pos _)
 have h0:0≤total:=by
   rw [eT] at hT
   exact Int.le_of_mul_le_mul_right (by rw [Int.zero_mul]; exact hT) hp
 have k:((Ieee.Datum.number s (mant a) (expo a)).sum (.number t (mant b) (expo b))).map Ieee.double.write=some (Ieee.double.nearest (if total=0 then s&&t else decide (total < 0)) total.natAbs base):=by
   unfold Ieee.Datum.sum
   simp only [←hbase,←htot]
   rfl
 rw [k] at h
 have e:(if total=0 then s&&t else decide (total < 0))=false:=by
   by_cases z:total=0
   · rw [if_pos z]; exact hst
   · rw [if_neg z]; exact decide_eq_false (by omega)
 rw [e] at h
 rw [←Option.some.inj h]
 exact near_pos _ _ (by omega)
structure Amid (lo hi x:Nat):Prop where
 lt:x < 18446744073709551616
 right:rightB x=true
 lo:val lo≤val x
 hi:val x≤val hi
end
section
open Go.RowKit
attribute [local go_sem] run_store_float
theorem point_walk (x:Nat) (w:World) (h:∀ w,(binOp .add 25 (.float .f64 x) (.float .f64 0)).run Tryz.prog w = .ok (.float .f64 x) w) :
   Calls Tryz.prog 25 #[x] w (Rt (.agg #[x,x]) w):=by
 have M:=Lib.hid ((Own.nil w).made #[x,x] 31)
 go_enter Tryz.func25,Tryz.ntmps25
 go_wp2
 exact bodyPost_ret (v:=.agg #[.float .f64 x,.float .f64 x]) (by simp [results,Tryz.results25,go_sem]) rfl ⟨rfl,M.out.base⟩
end
end Go.Proofs.YtnaomilkgfkegaaGreat
