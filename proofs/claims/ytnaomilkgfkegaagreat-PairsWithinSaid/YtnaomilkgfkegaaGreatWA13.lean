/- What the claim stands on, part 14: QFA. -/
import Derived.Test.YtnaomilkgfkegaaGreatWA12
import Derived.LoopN
import Derived.Deep.RegionHeld3
set_option maxHeartbeats 4000000
set_option maxRecDepth 100000
namespace Go.Proofs.YtnaomilkgfkegaaGreat
section
open Go.RowKit
section
variable {P:Program} {ops:Array Oper} {Q:Exit→Act→World→Prop} {md:Region.Mode} {S:World→Prop} {T:List Nat}
def lstOf (L0:Array Bool) (cs ms:List Nat) (k:Nat) (p:List Bool):Array Bool:=
 (ms.zip p).foldl (fun l x=>if x.2 then l.setIfInBounds x.1 true else l) ((cs.take k).foldl (fun l i=>l.setIfInBounds i true) L0)
def boolLists:Nat→List (List Bool)
 | 0=>[[]]
 | n+1=>(boolLists n).flatMap fun l=>[false :: l,true :: l]
theorem mem_bools:∀ (p:List Bool),p∈boolLists p.length
 | []=>by simp [boolLists]
 | b :: p=>by
  have h:=mem_bools p;simp only [boolLists,List.length_cons,List.mem_flatMap];exact ⟨p,h,by cases b <;> simp⟩
def latAt (md:Region.Mode) (ops:Array Oper) (L0:Array Bool) (cs ms:List Nat) (k:Nat) (p:List Bool):Bool:=
 (decide (k=cs.length)&&p.all id) ||
 (!(Region.ready md ops (lstOf L0 cs ms k p)).isEmpty &&
  (Region.ready md ops (lstOf L0 cs ms k p)).all (fun i =>
   (match cs[k]? with
     | some j=>i == j&&((lstOf L0 cs ms k p).setIfInBounds i true == lstOf L0 cs ms (k+1) p)
     | none=>false) ||
   (List.range ms.length).any (fun m=>ms[m]? == some i&&p[m]? == some false&&((lstOf L0 cs ms k p).setIfInBounds i true == lstOf L0 cs ms k (p.set m true)))))
def latOk (md:Region.Mode) (ops:Array Oper) (L0:Array Bool) (cs ms:List Nat):Bool:=
 (List.range (cs.length+1)).all fun k=>(boolLists ms.length).all fun p=>latAt md ops L0 cs ms k p
theorem count_set:∀ (p:List (Option Nat)) (m q:Nat),p[m]? = some none→(p.set m (some q)).count none+1=p.count none
 | [],m,q,h=>by simp at h
 | x :: p,0,q,h=>by
  simp at h
  subst h
  simp
 | x :: p,m+1,q,h=>by
  have ih:=count_set p m q (by simpa using h);simp only [List.set_cons_succ,List.count_cons];omega
theorem count_nil:∀ (p:List (Option Nat)),p.count none=0→∀ x∈p,x.isSome=true
 | [],_,_,h=>by cases h
 | y :: p,h,x,hx=>by
  rw [List.count_cons] at h
  rcases List.mem_cons.1 hx with e | e
  ·subst e
   cases x
   ·simp at h
   ·rfl
  ·exact count_nil p (by omega) x e
theorem lat_any {L0:Array Bool} {cs ms:List Nat} {N:Nat} (J:Nat→List (Option Nat)→Act→World→Prop) (hok:latOk md ops L0 cs ms=true)
  (hS:∀ k p a w,J k p a w→S w)
  (call:∀ k i p a w,cs[k]? = some i→J k p a w→wpOp P ops Q i (fun b v=>J (k+1) p b v) a w)
  (alloc:∀ k m i p a w,ms[m]? = some i→p[m]? = some none→J k p a w→wpOp P ops Q i (fun b v=>∃ q,J k (p.set m (some q)) b v) a w)
  (fin:∀ p a w,p.length=ms.length→(∀ x∈p,x.isSome=true)→J cs.length p a w→wpAnyV P md ops Q S T N (lstOf L0 cs ms cs.length (p.map Option.isSome)) a w) :
  ∀ (f k:Nat) (p:List (Option Nat)) (a:Act) (w:World),p.length=ms.length→k≤cs.length→f=(cs.length - k)+p.count none→J k p a w →
   wpAnyV P md ops Q S T (N+f) (lstOf L0 cs ms k (p.map Option.isSome)) a w
 | 0,k,p,a,w,hp,hk,hf,hJ=>by
  obtain rfl:k=cs.length:=by omega
  exact fin p a w hp (count_nil p (by omega)) hJ
 | f+1,k,p,a,w,hp,hk,hf,hJ=>by
  have hat:latAt md ops L0 cs ms k (p.map Option.isSome)=true:=by
   unfold latOk at hok;rw [List.all_eq_true] at hok;have h1:=hok k (by simp; omega);rw [List.all_eq_true] at h1;refine h1 _ ?_;have:=mem_bools (p.map Option.isSome);rw [List.length_map,hp] at this;exact this
  have hnot:(decide (k=cs.length)&&(p.map Option.isSome).all id)=false:=by
   rw [Bool.eq_false_iff];intro h;rw [Bool.and_eq_true,decide_eq_true_eq,List.all_eq_true] at h
   have hc:p.count none=0:=by
    rw [List.count_eq_zero];intro hm;have:=h.2 false (by rw [List.mem_map]; exact ⟨none,hm,rfl⟩)
    simp at this
   omega
  unfold latAt at hat;rw [hnot,Bool.false_or,Bool.and_eq_true,List.all_eq_true] at hat;obtain⟨hne,hall⟩:=hat;refine ⟨fun h0=>by rw [h0] at hne; simp at hne,fun i hi=>?_⟩;have hi':=hall i hi;rw [Bool.or_eq_true] at hi'
  rcases hi' with h | h
  ·cases hck:cs[k]? with
   | none=>rw [hck] at h; simp at h
   | some j =>
    rw [hck] at h;simp only [Bool.and_eq_true,beq_iff_eq] at h;obtain⟨rfl,hl⟩:=h
    have hk':k < cs.length:=by
     rcases Nat.lt_or_ge k cs.length with g | g
     ·exact g
     ·rw [List.getElem?_eq_none g] at hck; cases hck
    refine wpOp_mono (fun b v hb=>⟨Or.inr (hS _ _ _ _ hb),?_⟩) (call k i p a w hck hJ);rw [hl];exact lat_any J hok hS call alloc fin f (k+1) p b v hp (by omega) (by omega) hb
  ·rw [List.any_eq_true] at h
   obtain⟨m,hm,h⟩:=h;simp only [Bool.and_eq_true,beq_iff_eq] at h;obtain⟨⟨h1,h2⟩,hl⟩:=h
   have h3:p[m]? = some none:=by
    rw [List.getElem?_map] at h2
    cases hpm:p[m]? with
    | none=>rw [hpm] at h2; simp at h2
    | some x =>
     rw [hpm] at h2
     cases x
     ·rfl
     ·simp at h2
   refine wpOp_mono (fun b v hb=>?_) (alloc k m i p a w h1 h3 hJ);obtain⟨q,hb⟩:=hb;refine ⟨Or.inr (hS _ _ _ _ hb),?_⟩
   have e:(p.map Option.isSome).set m true=(p.set m (some q)).map Option.isSome:=by
    rw [List.map_set]; rfl
   rw [hl,e];exact lat_any J hok hS call alloc fin f k (p.set m (some q)) b v (by rw [List.length_set]; exact hp) hk (by have:=count_set p m q h3; omega) hb
end
end
section
open Go.RowKit
structure Own (B:World) (l:List (Nat×Array Value)) (v:World):Prop where
 base:Below B.heap.size B v
 blocks:∀ x,x∈l→Has1 v x∧B.heap.size≤x.1
 apart:l.Pairwise (fun x y=>x.1≠y.1)
section
variable {B v v':World} {l:List (Nat×Array Value)}
theorem Own.nil (B:World):Own B [] B:=⟨Below.refl _ _,fun x h=>(by cases h),List.Pairwise.nil⟩
theorem Own.below (h:Own B l v) (hb:Below v.heap.size v v'):Own B l v':=⟨h.base.trans (hb.mono h.base.size),fun x hx=>⟨(h.blocks x hx).1.below hb,(h.blocks x hx).2⟩,h.apart⟩
theorem Own.drew (h:Own B l v):Own B l v.drew:=⟨h.base.drew,h.blocks,h.apart⟩
theorem Own.drewN (h:Own B l v) (n:Nat):Own B l (v.drewN n):=⟨Below.drewN h.base n,h.blocks,h.apart⟩
theorem Own.made (h:Own B l v) (c:Array Value) (t:TypeId):Own B ((v.heap.size,c) :: l) (v.alloc (.cells c t)):=
 ⟨h.base.alloc h.base.size _,fun x hx=>(by
   rcases List.mem_cons.1 hx with e | e
   · rw [e]; exact ⟨Has1.made v c t,h.base.size⟩
   · exact ⟨(h.blocks x e).1.below (bel1 _ _),(h.blocks x e).2⟩),
  List.Pairwise.cons (fun y hy=>Ne.symm (Nat.ne_of_lt (h.blocks y hy).1.1)) h.apart⟩
theorem Own.nth (h:Own B l v) (i:Nat) {x:Nat×Array Value} (hx:l[i]? = some x):Has1 v x:=(h.blocks x (List.mem_of_getElem? hx)).1
theorem Own.lowest (h:Own B l v) (i:Nat) {x:Nat×Array Value} (hx:l[i]? = some x):B.heap.size≤x.1:=(h.blocks x (List.mem_of_getElem? hx)).2
theorem Own.ne (h:Own B l v) (i j:Nat) {x y:Nat×Array Value} (hx:l[i]? = some x) (hy:l[j]? = some y) (hij:i≠j):x.1≠y.1:=by
 obtain⟨li,ei⟩:=List.getElem?_eq_some_iff.1 hx;obtain⟨lj,ej⟩:=List.getElem?_eq_some_iff.1 hy;have hp:=List.pairwise_iff_getElem.1 h.apart
 rcases Nat.lt_or_ge i j with g | g
 ·rw [←ei,←ej]; exact hp i j li lj g
 ·rw [←ei,←ej]; exact Ne.symm (hp j i lj li (by omega))
theorem Own.at (h:Own B l v) (i:Nat) {q:Nat} {c c':Array Value} (hi:l[i]? = some (q,c)) (hbase:Below B.heap.size B v') (hq:Has1 v' (q,c')) (hother:∀ x,Has1 v x→q≠x.1→Has1 v' x):Own B (l.set i (q,c')) v' where
 base:=hbase
 blocks:=fun x hx=>by
  obtain⟨j,lj,ej⟩:=List.mem_iff_getElem.1 hx;rw [List.getElem_set] at ej
  split at ej
  ·rw [←ej]; exact ⟨hq,(h.lowest i hi:B.heap.size≤(q,c).1)⟩
  ·rename_i hne
   rw [List.length_set] at lj
   have hj:l[j]? = some x:=by rw [List.getElem?_eq_getElem lj,ej]
   exact ⟨hother x (h.nth j hj) (h.ne i j hi hj hne),h.lowest j hj⟩
 apart:=by
  rw [List.pairwise_iff_getElem];have hp:=List.pairwise_iff_getElem.1 h.apart;obtain⟨li,ei⟩:=List.getElem?_eq_some_iff.1 hi
  have e1:∀ (j:Nat) (lj:j < (l.set i (q,c')).length),((l.set i (q,c'))[j]).1=(l[j]'(by rw [List.length_set] at lj; exact lj)).1:=fun j lj=>by
   rw [List.getElem_set]
   split
   ·rename_i he
    subst he;rw [ei]
   ·rfl
  intro j k lj lk hjk;rw [e1 j lj,e1 k lk];rw [List.length_set] at lj lk;exact hp j k lj lk hjk
theorem Own.putAt (h:Own B l v) (i:Nat) {q:Nat} {x y:Value} (hi:l[i]? = some (q,#[x])) (hb:Put ⟨q,0,none⟩ y v v'):Own B (l.set i (q,#[y])) v':=
 h.at i hi (h.base.trans (hb.lift (h.lowest i hi) h.base.size)) ((h.nth i hi).own hb) (fun _ hx hne=>hx.put hne hb)
theorem Own.set2 (h:Own B l v) (i:Nat) {q:Nat} {x y:Value} (hi:l[i]? = some (q,#[x,y])) (x' y':Value):Own B (l.set i (q,#[x',y'])) ((v.setCell ⟨q,0,none⟩ x').setCell ⟨q,1,none⟩ y'):=
 h.at i hi ((h.base.setCell (h.lowest i hi) _).setCell (h.lowest i hi) _) ((h.nth i hi).set2 x' y') (fun _ hx hne=>(hx.set hne).set hne)
theorem Own.set6 (h:Own B l v) (i:Nat) {q:Nat} {z0 z1 z2 z3 z4 z5:Value} (hi:l[i]? = some (q,#[z0,z1,z2,z3,z4,z5])) (y0 y1 y2 y3 y4 y5:Value) :
  Own B (l.set i (q,#[y0,y1,y2,y3,y4,y5])) ((((((v.setCell ⟨q,0,none⟩ y0).setCell ⟨q,1,none⟩ y1).setCell ⟨q,2,none⟩ y2).setCell ⟨q,3,none⟩ y3).setCell ⟨q,4,none⟩ y4).setCell ⟨q,5,none⟩ y5):=
 h.at i hi ((((((h.base.setCell (h.lowest i hi) _).setCell (h.lowest i hi) _).setCell (h.lowest i hi) _).setCell (h.lowest i hi) _).setCell (h.lowest i hi) _).setCell (h.lowest i hi) _)
  ((((((( h.nth i hi).setIn 0 y0).setIn 1 y1).setIn 2 y2).setIn 3 y3).setIn 4 y4).setIn 5 y5) (fun _ hx hne=>(((((hx.set hne).set hne).set hne).set hne).set hne).set hne)
end
structure OwnF (B:World) (l:List (Nat×Array Value)) (zc:List (Array Value)) (p:List (Option Nat)) (v:World):Prop where
 own:Own B l v
 blk:∀ (m q:Nat),p[m]? = some (some q)→(∃ c,zc[m]? = some c∧Has1 v (q,c))∧B.heap.size≤q∧∀ x,x∈l→q≠x.1
 apart:∀ (m n q:Nat),p[m]? = some (some q)→p[n]? = some (some q)→m=n
section
variable {B v v':World} {l:List (Nat×Array Value)} {zc:List (Array Value)} {p:List (Option Nat)}
theorem OwnF.start (h:Own B l v) (n:Nat):OwnF B l zc (List.replicate n none) v:=
 ⟨h,fun m q hm=>by simp [List.getElem?_replicate] at hm,fun m n' q hm=>by simp [List.getElem?_replicate] at hm⟩
theorem OwnF.below (h:OwnF B l zc p v) (hb:Below v.heap.size v v'):OwnF B l zc p v':=
 ⟨h.own.below hb,fun m q hm=>by
  obtain⟨⟨c,h1,h2⟩,h3⟩:=h.blk m q hm
  exact ⟨⟨c,h1,h2.below hb⟩,h3⟩,h.apart⟩
theorem OwnF.putAt (h:OwnF B l zc p v) (i:Nat) {q:Nat} {x0 y:Value} (hi:l[i]? = some (q,#[x0])) (hb:Put ⟨q,0,none⟩ y v v'):OwnF B (l.set i (q,#[y])) zc p v':=
 ⟨h.own.putAt i hi hb,fun m r hm=>by
  obtain⟨⟨c,h1,h2⟩,h3,h4⟩:=h.blk m r hm;refine ⟨⟨c,h1,h2.put (Ne.symm (h4 _ (List.mem_of_getElem? hi))) hb⟩,h3,fun x hx=>?_⟩
  rcases List.mem_or_eq_of_mem_set hx with e | e
  ·exact h4 x e
  ·rw [e]; exact (h4 _ (List.mem_of_getElem? hi):r≠(q,#[x0]).1),h.apart⟩
theorem OwnF.alloc (h:OwnF B l zc p v) {m:Nat} {c:Array Value} (_hm:p[m]? = some none) (hz:zc[m]? = some c) (t:TypeId):OwnF B l zc (p.set m (some v.heap.size)) (v.alloc (.cells c t)) where
 own:=h.own.below (bel1 _ _)
 blk:=fun n q hn=>by
  rw [List.getElem?_set] at hn
  split at hn
  ·rename_i e
   subst e
   split at hn
   ·simp at hn
    subst hn;exact ⟨⟨c,hz,Has1.made v c t⟩,h.own.base.size,fun x hx=>Ne.symm (Nat.ne_of_lt (h.own.blocks x hx).1.1)⟩
   ·simp at hn
  ·obtain⟨⟨c',h1,h2⟩,h3⟩:=h.blk n q hn
   exact ⟨⟨c',h1,h2.below (bel1 _ _)⟩,h3⟩
 apart:=fun n n' q hn hn'=>by
  have key:∀ j,(p.set m (some v.heap.size))[j]? = some (some q)→(j=m∧q=v.heap.size)∨(j≠m∧p[j]? = some (some q)):=fun j hj=>by
   rw [List.getElem?_set] at hj
   split at hj
   ·rename_i e
    split at hj
    ·simp at hj; exact Or.inl ⟨e.symm,hj.symm⟩
    ·simp at hj
   ·rename_i e; exact Or.inr ⟨fun e'=>e e'.symm,hj⟩
  have small:∀ j,p[j]? = some (some q)→q < v.heap.size:=fun j hj=>by
   obtain⟨⟨c',_,h2⟩,_⟩:=h.blk j q hj;exact h2.1
  rcases key n hn with ⟨e1,e2⟩ | ⟨e1,e2⟩ <;> rcases key n' hn' with ⟨g1,g2⟩ | ⟨g1,g2⟩
  ·omega
  ·have:=small n' g2; omega
  ·have:=small n e2; omega
  ·exact h.apart n n' q e2 g2
theorem OwnF.fin1 {c1:Array Value} {q1:Nat} (h:OwnF B l [c1] [some q1] v):Own B ((q1,c1) :: l) v:=by
 obtain⟨⟨c,a1,a2⟩,a3,a4⟩:=h.blk 0 q1 rfl
 obtain rfl:c1=c:=by simpa using a1
 refine ⟨h.own.base,fun x hx=>?_,List.Pairwise.cons (fun y hy=>a4 y hy) h.own.apart⟩
 rcases List.mem_cons.1 hx with e | e
 ·rw [e]; exact ⟨a2,a3⟩
 ·exact h.own.blocks x e
theorem OwnF.fin2 {c1 c2:Array Value} {q1 q2:Nat} (h:OwnF B l [c1,c2] [some q1,some q2] v):Own B ((q1,c1) :: (q2,c2) :: l) v:=by
 have k:Own B ((q2,c2) :: l) v:=OwnF.fin1 ⟨h.own,fun m q hm=>by
   match m with
   | 0=>exact h.blk 1 q hm
   | m+1=>simp at hm,fun m n q hm hn=>by
   match m,n with
   | 0,0=>rfl
   | 0,n+1=>simp at hn
   | m+1,_=>simp at hm⟩
 obtain⟨⟨c,a1,a2⟩,a3,a4⟩:=h.blk 0 q1 rfl
 obtain rfl:c1=c:=by simpa using a1
 refine ⟨h.own.base,fun x hx=>?_,List.Pairwise.cons (fun y hy=>?_) k.apart⟩
 ·rcases List.mem_cons.1 hx with e | e
  ·rw [e]; exact ⟨a2,a3⟩
  ·exact k.blocks x e
 ·rcases List.mem_cons.1 hy with e | e
  ·rw [e]; intro he
   have:=h.apart 0 1 q1 rfl (by rw [show q1=q2 from he]; rfl);omega
  ·exact a4 y e
end
section
variable {P:Program} {ops:Array Oper} {Q:Exit→Act→World→Prop} {md:Region.Mode} {S:World→Prop} {T:List Nat}
theorem op_step {i:Nat} {o:Oper} {a:Act} {w:World} {J:Act→World→Prop} (hi:ops[i]? = some o)
  (h:∀ K:Act→World→Prop,Shut (∀ b v,J b v→K b v)→if Region.wanted o (yielded ops a.tmps) then o.wp P a w K Q else K (a.put o.dst undef) w):wpOp P ops Q i J a w:=by
 have k:=h J (fun _ _ h=>h);unfold wpOp;simp only [hi]
 split at k
 ·rename_i hw
  rw [if_pos hw]; exact Or.inl k
 ·rename_i hw
  rw [if_neg hw]; exact k
theorem os {P:Program} {ops:Array Oper} {Q:Exit→Act→World→Prop} {i:Nat} {o:Oper} {a:Act} {w:World} {J:Act→World→Prop}
    (h:∀ K:Act→World→Prop,Shut (∀ b v,J b v→K b v)→if Region.wanted o (yielded ops a.tmps) then o.wp P a w K Q else K (a.put o.dst undef) w) (hi:ops[i]? = some o:=by rfl):wpOp P ops Q i J a w:=op_step hi h
theorem put_ex {a:Act} {s:Nat} (h:s < a.tmps.size):∃ y,a.put (some s) y=a:=by
 refine ⟨a.tmps[s],?_⟩
 cases a
 simp only [Act.put]
 congr 1
 apply Array.ext (by simp)
 intro i h1 h2;rw [Array.getElem_setIfInBounds]
 split
 ·rename_i e; subst e; rfl
 ·rfl
theorem lat_from {a0:Act} {w0:World} {L0:Array Bool} (cs ms slots:List Nat) (N f:Nat) (J:Act→Nat→List (Option Nat)→Act→World→Prop) (hok:latOk md ops L0 cs ms=true) (hf:f=cs.length+ms.length)
  (hsl:(slots.all fun s=>decide (s < a0.tmps.size))=true) (h0:∀ A:Act,(∀ s,s∈slots→s < A.tmps.size)→J A 0 (List.replicate ms.length none) A w0)
  (hS:∀ k p a w,J a0 k p a w→S w)
  (call:∀ k i p a w,cs[k]? = some i→J a0 k p a w→wpOp P ops Q i (fun b v=>J a0 (k+1) p b v) a w)
  (alloc:∀ k m i p a w,ms[m]? = some i→p[m]? = some none→J a0 k p a w→wpOp P ops Q i (fun b v=>∃ q,J a0 k (p.set m (some q)) b v) a w)
  (fin:∀ p a w,p.length=ms.length→(∀ x∈p,x.isSome=true)→J a0 cs.length p a w→wpAnyV P md ops Q S T N (lstOf L0 cs ms cs.length (p.map Option.isSome)) a w) :
  wpAnyV P md ops Q S T (N+f) L0 a0 w0:=by
 have h:=lat_any (J a0) hok hS call alloc fin f 0 (List.replicate ms.length none) a0 w0 (by simp) (Nat.zero_le _) (by rw [hf]; simp) (h0 a0 (fun s hs=>by rw [List.all_eq_true] at hsl; exact of_decide_eq_true (hsl s hs)))
 have e:lstOf L0 cs ms 0 ((List.replicate ms.length none).map (Option.isSome (α:=Nat)))=L0:=by
  unfold lstOf;rw [List.take_zero,List.foldl_nil]
  have:∀ (ms:List Nat) (L:Array Bool),(ms.zip ((List.replicate ms.length none).map (Option.isSome (α:=Nat)))).foldl (fun l x=>if x.2 then l.setIfInBounds x.1 true else l) L=L:=by
   intro ms
   induction ms with
   | nil=>intro L; rfl
   | cons m ms ih=>intro L; simpa [List.replicate_succ] using ih L
  exact this ms L0
 rw [e] at h;exact h
end
theorem fin_one {p:List (Option Nat)} (hp:p.length=1) (h:∀ x∈p,x.isSome=true):∃ q,p=[some q]:=by
 match p,hp with
 | [some q],_=>exact ⟨q,rfl⟩
 | [none],_=>exact absurd (h none (by simp)) (by decide)
theorem fin_two {p:List (Option Nat)} (hp:p.length=2) (h:∀ x∈p,x.isSome=true):∃ q r,p=[some q,some r]:=by
 match p,hp with
 | [some q,some r],_=>exact ⟨q,r,rfl⟩
 | [none,_],_=>exact absurd (h none (by simp)) (by decide)
 | [_,none],_=>exact absurd (h none (by simp)) (by decide)
theorem ptr_set {p:List (Option Nat)} {m n q:Nat} (h:(p.set m (some n))[m]? = some (some q)):(.pointer (some ⟨n,0,none⟩):Value) = .pointer (some ⟨q,0,none⟩):=by
 rw [List.getElem?_set,if_pos rfl] at h
 split at h
 ·simp at h; rw [h]
 ·simp at h
theorem ptr_keep {p:List (Option Nat)} {m n:Nat} (j:Nat) (hj:m≠j) {z:Value} (h:∀ q,p[j]? = some (some q)→z = .pointer (some ⟨q,0,none⟩)):∀ q,(p.set m (some n))[j]? = some (some q)→z = .pointer (some ⟨q,0,none⟩):=fun q hq=>by
 rw [List.getElem?_set,if_neg hj] at hq;exact h q hq
section
variable {P:Program} {ops:Array Oper} {Q:Exit→Act→World→Prop} {md:Region.Mode} {S:World→Prop} {T:List Nat}
theorem lat_from1 {a0:Act} {w0:World} {L0:Array Bool} (cs:List Nat) (m1:Nat) (slots:List Nat) (N f:Nat) (J:Act→Nat→List (Option Nat)→Act→World→Prop) (hok:latOk md ops L0 cs [m1]=true) (hf:f=cs.length+1)
  (hsl:(slots.all fun s=>decide (s < a0.tmps.size))=true) (h0:∀ A:Act,(∀ s,s∈slots→s < A.tmps.size)→J A 0 (List.replicate 1 none) A w0)
  (hS:∀ k p a w,J a0 k p a w→S w)
  (call:∀ k i p a w,cs[k]? = some i→J a0 k p a w→wpOp P ops Q i (fun b v=>J a0 (k+1) p b v) a w)
  (alloc:∀ k m i p a w,[m1][m]? = some i→p[m]? = some none→J a0 k p a w→wpOp P ops Q i (fun b v=>∃ q,J a0 k (p.set m (some q)) b v) a w)
  (fin:∀ q1 a w,J a0 cs.length [some q1] a w→wpAnyV P md ops Q S T N (lstOf L0 cs [m1] cs.length [true]) a w) :
  wpAnyV P md ops Q S T (N+f) L0 a0 w0:=
 lat_from cs [m1] slots N f J hok hf hsl h0 hS call alloc (fun p a w hp hall hJ=>by
  obtain⟨q1,rfl⟩:=fin_one hp hall
  exact fin q1 a w hJ)
theorem lat_from2 {a0:Act} {w0:World} {L0:Array Bool} (cs:List Nat) (m1 m2:Nat) (slots:List Nat) (N f:Nat) (J:Act→Nat→List (Option Nat)→Act→World→Prop) (hok:latOk md ops L0 cs [m1,m2]=true) (hf:f=cs.length+2)
  (hsl:(slots.all fun s=>decide (s < a0.tmps.size))=true) (h0:∀ A:Act,(∀ s,s∈slots→s < A.tmps.size)→J A 0 (List.replicate 2 none) A w0)
  (hS:∀ k p a w,J a0 k p a w→S w)
  (call:∀ k i p a w,cs[k]? = some i→J a0 k p a w→wpOp P ops Q i (fun b v=>J a0 (k+1) p b v) a w)
  (alloc:∀ k m i p a w,[m1,m2][m]? = some i→p[m]? = some none→J a0 k p a w→wpOp P ops Q i (fun b v=>∃ q,J a0 k (p.set m (some q)) b v) a w)
  (fin:∀ q1 q2 a w,J a0 cs.length [some q1,some q2] a w→wpAnyV P md ops Q S T N (lstOf L0 cs [m1,m2] cs.length [true,true]) a w) :
  wpAnyV P md ops Q S T (N+f) L0 a0 w0:=
 lat_from cs [m1,m2] slots N f J hok hf hsl h0 hS call alloc (fun p a w hp hall hJ=>by
  obtain⟨q1,q2,rfl⟩:=fin_two hp hall
  exact fin q1 q2 a w hJ)
end
end
section
open Go.RowKit
section
variable {P:Program} {ops:Array Oper} {Q:Exit→Act→World→Prop} {md:Region.Mode} {S:World→Prop} {T:List Nat}
theorem lat_2_2 {a0:Act} {w0:World} {L0:Array Bool} (c1 c2 m1 m2:Nat) (slots:List Nat) (N:Nat) (J:Act→Nat→List (Option Nat)→Act→World→Prop) (hok:latOk md ops L0 [c1,c2] [m1,m2]=true)
  (hsl:(slots.all fun s=>decide (s < a0.tmps.size))=true) (h0:∀ A:Act,(∀ s,s∈slots→s < A.tmps.size)→J A 0 (List.replicate 2 none) A w0)
  (hS:∀ k p a w,J a0 k p a w→S w)
  (k1:∀ p a w,J a0 0 p a w→wpOp P ops Q c1 (fun b v=>J a0 1 p b v) a w)
  (k2:∀ p a w,J a0 1 p a w→wpOp P ops Q c2 (fun b v=>J a0 2 p b v) a w)
  (n1:∀ k p a w,p[0]? = some none→J a0 k p a w→wpOp P ops Q m1 (fun b v=>∃ q,J a0 k (p.set 0 (some q)) b v) a w)
  (n2:∀ k p a w,p[1]? = some none→J a0 k p a w→wpOp P ops Q m2 (fun b v=>∃ q,J a0 k (p.set 1 (some q)) b v) a w)
  (fin:∀ q1 q2 a w,J a0 2 [some q1,some q2] a w→wpAnyV P md ops Q S T N (lstOf L0 [c1,c2] [m1,m2] 2 [true,true]) a w) :
  wpAnyV P md ops Q S T (N+4) L0 a0 w0:=by
 refine lat_from2 [c1,c2] m1 m2 slots N 4 J hok rfl hsl h0 hS (fun k i p a w hk hJ=>?_) (fun k m i p a w hm hp hJ=>?_) fin
 ·rcases k with _ | _ | k
  ·obtain rfl:c1=i:=by simpa using hk
   exact k1 p a w hJ
  ·obtain rfl:c2=i:=by simpa using hk
   exact k2 p a w hJ
  ·simp at hk
 ·rcases m with _ | _ | m
  ·obtain rfl:m1=i:=by simpa using hm
   exact n1 k p a w hp hJ
  ·obtain rfl:m2=i:=by simpa using hm
   exact n2 k p a w hp hJ
  ·simp at hm
theorem lat_3_0 {a0:Act} {w0:World} {L0:Array Bool} (c1 c2 c3:Nat) (slots:List Nat) (N:Nat) (J:Act→Nat→List (Option Nat)→Act→World→Prop) (hok:latOk md ops L0 [c1,c2,c3] []=true)
  (hsl:(slots.all fun s=>decide (s < a0.tmps.size))=true) (h0:∀ A:Act,(∀ s,s∈slots→s < A.tmps.size)→J A 0 (List.replicate 0 none) A w0)
  (hS:∀ k p a w,J a0 k p a w→S w)
  (k1:∀ p a w,J a0 0 p a w→wpOp P ops Q c1 (fun b v=>J a0 1 p b v) a w)
  (k2:∀ p a w,J a0 1 p a w→wpOp P ops Q c2 (fun b v=>J a0 2 p b v) a w)
  (k3:∀ p a w,J a0 2 p a w→wpOp P ops Q c3 (fun b v=>J a0 3 p b v) a w)
  (fin:∀ a w,J a0 3 [] a w→wpAnyV P md ops Q S T N (lstOf L0 [c1,c2,c3] [] 3 []) a w) :
  wpAnyV P md ops Q S T (N+3) L0 a0 w0:=by
 refine lat_from [c1,c2,c3] [] slots N 3 J hok rfl hsl h0 hS (fun k i p a w hk hJ=>?_) (fun k m i p a w hm hp hJ=>by simp at hm) (fun p a w hp _ hJ=>?_)
 ·rcases k with _ | _ | _ | k
  ·obtain rfl:c1=i:=by simpa using hk
   exact k1 p a w hJ
  ·obtain rfl:c2=i:=by simpa using hk
   exact k2 p a w hJ
  ·obtain rfl:c3=i:=by simpa using hk
   exact k3 p a w hJ
  ·simp at hk
 ·obtain rfl:p=[]:=List.length_eq_zero_iff.1 hp
  exact fin a w hJ
theorem lat_3_1 {a0:Act} {w0:World} {L0:Array Bool} (c1 c2 c3 m1:Nat) (slots:List Nat) (N:Nat) (J:Act→Nat→List (Option Nat)→Act→World→Prop) (hok:latOk md ops L0 [c1,c2,c3] [m1]=true)
  (hsl:(slots.all fun s=>decide (s < a0.tmps.size))=true) (h0:∀ A:Act,(∀ s,s∈slots→s < A.tmps.size)→J A 0 (List.replicate 1 none) A w0)
  (hS:∀ k p a w,J a0 k p a w→S w)
  (k1:∀ p a w,J a0 0 p a w→wpOp P ops Q c1 (fun b v=>J a0 1 p b v) a w)
  (k2:∀ p a w,J a0 1 p a w→wpOp P ops Q c2 (fun b v=>J a0 2 p b v) a w)
  (k3:∀ p a w,J a0 2 p a w→wpOp P ops Q c3 (fun b v=>J a0 3 p b v) a w)
  (n1:∀ k p a w,p[0]? = some none→J a0 k p a w→wpOp P ops Q m1 (fun b v=>∃ q,J a0 k (p.set 0 (some q)) b v) a w)
  (fin:∀ q1 a w,J a0 3 [some q1] a w→wpAnyV P md ops Q S T N (lstOf L0 [c1,c2,c3] [m1] 3 [true]) a w) :
  wpAnyV P md ops Q S T (N+4) L0 a0 w0:=by
 refine lat_from1 [c1,c2,c3] m1 slots N 4 J hok rfl hsl h0 hS (fun k i p a w hk hJ=>?_) (fun k m i p a w hm hp hJ=>?_) fin
 ·rcases k with _ | _ | _ | k
  ·obtain rfl:c1=i:=by simpa using hk
   exact k1 p a w hJ
  ·obtain rfl:c2=i:=by simpa using hk
   exact k2 p a w hJ
  ·obtain rfl:c3=i:=by simpa using hk
   exact k3 p a w hJ
  ·simp at hk
 ·rcases m with _ | m
  ·obtain rfl:m1=i:=by simpa using hm
   exact n1 k p a w hp hJ
  ·simp at hm
theorem lat_4_1 {a0:Act} {w0:World} {L0:Array Bool} (c1 c2 c3 c4 m1:Nat) (slots:List Nat) (N:Nat) (J:Act→Nat→List (Option Nat)→Act→World→Prop) (hok:latOk md ops L0 [c1,c2,c3,c4] [m1]=true)
  (hsl:(slots.all fun s=>decide (s < a0.tmps.size))=true) (h0:∀ A:Act,(∀ s,s∈slots→s < A.tmps.size)→J A 0 (List.replicate 1 none) A w0)
  (hS:∀ k p a w,J a0 k p a w→S w)
  (k1:∀ p a w,J a0 0 p a w→wpOp P ops Q c1 (fun b v=>J a0 1 p b v) a w)
  (k2:∀ p a w,J a0 1 p a w→wpOp P ops Q c2 (fun b v=>J a0 2 p b v) a w)
  (k3:∀ p a w,J a0 2 p a w→wpOp P ops Q c3 (fun b v=>J a0 3 p b v) a w)
  (k4:∀ p a w,J a0 3 p a w→wpOp P ops Q c4 (fun b v=>J a0 4 p b v) a w)
  (n1:∀ k p a w,p[0]? = some none→J a0 k p a w→wpOp P ops Q m1 (fun b v=>∃ q,J a0 k (p.set 0 (some q)) b v) a w)
  (fin:∀ q1 a w,J a0 4 [some q1] a w→wpAnyV P md ops Q S T N (lstOf L0 [c1,c2,c3,c4] [m1] 4 [true]) a w) :
  wpAnyV P md ops Q S T (N+5) L0 a0 w0:=by
 refine lat_from1 [c1,c2,c3,c4] m1 slots N 5 J hok rfl hsl h0 hS (fun k i p a w hk hJ=>?_) (fun k m i p a w hm hp hJ=>?_) fin
 ·rcases k with _ | _ | _ | _ | k
  ·obtain rfl:c1=i:=by simpa using hk
   exact k1 p a w hJ
  ·obtain rfl:c2=i:=by simpa using hk
   exact k2 p a w hJ
  ·obtain rfl:c3=i:=by simpa using hk
   exact k3 p a w hJ
  ·obtain rfl:c4=i:=by simpa using hk
   exact k4 p a w hJ
  ·simp at hk
 ·rcases m with _ | m
  ·obtain rfl:m1=i:=by simpa using hm
   exact n1 k p a w hp hJ
  ·simp at hm
theorem lat_5_1 {a0:Act} {w0:World} {L0:Array Bool} (c1 c2 c3 c4 c5 m1:Nat) (slots:List Nat) (N:Nat) (J:Act→Nat→List (Option Nat)→Act→World→Prop) (hok:latOk md ops L0 [c1,c2,c3,c4,c5] [m1]=true)
  (hsl:(slots.all fun s=>decide (s < a0.tmps.size))=true) (h0:∀ A:Act,(∀ s,s∈slots→s < A.tmps.size)→J A 0 (List.replicate 1 none) A w0)
  (hS:∀ k p a w,J a0 k p a w→S w)
  (k1:∀ p a w,J a0 0 p a w→wpOp P ops Q c1 (fun b v=>J a0 1 p b v) a w)
  (k2:∀ p a w,J a0 1 p a w→wpOp P ops Q c2 (fun b v=>J a0 2 p b v) a w)
  (k3:∀ p a w,J a0 2 p a w→wpOp P ops Q c3 (fun b v=>J a0 3 p b v) a w)
  (k4:∀ p a w,J a0 3 p a w→wpOp P ops Q c4 (fun b v=>J a0 4 p b v) a w)
  (k5:∀ p a w,J a0 4 p a w→wpOp P ops Q c5 (fun b v=>J a0 5 p b v) a w)
  (n1:∀ k p a w,p[0]? = some none→J a0 k p a w→wpOp P ops Q m1 (fun b v=>∃ q,J a0 k (p.set 0 (some q)) b v) a w)
  (fin:∀ q1 a w,J a0 5 [some q1] a w→wpAnyV P md ops Q S T N (lstOf L0 [c1,c2,c3,c4,c5] [m1] 5 [true]) a w) :
  wpAnyV P md ops Q S T (N+6) L0 a0 w0:=by
 refine lat_from1 [c1,c2,c3,c4,c5] m1 slots N 6 J hok rfl hsl h0 hS (fun k i p a w hk hJ=>?_) (fun k m i p a w hm hp hJ=>?_) fin
 ·rcases k with _ | _ | _ | _ | _ | k
  ·obtain rfl:c1=i:=by simpa using hk
   exact k1 p a w hJ
  ·obtain rfl:c2=i:=by simpa using hk
   exact k2 p a w hJ
  ·obtain rfl:c3=i:=by simpa using hk
   exact k3 p a w hJ
  ·obtain rfl:c4=i:=by simpa using hk
   exact k4 p a w hJ
  ·obtain rfl:c5=i:=by simpa using hk
   exact k5 p a w hJ
  ·simp at hk
 ·rcases m with _ | m
  ·obtain rfl:m1=i:=by simpa using hm
   exact n1 k p a w hp hJ
  ·simp at hm
theorem lat_6_0 {a0:Act} {w0:World} {L0:Array Bool} (c1 c2 c3 c4 c5 c6:Nat) (slots:List Nat) (N:Nat) (J:Act→Nat→List (Option Nat)→Act→World→Prop) (hok:latOk md ops L0 [c1,c2,c3,c4,c5,c6] []=true)
  (hsl:(slots.all fun s=>decide (s < a0.tmps.size))=true) (h0:∀ A:Act,(∀ s,s∈slots→s < A.tmps.size)→J A 0 (List.replicate 0 none) A w0)
  (hS:∀ k p a w,J a0 k p a w→S w)
  (k1:∀ p a w,J a0 0 p a w→wpOp P ops Q c1 (fun b v=>J a0 1 p b v) a w)
  (k2:∀ p a w,J a0 1 p a w→wpOp P ops Q c2 (fun b v=>J a0 2 p b v) a w)
  (k3:∀ p a w,J a0 2 p a w→wpOp P ops Q c3 (fun b v=>J a0 3 p b v) a w)
  (k4:∀ p a w,J a0 3 p a w→wpOp P ops Q c4 (fun b v=>J a0 4 p b v) a w)
  (k5:∀ p a w,J a0 4 p a w→wpOp P ops Q c5 (fun b v=>J a0 5 p b v) a w)
  (k6:∀ p a w,J a0 5 p a w→wpOp P ops Q c6 (fun b v=>J a0 6 p b v) a w)
  (fin:∀ a w,J a0 6 [] a w→wpAnyV P md ops Q S T N (lstOf L0 [c1,c2,c3,c4,c5,c6] [] 6 []) a w) :
  wpAnyV P md ops Q S T (N+6) L0 a0 w0:=by
 refine lat_from [c1,c2,c3,c4,c5,c6] [] slots N 6 J hok rfl hsl h0 hS (fun k i p a w hk hJ=>?_) (fun k m i p a w hm hp hJ=>by simp at hm) (fun p a w hp _ hJ=>?_)
 ·rcases k with _ | _ | _ | _ | _ | _ | k
  ·obtain rfl:c1=i:=by simpa using hk
   exact k1 p a w hJ
  ·obtain rfl:c2=i:=by simpa using hk
   exact k2 p a w hJ
  ·obtain rfl:c3=i:=by simpa using hk
   exact k3 p a w hJ
  ·obtain rfl:c4=i:=by simpa using hk
   exact k4 p a w hJ
  ·obtain rfl:c5=i:=by simpa using hk
   exact k5 p a w hJ
  ·obtain rfl:c6=i:=by simpa using hk
   exact k6 p a w hJ
  ·simp at hk
 ·obtain rfl:p=[]:=List.length_eq_zero_iff.1 hp
  exact fin a w hJ
theorem lat_6_1 {a0:Act} {w0:World} {L0:Array Bool} (c1 c2 c3 c4 c5 c6 m1:Nat) (slots:List Nat) (N:Nat) (J:Act→Nat→List (Option Nat)→Act→World→Prop) (hok:latOk md ops L0 [c1,c2,c3,c4,c5,c6] [m1]=true)
  (hsl:(slots.all fun s=>decide (s < a0.tmps.size))=true) (h0:∀ A:Act,(∀ s,s∈slots→s < A.tmps.size)→J A 0 (List.replicate 1 none) A w0)
  (hS:∀ k p a w,J a0 k p a w→S w)
  (k1:∀ p a w,J a0 0 p a w→wpOp P ops Q c1 (fun b v=>J a0 1 p b v) a w)
  (k2:∀ p a w,J a0 1 p a w→wpOp P ops Q c2 (fun b v=>J a0 2 p b v) a w)
  (k3:∀ p a w,J a0 2 p a w→wpOp P ops Q c3 (fun b v=>J a0 3 p b v) a w)
  (k4:∀ p a w,J a0 3 p a w→wpOp P ops Q c4 (fun b v=>J a0 4 p b v) a w)
  (k5:∀ p a w,J a0 4 p a w→wpOp P ops Q c5 (fun b v=>J a0 5 p b v) a w)
  (k6:∀ p a w,J a0 5 p a w→wpOp P ops Q c6 (fun b v=>J a0 6 p b v) a w)
  (n1:∀ k p a w,p[0]? = some none→J a0 k p a w→wpOp P ops Q m1 (fun b v=>∃ q,J a0 k (p.set 0 (some q)) b v) a w)
  (fin:∀ q1 a w,J a0 6 [some q1] a w→wpAnyV P md ops Q S T N (lstOf L0 [c1,c2,c3,c4,c5,c6] [m1] 6 [true]) a w) :
  wpAnyV P md ops Q S T (N+7) L0 a0 w0:=by
 refine lat_from1 [c1,c2,c3,c4,c5,c6] m1 slots N 7 J hok rfl hsl h0 hS (fun k i p a w hk hJ=>?_) (fun k m i p a w hm hp hJ=>?_) fin
 ·rcases k with _ | _ | _ | _ | _ | _ | k
  ·obtain rfl:c1=i:=by simpa using hk
   exact k1 p a w hJ
  ·obtain rfl:c2=i:=by simpa using hk
   exact k2 p a w hJ
  ·obtain rfl:c3=i:=by simpa using hk
   exact k3 p a w hJ
  ·obtain rfl:c4=i:=by simpa using hk
   exact k4 p a w hJ
  ·obtain rfl:c5=i:=by simpa using hk
   exact k5 p a w hJ
  ·obtain rfl:c6=i:=by simpa using hk
   exact k6 p a w hJ
  ·simp at hk
 ·rcases m with _ | m
  ·obtain rfl:m1=i:=by simpa using hm
   exact n1 k p a w hp hJ
  ·simp at hm
theorem lam_2_2 {a0:Act} {B v:World} {x:Nat×Array Value} {l:List (Nat×Array Value)} (_:Hid (Own B (x :: l) v)) {w0:World} {L0:Array Bool} (c1 c2 m1 m2:Nat) (slots:List Nat) (N:Nat) (J:List (Nat×Array Value)→Act→Nat→List (Option Nat)→Act→World→Prop) (hok:latOk md ops L0 [c1,c2] [m1,m2]=true)
  (hsl:(slots.all fun s=>decide (s < a0.tmps.size))=true) (h0:∀ A:Act,(∀ s,s∈slots→s < A.tmps.size)→J l A 0 (List.replicate 2 none) A w0)
  (hS:∀ k p a w,J l a0 k p a w→S w)
  (k1:∀ p a w,J l a0 0 p a w→wpOp P ops Q c1 (fun b v=>J l a0 1 p b v) a w)
  (k2:∀ p a w,J l a0 1 p a w→wpOp P ops Q c2 (fun b v=>J l a0 2 p b v) a w)
  (n1:∀ k p a w,p[0]? = some none→J l a0 k p a w→wpOp P ops Q m1 (fun b v=>∃ q,J l a0 k (p.set 0 (some q)) b v) a w)
  (n2:∀ k p a w,p[1]? = some none→J l a0 k p a w→wpOp P ops Q m2 (fun b v=>∃ q,J l a0 k (p.set 1 (some q)) b v) a w)
  (fin:∀ q1 q2 a w,J l a0 2 [some q1,some q2] a w→wpAnyV P md ops Q S T N (lstOf L0 [c1,c2] [m1,m2] 2 [true,true]) a w) :
  wpAnyV P md ops Q S T (N+4) L0 a0 w0:=
 lat_2_2 c1 c2 m1 m2 slots N (J l) hok hsl h0 hS k1 k2 n1 n2 fin
theorem lam_3_0 {a0:Act} {B v:World} {x:Nat×Array Value} {l:List (Nat×Array Value)} (_:Hid (Own B (x :: l) v)) {w0:World} {L0:Array Bool} (c1 c2 c3:Nat) (slots:List Nat) (N:Nat) (J:List (Nat×Array Value)→Act→Nat→List (Option Nat)→Act→World→Prop) (hok:latOk md ops L0 [c1,c2,c3] []=true)
  (hsl:(slots.all fun s=>decide (s < a0.tmps.size))=true) (h0:∀ A:Act,(∀ s,s∈slots→s < A.tmps.size)→J l A 0 (List.replicate 0 none) A w0)
  (hS:∀ k p a w,J l a0 k p a w→S w)
  (k1:∀ p a w,J l a0 0 p a w→wpOp P ops Q c1 (fun b v=>J l a0 1 p b v) a w)
  (k2:∀ p a w,J l a0 1 p a w→wpOp P ops Q c2 (fun b v=>J l a0 2 p b v) a w)
  (k3:∀ p a w,J l a0 2 p a w→wpOp P ops Q c3 (fun b v=>J l a0 3 p b v) a w)
  (fin:∀ a w,J l a0 3 [] a w→wpAnyV P md ops Q S T N (lstOf L0 [c1,c2,c3] [] 3 []) a w) :
  wpAnyV P md ops Q S T (N+3) L0 a0 w0:=
 lat_3_0 c1 c2 c3 slots N (J l) hok hsl h0 hS k1 k2 k3 fin
theorem lam_3_1 {a0:Act} {B v:World} {x:Nat×Array Value} {l:List (Nat×Array Value)} (_:Hid (Own B (x :: l) v)) {w0:World} {L0:Array Bool} (c1 c2 c3 m1:Nat) (slots:List Nat) (N:Nat) (J:List (Nat×Array Value)→Act→Nat→List (Option Nat)→Act→World→Prop) (hok:latOk md ops L0 [c1,c2,c3] [m1]=true)
  (hsl:(slots.all fun s=>decide (s < a0.tmps.size))=true) (h0:∀ A:Act,(∀ s,s∈slots→s < A.tmps.size)→J l A 0 (List.replicate 1 none) A w0)
  (hS:∀ k p a w,J l a0 k p a w→S w)
  (k1:∀ p a w,J l a0 0 p a w→wpOp P ops Q c1 (fun b v=>J l a0 1 p b v) a w)
  (k2:∀ p a w,J l a0 1 p a w→wpOp P ops Q c2 (fun b v=>J l a0 2 p b v) a w)
  (k3:∀ p a w,J l a0 2 p a w→wpOp P ops Q c3 (fun b v=>J l a0 3 p b v) a w)
  (n1:∀ k p a w,p[0]? = some none→J l a0 k p a w→wpOp P ops Q m1 (fun b v=>∃ q,J l a0 k (p.set 0 (some q)) b v) a w)
  (fin:∀ q1 a w,J l a0 3 [some q1] a w→wpAnyV P md ops Q S T N (lstOf L0 [c1,c2,c3] [m1] 3 [true]) a w) :
  wpAnyV P md ops Q S T (N+4) L0 a0 w0:=
 lat_3_1 c1 c2 c3 m1 slots N (J l) hok hsl h0 hS k1 k2 k3 n1 fin
theorem lam_4_1 {a0:Act} {B v:World} {x:Nat×Array Value} {l:List (Nat×Array Value)} (_:Hid (Own B (x :: l) v)) {w0:World} {L0:Array Bool} (c1 c2 c3 c4 m1:Nat) (slots:List Nat) (N:Nat) (J:List (Nat×Array Value)→Act→Nat→List (Option Nat)→Act→World→Prop) (hok:latOk md ops L0 [c1,c2,c3,c4] [m1]=true)
  (hsl:(slots.all fun s=>decide (s < a0.tmps.size))=true) (h0:∀ A:Act,(∀ s,s∈slots→s < A.tmps.size)→J l A 0 (List.replicate 1 none) A w0)
  (hS:∀ k p a w,J l a0 k p a w→S w)
  (k1:∀ p a w,J l a0 0 p a w→wpOp P ops Q c1 (fun b v=>J l a0 1 p b v) a w)
  (k2:∀ p a w,J l a0 1 p a w→wpOp P ops Q c2 (fun b v=>J l a0 2 p b v) a w)
  (k3:∀ p a w,J l a0 2 p a w→wpOp P ops Q c3 (fun b v=>J l a0 3 p b v) a w)
  (k4:∀ p a w,J l a0 3 p a w→wpOp P ops Q c4 (fun b v=>J l a0 4 p b v) a w)
  (n1:∀ k p a w,p[0]? = some none→J l a0 k p a w→wpOp P ops Q m1 (fun b v=>∃ q,J l a0 k (p.set 0 (some q)) b v) a w)
  (fin:∀ q1 a w,J l a0 4 [some q1] a w→wpAnyV P md ops Q S T N (lstOf L0 [c1,c2,c3,c4] [m1] 4 [true]) a w) :
  wpAnyV P md ops Q S T (N+5) L0 a0 w0:=
 lat_4_1 c1 c2 c3 c4 m1 slots N (J l) hok hsl h0 hS k1 k2 k3 k4 n1 fin
theorem lam_5_1 {a0:Act} {B v:World} {x:Nat×Array Value} {l:List (Nat×Array Value)} (_:Hid (Own B (x :: l) v)) {w0:World} {L0:Array Bool} (c1 c2 c3 c4 c5 m1:Nat) (slots:List Nat) (N:Nat) (J:List (Nat×Array Value)→Act→Nat→List (Option Nat)→Act→World→Prop) (hok:latOk md ops L0 [c1,c2,c3,c4,c5] [m1]=true)
  (hsl:(slots.all fun s=>decide (s < a0.tmps.size))=true) (h0:∀ A:Act,(∀ s,s∈slots→s < A.tmps.size)→J l A 0 (List.replicate 1 none) A w0)
  (hS:∀ k p a w,J l a0 k p a w→S w)
  (k1:∀ p a w,J l a0 0 p a w→wpOp P ops Q c1 (fun b v=>J l a0 1 p b v) a w)
  (k2:∀ p a w,J l a0 1 p a w→wpOp P ops Q c2 (fun b v=>J l a0 2 p b v) a w)
  (k3:∀ p a w,J l a0 2 p a w→wpOp P ops Q c3 (fun b v=>J l a0 3 p b v) a w)
  (k4:∀ p a w,J l a0 3 p a w→wpOp P ops Q c4 (fun b v=>J l a0 4 p b v) a w)
  (k5:∀ p a w,J l a0 4 p a w→wpOp P ops Q c5 (fun b v=>J l a0 5 p b v) a w)
  (n1:∀ k p a w,p[0]? = some none→J l a0 k p a w→wpOp P ops Q m1 (fun b v=>∃ q,J l a0 k (p.set 0 (some q)) b v) a w)
  (fin:∀ q1 a w,J l a0 5 [some q1] a w→wpAnyV P md ops Q S T N (lstOf L0 [c1,c2,c3,c4,c5] [m1] 5 [true]) a w) :
  wpAnyV P md ops Q S T (N+6) L0 a0 w0:=
 lat_5_1 c1 c2 c3 c4 c5 m1 slots N (J l) hok hsl h0 hS k1 k2 k3 k4 k5 n1 fin
theorem lam_6_0 {a0:Act} {B v:World} {x:Nat×Array Value} {l:List (Nat×Array Value)} (_:Hid (Own B (x :: l) v)) {w0:World} {L0:Array Bool} (c1 c2 c3 c4 c5 c6:Nat) (slots:List Nat) (N:Nat) (J:List (Nat×Array Value)→Act→Nat→List (Option Nat)→Act→World→Prop) (hok:latOk md ops L0 [c1,c2,c3,c4,c5,c6] []=true)
  (hsl:(slots.all fun s=>decide (s < a0.tmps.size))=true) (h0:∀ A:Act,(∀ s,s∈slots→s < A.tmps.size)→J l A 0 (List.replicate 0 none) A w0)
  (hS:∀ k p a w,J l a0 k p a w→S w)
  (k1:∀ p a w,J l a0 0 p a w→wpOp P ops Q c1 (fun b v=>J l a0 1 p b v) a w)
  (k2:∀ p a w,J l a0 1 p a w→wpOp P ops Q c2 (fun b v=>J l a0 2 p b v) a w)
  (k3:∀ p a w,J l a0 2 p a w→wpOp P ops Q c3 (fun b v=>J l a0 3 p b v) a w)
  (k4:∀ p a w,J l a0 3 p a w→wpOp P ops Q c4 (fun b v=>J l a0 4 p b v) a w)
  (k5:∀ p a w,J l a0 4 p a w→wpOp P ops Q c5 (fun b v=>J l a0 5 p b v) a w)
  (k6:∀ p a w,J l a0 5 p a w→wpOp P ops Q c6 (fun b v=>J l a0 6 p b v) a w)
  (fin:∀ a w,J l a0 6 [] a w→wpAnyV P md ops Q S T N (lstOf L0 [c1,c2,c3,c4,c5,c6] [] 6 []) a w) :
  wpAnyV P md ops Q S T (N+6) L0 a0 w0:=
 lat_6_0 c1 c2 c3 c4 c5 c6 slots N (J l) hok hsl h0 hS k1 k2 k3 k4 k5 k6 fin
theorem lam_6_1 {a0:Act} {B v:World} {x:Nat×Array Value} {l:List (Nat×Array Value)} (_:Hid (Own B (x :: l) v)) {w0:World} {L0:Array Bool} (c1 c2 c3 c4 c5 c6 m1:Nat) (slots:List Nat) (N:Nat) (J:List (Nat×Array Value)→Act→Nat→List (Option Nat)→Act→World→Prop) (hok:latOk md ops L0 [c1,c2,c3,c4,c5,c6] [m1]=true)
  (hsl:(slots.all fun s=>decide (s < a0.tmps.size))=true) (h0:∀ A:Act,(∀ s,s∈slots→s < A.tmps.size)→J l A 0 (List.replicate 1 none) A w0)
  (hS:∀ k p a w,J l a0 k p a w→S w)
  (k1:∀ p a w,J l a0 0 p a w→wpOp P ops Q c1 (fun b v=>J l a0 1 p b v) a w)
  (k2:∀ p a w,J l a0 1 p a w→wpOp P ops Q c2 (fun b v=>J l a0 2 p b v) a w)
  (k3:∀ p a w,J l a0 2 p a w→wpOp P ops Q c3 (fun b v=>J l a0 3 p b v) a w)
  (k4:∀ p a w,J l a0 3 p a w→wpOp P ops Q c4 (fun b v=>J l a0 4 p b v) a w)
  (k5:∀ p a w,J l a0 4 p a w→wpOp P ops Q c5 (fun b v=>J l a0 5 p b v) a w)
  (k6:∀ p a w,J l a0 5 p a w→wpOp P ops Q c6 (fun b v=>J l a0 6 p b v) a w)
  (n1:∀ k p a w,p[0]? = some none→J l a0 k p a w→wpOp P ops Q m1 (fun b v=>∃ q,J l a0 k (p.set 0 (some q)) b v) a w)
  (fin:∀ q1 a w,J l a0 6 [some q1] a w→wpAnyV P md ops Q S T N (lstOf L0 [c1,c2,c3,c4,c5,c6] [m1] 6 [true]) a w) :
  wpAnyV P md ops Q S T (N+7) L0 a0 w0:=
 lat_6_1 c1 c2 c3 c4 c5 c6 m1 slots N (J l) hok hsl h0 hS k1 k2 k3 k4 k5 k6 n1 fin
end
end
section
open Go.RowKit
abbrev RowL:=List (Nat×Array Value)
section
variable {B v:World} {l:RowL} {x y z:Nat×Array Value}
theorem Own.front (h:Own B (x :: y :: l) v):Own B (y :: x :: l) v:=by
 have h1:=List.pairwise_cons.1 h.apart;have h2:=List.pairwise_cons.1 h1.2;refine ⟨h.base,fun r hr=>h.blocks r ?_,?_⟩
 ·simp only [List.mem_cons] at hr ⊢
  rcases hr with e | e | e <;> simp [e]
 ·refine List.pairwise_cons.2 ⟨fun r hr=>?_,List.pairwise_cons.2 ⟨fun r hr=>h1.1 r (List.mem_cons_of_mem _ hr),h2.2⟩⟩
  rcases List.mem_cons.1 hr with e | e
  ·rw [e]; exact Ne.symm (h1.1 y (List.mem_cons_self ..))
  ·exact h2.1 r e
theorem Own.under (h:Own B (x :: y :: z :: l) v):Own B (x :: z :: y :: l) v:=by
 have h1:=List.pairwise_cons.1 h.apart;have k:Own B (y :: z :: l) v:=⟨h.base,fun r hr=>h.blocks r (List.mem_cons_of_mem _ hr),h1.2⟩;have k':=k.front;refine ⟨h.base,fun r hr=>?_,List.pairwise_cons.2 ⟨fun r hr=>h1.1 r ?_,k'.apart⟩⟩
 ·rcases List.mem_cons.1 hr with e | e
  ·rw [e]; exact h.blocks x (List.mem_cons_self ..)
  ·exact k'.blocks r e
 ·simp only [List.mem_cons] at hr ⊢
  rcases hr with e | e | e <;> simp [e]
theorem Own.tail (h:Own B (x :: l) v):Own B l v:=⟨h.base,fun r hr=>h.blocks r (List.mem_cons_of_mem _ hr),(List.pairwise_cons.1 h.apart).2⟩
theorem Own.front2 (h:Own B (x :: y :: z :: l) v):Own B (z :: x :: y :: l) v:=h.under.front
end
section
variable {B v v':World} {l:RowL} {q:Nat} {x y x' y':Value} {z:Nat×Array Value}
theorem Own.putHead (h:Own B ((q,#[x]) :: l) v) (hb:Put ⟨q,0,none⟩ y v v'):Own B ((q,#[y]) :: l) v':=h.putAt 0 rfl hb
theorem Own.setHead (h:Own B ((q,#[x,y]) :: l) v) (x' y':Value):Own B ((q,#[x',y']) :: l) ((v.setCell ⟨q,0,none⟩ x').setCell ⟨q,1,none⟩ y'):=h.set2 0 rfl x' y'
theorem Own.setNext (h:Own B (z :: (q,#[x,y]) :: l) v) (x' y':Value):Own B (z :: (q,#[x',y']) :: l) ((v.setCell ⟨q,0,none⟩ x').setCell ⟨q,1,none⟩ y'):=h.set2 1 rfl x' y'
theorem OwnF.putHead {zc:List (Array Value)} {p:List (Option Nat)} (h:OwnF B ((q,#[x]) :: l) zc p v) (hb:Put ⟨q,0,none⟩ y v v'):OwnF B ((q,#[y]) :: l) zc p v':=h.putAt 0 rfl hb
end
theorem tk {P:Program} {ops:Array Oper} {Q:Exit→Act→World→Prop} {md:Region.Mode} {S:World→Prop} {o:Oper} {x:Value} {n:Nat} {listed:Array Bool} {a:Act} {w:World} (i:Nat) (hi:ops[i]? = some o)
  (hb:(Region.noSelect ops&&Region.free md ops listed i&&(Region.ready md ops listed).contains i&&closedB md ops listed)=true)
  (hy:Region.wanted o (yielded ops a.tmps)=true∧∀ w,S w→(execOp a.eval o).run P w = .ok (.value x) w) (hQ:∀ c a w,Q (.panic c) (a.put o.dst x) w→Q (.panic c) a w) (hS:S w)
  (h:wpAnyV P md ops Q S [] n (listed.setIfInBounds i true) (a.put o.dst x) w):wpAnyV P md ops Q S [] (n+1) listed a w:=by
 simp only [Bool.and_eq_true] at hb;exact tails_take hi hb.1.1.1 hb.1.1.2 hb.1.2 (by rw [hb.2]; rfl) hQ (Or.inl hy) hS h
theorem tq {P:Program} {ops:Array Oper} {Q:Exit→Act→World→Prop} {md:Region.Mode} {S:World→Prop} {o:Oper} {x:Value} {n:Nat} {listed:Array Bool} {a:Act} {w:World} (i:Nat) (hS:S w)
  (h:wpAnyV P md ops Q S [] n (listed.setIfInBounds i true) (a.put o.dst x) w) (hi:ops[i]? = some o:=by rfl)
  (hb:(Region.noSelect ops&&Region.free md ops listed i&&(Region.ready md ops listed).contains i&&closedB md ops listed)=true:=by kernel_rfl)
  (hx:Region.wanted o (yielded ops a.tmps)=true:=by kernel_rfl) (hy:∀ w,S w→(execOp a.eval o).run P w = .ok (.value x) w:=by intro w hSw; (try dsimp only at hSw); go_simp; try with_reducible rfl)
  (hQ:∀ c a w,Q (.panic c) (a.put o.dst x) w→Q (.panic c) a w:=by exact fun _ _ _ h=>h):wpAnyV P md ops Q S [] (n+1) listed a w:=
 tk i hi hb ⟨hx,hy⟩ hQ hS h
abbrev KN (f:FuncId) (e e':Int) (x rl rh:Nat):Prop:=∀ (pb:Nat) (v:World),Has1 v (pb,#[.int .i64 e])→Calls Tryz.prog f #[.pointer (some ⟨pb,0,none⟩),x] v fun r w'=>r = .returned (.agg #[rl,rh])∧Put ⟨pb,0,none⟩ (.int .i64 e') v w'
abbrev K1 (f:FuncId) (e e':Int) (al ah rl rh:Nat):Prop:=∀ (pb:Nat) (v:World),Has1 v (pb,#[.int .i64 e])→Calls Tryz.prog f #[.pointer (some ⟨pb,0,none⟩),.agg #[al,ah]] v fun r w'=>r = .returned (.agg #[rl,rh])∧Put ⟨pb,0,none⟩ (.int .i64 e') v w'
abbrev K2 (f:FuncId) (e e':Int) (al ah bl bh rl rh:Nat):Prop:=∀ (pb:Nat) (v:World),Has1 v (pb,#[.int .i64 e])→Calls Tryz.prog f #[.pointer (some ⟨pb,0,none⟩),.agg #[al,ah],.agg #[bl,bh]] v fun r w'=>r = .returned (.agg #[rl,rh])∧Put ⟨pb,0,none⟩ (.int .i64 e') v w'
abbrev KI (f:FuncId) (al ah rl rh:Nat):Prop:=∀ v:World,Calls Tryz.prog f #[.agg #[al,ah]] v fun r w'=>r = .returned (.agg #[rl,rh])∧Below v.heap.size v w'
end
section
open Go.RowKit
attribute [local go_sem] run_store_float
def clampW (x:Nat):Nat:=minW (maxW x 0) u1
theorem clamp_facts {x:Nat} (lx:x < 18446744073709551616) (rx:rightB x=true):clampW x < 18446744073709551616∧rightB (clampW x)=true∧val (clampW x)=min (max (val x) 0) (val u1):=by
 obtain⟨m1,m2,m3⟩:=max_facts x 0 lx (by decide) rx (by decide);obtain⟨n1,n2,n3⟩:=min_facts (maxW x 0) u1 m1 (by decide) m2 (by decide);refine ⟨n1,n2,?_⟩
 show val (minW (maxW x 0) u1)=_
 rw [n3,m3]; rfl
theorem clamped_any (a b:Nat) (w:World) (ha:a < 18446744073709551616) (hb:b < 18446744073709551616) (ra:rightB a=true) (rb:rightB b=true) :
  Calls Tryz.prog 202 #[.agg #[a,b]] w (Rt (.agg #[.float .f64 (clampW a),.float .f64 (clampW b)]) w):=by
 obtain⟨m1,m2,_⟩:=max_facts a 0 ha (by decide) ra (by decide);obtain⟨n1,n2,_⟩:=max_facts b 0 hb (by decide) rb (by decide)
 have h1:=fun ts t w=>(run_less a 0 ha (by decide) ra (by decide) ts t w).2
 have h2:=fun ts t w=>(run_less (maxW a 0) u1 m1 (by decide) m2 (by decide) ts t w).1
 have h3:=fun ts t w=>(run_less b 0 hb (by decide) rb (by decide) ts t w).2
 have h4:=fun ts t w=>(run_less (maxW b 0) u1 n1 (by decide) n2 (by decide) ts t w).1
 unfold clampW;revert h1 h2 h3 h4
 show (∀ ts t w,_)→(∀ ts t w,(Builtin.min_ ts t #[.float .f64 (maxW a 0),(4607182418800017408:Nat)]).run Tryz.prog w = .ok (.float .f64 (minW (maxW a 0) u1)) w)→(∀ ts t w,_)→(∀ ts t w,(Builtin.min_ ts t #[.float .f64 (maxW b 0),(4607182418800017408:Nat)]).run Tryz.prog w = .ok (.float .f64 (minW (maxW b 0) u1)) w)→_
 clear m1 m2 n1 n2 ha hb ra rb;generalize minW (maxW a 0) u1=x;generalize minW (maxW b 0) u1=y;generalize maxW a 0=p;generalize maxW b 0=q;intro h1 h2 h3 h4;have M:=Hd (((Own.nil w).made #[a,b] 31).made #[x,y] 31);simp only [World.size_alloc] at M;obtain⟨k1,k2⟩:=(M.o.nth 1 rfl).two;go_enter Tryz.func202,Tryz.ntmps202;go_wp2;obtain⟨f1,f2⟩:=(M.o.nth 0 rfl).two;exact bodyPost_ret (v:=.agg #[.float .f64 x,.float .f64 y]) (by simp [results,Tryz.results202,go_sem]) rfl ⟨rfl,M.o.base⟩
theorem Has1.eight {v:World} {b:Nat} {x0 x1 x2 x3 x4 x5 x6 x7:Value} (h:Has1 v (b,#[x0,x1,x2,x3,x4,x5,x6,x7])) :
  v.cell? ⟨b,0,none⟩=some x0∧v.cell? ⟨b,1,none⟩=some x1∧v.cell? ⟨b,2,none⟩=some x2∧v.cell? ⟨b,3,none⟩=some x3∧v.cell? ⟨b,4,none⟩=some x4∧v.cell? ⟨b,5,none⟩=some x5∧v.cell? ⟨b,6,none⟩=some x6∧v.cell? ⟨b,7,none⟩=some x7:=
 ⟨h.2.1 0,h.2.1 1,h.2.1 2,h.2.1 3,h.2.1 4,h.2.1 5,h.2.1 6,h.2.1 7⟩
theorem Has1.twelve {v:World} {b:Nat} {x0 x1 x2 x3 x4 x5 x6 x7 x8 x9 x10 x11:Value} (h:Has1 v (b,#[x0,x1,x2,x3,x4,x5,x6,x7,x8,x9,x10,x11])) :
  v.cell? ⟨b,0,none⟩=some x0∧v.cell? ⟨b,1,none⟩=some x1∧v.cell? ⟨b,2,none⟩=some x2∧v.cell? ⟨b,3,none⟩=some x3∧v.cell? ⟨b,4,none⟩=some x4∧v.cell? ⟨b,5,none⟩=some x5∧v.cell? ⟨b,6,none⟩=some x6∧v.cell? ⟨b,7,none⟩=some x7∧v.cell? ⟨b,8,none⟩=some x8∧v.cell? ⟨b,9,none⟩=some x9∧v.cell? ⟨b,10,none⟩=some x10∧v.cell? ⟨b,11,none⟩=some x11:=
 ⟨h.2.1 0,h.2.1 1,h.2.1 2,h.2.1 3,h.2.1 4,h.2.1 5,h.2.1 6,h.2.1 7,h.2.1 8,h.2.1 9,h.2.1 10,h.2.1 11⟩
theorem check2_walk (q a0 b0 l0 h0 a1 b1 l1 h1:Nat) (R0 R1 p0 g0 p1 g1:Bool) (w:World) (hA:Has1 w (q,#[a0,b0,l0,h0,a1,b1,l1,h1]))
  (c0:CH 46 #[.agg #[a0,b0]] (.bool R0))
  (c1:CH 46 #[.agg #[a1,b1]] (.bool R1))
  (o0:(FloatKind.f64.format.order a0 l0 == some Ordering.lt)=p0) (u0:(FloatKind.f64.format.order b0 h0 == some Ordering.gt)=g0)
  (o1:(FloatKind.f64.format.order a1 l1 == some Ordering.lt)=p1) (u1:(FloatKind.f64.format.order b1 h1 == some Ordering.gt)=g1)
  : Calls Tryz.prog 201 #[.slice (some ⟨q,0,none⟩) 2 2] w fun r w'=>r = .returned (.int .i64 (if (R0&&R1)=true then (if (p0 || g0 || p1 || g1)=true then 2 else 0) else 20))∧Below w.heap.size w w':=by
 have M:Hid (Mem w [(q,#[a0,b0,l0,h0,a1,b1,l1,h1])] w):=Hd ⟨Below.refl _ _,fun p hp=>by obtain rfl:=List.mem_singleton.1 hp; exact hA⟩;clear hA;obtain⟨k0,k1,k2,k3,k4,k5,k6,k7⟩:=(M.o.nth 0 rfl).eight;go_enter Tryz.func201,Tryz.ntmps201;go_wp2_with fail;refine wp_loop_rounds 3 ?_;rw [rounds_succ];go_wp2_with fail;replace M:=Hd (M.o.made #[a0,b0,l0,h0] 190);refine (c0.out _).mono ?_;rintro r w0 ⟨rfl,hb⟩;replace M:=Hd (M.o.below hb);clear hb k0 k1 k2 k3 k4 k5 k6 k7 c0;obtain⟨k0,k1,k2,k3,k4,k5,k6,k7⟩:=(M.o.nth 1 rfl).eight
 cases R0
 ·go_wp2
  go_ret;exact ⟨rfl,M.o.base⟩
 ·go_wp2_with fail
  rw [rounds_succ];go_wp2_with fail;replace M:=Hd (M.o.made #[a1,b1,l1,h1] 190);refine (c1.out _).mono ?_;rintro r w1 ⟨rfl,hb⟩;replace M:=Hd (M.o.below hb);clear hb k0 k1 k2 k3 k4 k5 k6 k7 c1;obtain⟨k0,k1,k2,k3,k4,k5,k6,k7⟩:=(M.o.nth 2 rfl).eight
  cases R1
  ·go_wp2
   go_ret;exact ⟨rfl,M.o.base⟩
  ·go_wp2_with fail
   rw [rounds_succ];go_wp2_with fail;refine wp_loop_rounds 3 ?_;rw [rounds_succ];have M1:=Hd (M.o.made #[a0,b0,l0,h0] 190)
   cases p0
   rotate_left
   ·go_wp2
    go_ret;exact ⟨by simp,M1.out.base⟩
   cases g0
   rotate_left
   ·go_wp2
    go_ret;exact ⟨by simp,M1.out.base⟩
   go_wp2_with fail;clear M k0 k1 k2 k3 k4 k5 k6 k7 o0 u0;have M:=M1;clear M1;obtain⟨k0,k1,k2,k3,k4,k5,k6,k7⟩:=(M.o.nth 3 rfl).eight;rw [rounds_succ];have M1:=Hd (M.o.made #[a1,b1,l1,h1] 190)
   cases p1
   rotate_left
   ·go_wp2
    go_ret;exact ⟨by simp,M1.out.base⟩
   cases g1
   rotate_left
   ·go_wp2
    go_ret;exact ⟨by simp,M1.out.base⟩
   go_wp2_with fail;clear M k0 k1 k2 k3 k4 k5 k6 k7 o1 u1;have M:=M1;clear M1;obtain⟨k0,k1,k2,k3,k4,k5,k6,k7⟩:=(M.o.nth 4 rfl).eight;rw [rounds_succ];go_wp2;go_ret;exact ⟨rfl,M.o.base⟩
theorem check3_walk (q a0 b0 l0 h0 a1 b1 l1 h1 a2 b2 l2 h2:Nat) (R0 R1 R2 p0 g0 p1 g1 p2 g2:Bool) (w:World) (hA:Has1 w (q,#[a0,b0,l0,h0,a1,b1,l1,h1,a2,b2,l2,h2]))
  (c0:CH 46 #[.agg #[a0,b0]] (.bool R0))
  (c1:CH 46 #[.agg #[a1,b1]] (.bool R1))
  (c2:CH 46 #[.agg #[a2,b2]] (.bool R2))
  (o0:(FloatKind.f64.format.order a0 l0 == some Ordering.lt)=p0) (u0:(FloatKind.f64.format.order b0 h0 == some Ordering.gt)=g0)
  (o1:(FloatKind.f64.format.order a1 l1 == some Ordering.lt)=p1) (u1:(FloatKind.f64.format.order b1 h1 == some Ordering.gt)=g1)
  (o2:(FloatKind.f64.format.order a2 l2 == some Ordering.lt)=p2) (u2:(FloatKind.f64.format.order b2 h2 == some Ordering.gt)=g2)
  : Calls Tryz.prog 201 #[.slice (some ⟨q,0,none⟩) 3 3] w fun r w'=>r = .returned (.int .i64 (if (R0&&R1&&R2)=true then (if (p0 || g0 || p1 || g1 || p2 || g2)=true then 2 else 0) else 20))∧Below w.heap.size w w':=by
 have M:Hid (Mem w [(q,#[a0,b0,l0,h0,a1,b1,l1,h1,a2,b2,l2,h2])] w):=Hd ⟨Below.refl _ _,fun p hp=>by obtain rfl:=List.mem_singleton.1 hp; exact hA⟩;clear hA;obtain⟨k0,k1,k2,k3,k4,k5,k6,k7,k8,k9,k10,k11⟩:=(M.o.nth 0 rfl).twelve;go_enter Tryz.func201,Tryz.ntmps201;go_wp2_with fail;refine wp_loop_rounds 4 ?_;rw [rounds_succ];go_wp2_with fail;replace M:=Hd (M.o.made #[a0,b0,l0,h0] 190);refine (c0.out _).mono ?_;rintro r w0 ⟨rfl,hb⟩;replace M:=Hd (M.o.below hb);clear hb k0 k1 k2 k3 k4 k5 k6 k7 k8 k9 k10 k11 c0;obtain⟨k0,k1,k2,k3,k4,k5,k6,k7,k8,k9,k10,k11⟩:=(M.o.nth 1 rfl).twelve
 cases R0
 ·go_wp2
  go_ret;exact ⟨rfl,M.o.base⟩
 ·go_wp2_with fail
  rw [rounds_succ];go_wp2_with fail;replace M:=Hd (M.o.made #[a1,b1,l1,h1] 190);refine (c1.out _).mono ?_;rintro r w1 ⟨rfl,hb⟩;replace M:=Hd (M.o.below hb);clear hb k0 k1 k2 k3 k4 k5 k6 k7 k8 k9 k10 k11 c1;obtain⟨k0,k1,k2,k3,k4,k5,k6,k7,k8,k9,k10,k11⟩:=(M.o.nth 2 rfl).twelve
  cases R1
  ·go_wp2
   go_ret;exact ⟨rfl,M.o.base⟩
  ·go_wp2_with fail
   rw [rounds_succ];go_wp2_with fail;replace M:=Hd (M.o.made #[a2,b2,l2,h2] 190);refine (c2.out _).mono ?_;rintro r w2 ⟨rfl,hb⟩;replace M:=Hd (M.o.below hb);clear hb k0 k1 k2 k3 k4 k5 k6 k7 k8 k9 k10 k11 c2;obtain⟨k0,k1,k2,k3,k4,k5,k6,k7,k8,k9,k10,k11⟩:=(M.o.nth 3 rfl).twelve
   cases R2
   ·go_wp2
    go_ret;exact ⟨rfl,M.o.base⟩
   ·go_wp2_with fail
    rw [rounds_succ];go_wp2_with fail;refine wp_loop_rounds 4 ?_;rw [rounds_succ];have M1:=Hd (M.o.made #[a0,b0,l0,h0] 190)
    cases p0
    rotate_left
    ·go_wp2
     go_ret;exact ⟨by simp,M1.out.base⟩
    cases g0
    rotate_left
    ·go_wp2
     go_ret;exact ⟨by simp,M1.out.base⟩
    go_wp2_with fail;clear M k0 k1 k2 k3 k4 k5 k6 k7 k8 k9 k10 k11 o0 u0;have M:=M1;clear M1;obtain⟨k0,k1,k2,k3,k4,k5,k6,k7,k8,k9,k10,k11⟩:=(M.o.nth 4 rfl).twelve;rw [rounds_succ];have M1:=Hd (M.o.made #[a1,b1,l1,h1] 190)
    cases p1
    rotate_left
    ·go_wp2
     go_ret;exact ⟨by simp,M1.out.base⟩
    cases g1
    rotate_left
    ·go_wp2
     go_ret;exact ⟨by simp,M1.out.base⟩
    go_wp2_with fail;clear M k0 k1 k2 k3 k4 k5 k6 k7 k8 k9 k10 k11 o1 u1;have M:=M1;clear M1;obtain⟨k0,k1,k2,k3,k4,k5,k6,k7,k8,k9,k10,k11⟩:=(M.o.nth 5 rfl).twelve;rw [rounds_succ];have M1:=Hd (M.o.made #[a2,b2,l2,h2] 190)
    cases p2
    rotate_left
    ·go_wp2
     go_ret;exact ⟨by simp,M1.out.base⟩
    cases g2
    rotate_left
    ·go_wp2
     go_ret;exact ⟨by simp,M1.out.base⟩
    go_wp2_with fail;clear M k0 k1 k2 k3 k4 k5 k6 k7 k8 k9 k10 k11 o2 u2;have M:=M1;clear M1;obtain⟨k0,k1,k2,k3,k4,k5,k6,k7,k8,k9,k10,k11⟩:=(M.o.nth 6 rfl).twelve;rw [rounds_succ];go_wp2;go_ret;exact ⟨rfl,M.o.base⟩
end
section
open Go.RowKit
def sqrtR (a:Res):Res:=sqrtI a.lo a.hi
def stA (e:Int) (a b:Res):Res:=stepI e (ivR a.lo a.hi&&ivR b.lo b.hi) (addR a b)
def stS (e:Int) (a b:Res):Res:=stepI e (ivR a.lo a.hi&&ivR b.lo b.hi) (subR a b)
def stM (e:Int) (a b:Res):Res:=stepI e (ivR a.lo a.hi&&ivR b.lo b.hi) (mulR a b)
def stQ (e:Int) (a:Res):Res:=stepI e (ivR a.lo a.hi) (sqrR a)
def stR (e:Int) (a:Res):Res:=stepI e (ivR a.lo a.hi) (sqrtR a)
structure V3 where
 x:Res
 y:Res
 z:Res
def bothV (f:Int→Res→Res→Res) (e:Int) (a b:V3):V3:=⟨f e a.x b.x,f (f e a.x b.x).e a.y b.y,f (f (f e a.x b.x).e a.y b.y).e a.z b.z⟩
def addV:=bothV stA
def dot1 (e:Int) (a b:V3):Res:=stM e a.x b.x
def dot2 (e:Int) (a b:V3):Res:=stM (dot1 e a b).e a.y b.y
def dot3 (e:Int) (a b:V3):Res:=stA (dot2 e a b).e (dot1 e a b) (dot2 e a b)
def dot4 (e:Int) (a b:V3):Res:=stM (dot3 e a b).e a.z b.z
def dotV (e:Int) (a b:V3):Res:=stA (dot4 e a b).e (dot3 e a b) (dot4 e a b)
def nrm1 (e:Int) (a:V3):Res:=stQ e a.x
def nrm2 (e:Int) (a:V3):Res:=stQ (nrm1 e a).e a.y
def nrm3 (e:Int) (a:V3):Res:=stA (nrm2 e a).e (nrm1 e a) (nrm2 e a)
def nrm4 (e:Int) (a:V3):Res:=stQ (nrm3 e a).e a.z
def nrm5 (e:Int) (a:V3):Res:=stA (nrm4 e a).e (nrm3 e a) (nrm4 e a)
def normV (e:Int) (a:V3):Res:=stR (nrm5 e a).e (nrm5 e a)
theorem st_none {e:Int} {ok:Bool} {r:Res} (h:(stepI e ok r).e=0):e=0∧ok=true∧stepI e ok r=r:=by
 unfold stepI at h ⊢
 by_cases he:e=0
 ·rw [if_pos he] at h ⊢
  cases ok
  ·rw [if_neg Bool.false_ne_true] at h; exact absurd h (by decide)
  ·exact ⟨he,rfl,if_pos rfl⟩
 ·rw [if_neg he] at h; exact absurd h he
theorem st2_in {j:Nat} (hj:j < 10) {e e':Int} {a A b B:Res} (h:(stepI e (ivR A.lo A.hi&&ivR B.lo B.hi) (askI A.lo A.hi B.lo B.hi j)).e=0) (he:e'=0) (ia:In a A) (fA:Fit A) (ib:In b B) (fB:Fit B) :
  Fit (stepI e (ivR A.lo A.hi&&ivR B.lo B.hi) (askI A.lo A.hi B.lo B.hi j))∧In (stepI e' (ivR a.lo a.hi&&ivR b.lo b.hi) (askI a.lo a.hi b.lo b.hi j)) (stepI e (ivR A.lo A.hi&&ivR B.lo B.hi) (askI A.lo A.hi B.lo B.hi j)):=by
 obtain⟨_,_,h3⟩:=st_none h;rw [h3] at h ⊢;rw [he,ia.fit.iv,ib.fit.iv,show (true&&true)=true from rfl,stepI_ok];exact ⟨ask_fit A B j hj fA fB h,ask_in a A b B j hj ia fA ib fB h⟩
theorem st1_in {j:Nat} (hj:j < 10) {e e':Int} {a A:Res} (h:(stepI e (ivR A.lo A.hi) (askI A.lo A.hi A.lo A.hi j)).e=0) (he:e'=0) (ia:In a A) (fA:Fit A) :
  Fit (stepI e (ivR A.lo A.hi) (askI A.lo A.hi A.lo A.hi j))∧In (stepI e' (ivR a.lo a.hi) (askI a.lo a.hi a.lo a.hi j)) (stepI e (ivR A.lo A.hi) (askI A.lo A.hi A.lo A.hi j)):=by
 obtain⟨_,_,h3⟩:=st_none h;rw [h3] at h ⊢;rw [he,ia.fit.iv,stepI_ok];exact ⟨ask_fit A A j hj fA fA h,ask_in a A a A j hj ia fA ia fA h⟩
theorem stA_in {e e':Int} {a A b B:Res} (h:(stA e A B).e=0) (he:e'=0) (ia:In a A) (fA:Fit A) (ib:In b B) (fB:Fit B):Fit (stA e A B)∧In (stA e' a b) (stA e A B):=st2_in (j:=0) (by decide) h he ia fA ib fB
theorem stQ_in {e e':Int} {a A:Res} (h:(stQ e A).e=0) (he:e'=0) (ia:In a A) (fA:Fit A):Fit (stQ e A)∧In (stQ e' a) (stQ e A):=st1_in (j:=6) (by decide) h he ia fA
theorem stR_in {e e':Int} {a A:Res} (h:(stR e A).e=0) (he:e'=0) (ia:In a A) (fA:Fit A):Fit (stR e A)∧In (stR e' a) (stR e A):=st1_in (j:=7) (by decide) h he ia fA
theorem stA_e {e:Int} {a b:Res} (h:(stA e a b).e=0):e=0:=(st_none h).1
theorem stQ_e {e:Int} {a:Res} (h:(stQ e a).e=0):e=0:=(st_none h).1
theorem stR_e {e:Int} {a:Res} (h:(stR e a).e=0):e=0:=(st_none h).1
structure FitV (a:V3):Prop where
 x:Fit a.x
 y:Fit a.y
 z:Fit a.z
structure InV (a b:V3):Prop where
 x:In a.x b.x
 y:In a.y b.y
 z:In a.z b.z
section
variable {e e':Int} {a A b B:V3} {k K:Res}
theorem normV_in (h:(normV e A).e=0) (he:e'=0) (ia:InV a A) (fA:FitV A):Fit (normV e A)∧In (normV e' a) (normV e A):=by
 have h5:=stR_e h;have h4:=stA_e h5;have h3:=stQ_e h4;have h2:=stA_e h3;have h1:=stQ_e h2;obtain⟨f1,i1⟩:=stQ_in h1 he ia.x fA.x;obtain⟨f2,i2⟩:=stQ_in h2 i1.fit.e ia.y fA.y;obtain⟨f3,i3⟩:=stA_in h3 i2.fit.e i1 f1 i2 f2;obtain⟨f4,i4⟩:=stQ_in h4 i3.fit.e ia.z fA.z;obtain⟨f5,i5⟩:=stA_in h5 i4.fit.e i3 f3 i4 f4;exact stR_in h i5.fit.e i5 f5
end
end
section
open Go.RowKit
def clampR (a:Res):Res:=⟨a.e,clampW a.lo,clampW a.hi⟩
def maxR (a b:Res):Res:=maxI a.lo a.hi b.lo b.hi
theorem sqrt_in {a A:Res} (ha:In a A) (fA:Fit A) (he:(sqrtR A).e=0):In (sqrtR a) (sqrtR A):=ask_in a A a A 7 (by decide) ha fA ha fA he
theorem max_in {a A b B:Res} (ha:In a A) (fA:Fit A) (hb:In b B) (fB:Fit B) (he:(maxR A B).e=0):In (maxR a b) (maxR A B):=ask_in a A b B 5 (by decide) ha fA hb fB he
theorem clamp_fit {a:Res} (h:Fit a):Fit (clampR a):=by
 obtain⟨l1,l2,l3⟩:=clamp_facts h.lo h.rlo;obtain⟨m1,m2,m3⟩:=clamp_facts h.hi h.rhi;have hle:=h.le;refine ⟨h.e,l1,m1,?_⟩
 show ivR (clampW a.lo) (clampW a.hi)=true
 unfold ivR leB
 rw [l2,m2,decide_eq_true (show val (clampW a.lo)≤val (clampW a.hi) by rw [l3,m3]; omega)]; rfl
theorem clamp_in {a A:Res} (h:In a A) (fA:Fit A):In (clampR a) (clampR A):=by
 refine ⟨clamp_fit h.fit,?_,?_⟩
 ·show val (clampW A.lo)≤val (clampW a.lo)
  rw [(clamp_facts h.fit.lo h.fit.rlo).2.2,(clamp_facts fA.lo fA.rlo).2.2];have:=h.lo;omega
 ·show val (clampW a.hi)≤val (clampW A.hi)
  rw [(clamp_facts h.fit.hi h.fit.rhi).2.2,(clamp_facts fA.hi fA.rhi).2.2];have:=h.hi;omega
def unitR:Res:=⟨0,0,u1⟩
def allR:Res:=⟨0,9218868437227405311+9223372036854775808,9218868437227405311⟩
theorem unit_fit:Fit unitR:=.of (by decide +kernel)
theorem all_fit:Fit allR:=.of (by decide +kernel)
theorem clamp_unit {a:Res} (h:Fit a):In (clampR a) unitR:=by
 refine ⟨clamp_fit h,?_,?_⟩
 ·show val 0≤val (clampW a.lo)
  rw [(clamp_facts h.lo h.rlo).2.2,show val 0=0 from by decide +kernel]
  have:(0:Int)≤val u1:=by decide +kernel
  omega
 ·show val (clampW a.hi)≤val u1
  rw [(clamp_facts h.hi h.rhi).2.2];omega
theorem all_num (x:Nat) (_lx:x < 18446744073709551616) (rx:rightB x=true):val allR.lo≤val x∧val x≤val allR.hi:=by
 have r:=rung_max rx;have s:=steps_le r;have e1:val allR.hi=(steps 9218868437227405311:Int):=val_pos (by decide);have e2:val allR.lo=-(steps 9218868437227405311:Int):=val_negs (by decide);rw [e1,e2];generalize steps 9218868437227405311=S at s
 cases hs:sgnB x
 ·rw [val_pos hs]; omega
 ·rw [val_negs hs]; omega
theorem all_in {a:Res} (h:Fit a):In a allR:=by
 have num:∀ x,x < 18446744073709551616→rightB x=true→val allR.lo≤val x∧val x≤val allR.hi:=fun x lx rx=>all_num x lx rx
 exact ⟨h,(num _ h.lo h.rlo).1,(num _ h.hi h.rhi).2⟩
def bigC:Res:=⟨0,0,4607182418800017408⟩
def bigN:Res:=⟨0,4607463893776728064,4616189618054758400⟩
def bigM:Res:=⟨0,4589168020290535424,4625196817309499392⟩
def Di.s2 (_c n:Res):Res:=sqrR (n)
def Di.s3 (c n:Res):Res:=subR (Di.s2 c n) (oneR 4607182418800017408)
def Di.s4 (c _n:Res):Res:=sqrR (c)
def Di.s5 (c n:Res):Res:=addR (Di.s3 c n) (Di.s4 c n)
def Di.g (c n:Res):Res:=sqrtR (Di.s5 c n)
def Di.more (c n:Res):Res:=addR (Di.g c n) (c)
def Di.less (c n:Res):Res:=subR (Di.g c n) (c)
def Di.pq (c n:Res):Res:=divR (Di.less c n) (Di.more c n)
def Di.p (c n:Res):Res:=sqrR (Di.pq c n)
def Di.m11 (c n:Res):Res:=mulR (c) (Di.more c n)
def Di.over (c n:Res):Res:=subR (Di.m11 c n) (oneR 4607182418800017408)
def Di.m13 (c n:Res):Res:=mulR (c) (Di.less c n)
def Di.under (c n:Res):Res:=addR (Di.m13 c n) (oneR 4607182418800017408)
def Di.qq (c n:Res):Res:=divR (Di.over c n) (Di.under c n)
def Di.q (c n:Res):Res:=sqrR (Di.qq c n)
def Di.hp (c n:Res):Res:=mulR (oneR 4602678819172646912) (Di.p c n)
def Di.oq (c n:Res):Res:=addR (oneR 4607182418800017408) (Di.q c n)
def Di.f (c n:Res):Res:=mulR (Di.hp c n) (Di.oq c n)
def Di.out (c n:Res):Res:=clampR (Di.f c n)
structure Di.Fits (c n:Res):Prop where
 fc:Fit c
 fn:Fit n
 s2':Fit (Di.s2 c n)
 s3':Fit (Di.s3 c n)
 s4':Fit (Di.s4 c n)
 s5':Fit (Di.s5 c n)
 g':Fit (Di.g c n)
 more':Fit (Di.more c n)
 less':Fit (Di.less c n)
 pq':Fit (Di.pq c n)
 p':Fit (Di.p c n)
 m11':Fit (Di.m11 c n)
 over':Fit (Di.over c n)
 m13':Fit (Di.m13 c n)
 under':Fit (Di.under c n)
 qq':Fit (Di.qq c n)
 q':Fit (Di.q c n)
 hp':Fit (Di.hp c n)
 oq':Fit (Di.oq c n)
 f':Fit (Di.f c n)
 out':Fit (Di.out c n)
structure Di.Parts (c n C N:Res):Prop where
 s2':In (Di.s2 c n) (Di.s2 C N)
 s3':In (Di.s3 c n) (Di.s3 C N)
 s4':In (Di.s4 c n) (Di.s4 C N)
 s5':In (Di.s5 c n) (Di.s5 C N)
 g':In (Di.g c n) (Di.g C N)
 more':In (Di.more c n) (Di.more C N)
 less':In (Di.less c n) (Di.less C N)
 pq':In (Di.pq c n) (Di.pq C N)
 p':In (Di.p c n) (Di.p C N)
 m11':In (Di.m11 c n) (Di.m11 C N)
 over':In (Di.over c n) (Di.over C N)
 m13':In (Di.m13 c n) (Di.m13 C N)
 under':In (Di.under c n) (Di.under C N)
 qq':In (Di.qq c n) (Di.qq C N)
 q':In (Di.q c n) (Di.q C N)
 hp':In (Di.hp c n) (Di.hp C N)
 oq':In (Di.oq c n) (Di.oq C N)
 f':In (Di.f c n) (Di.f C N)
 out':In (Di.out c n) (Di.out C N)
theorem Di.parts {c n C N:Res} (D:Di.Fits C N) (iic:In c C) (iin:In n N):Di.Parts c n C N:=by
 have j_s2:In (Di.s2 c n) (Di.s2 C N):=sqr_in iin D.fn D.s2'.e;have j_s3:In (Di.s3 c n) (Di.s3 C N):=sub_in j_s2 D.s2' (.refl (one_fit (by decide) (by decide):Fit (oneR 4607182418800017408))) (one_fit (by decide) (by decide):Fit (oneR 4607182418800017408)) D.s3'.e;have j_s4:In (Di.s4 c n) (Di.s4 C N):=sqr_in iic D.fc D.s4'.e;have j_s5:In (Di.s5 c n) (Di.s5 C N):=add_in j_s3 D.s3' j_s4 D.s4' D.s5'.e;have j_g:In (Di.g c n) (Di.g C N):=sqrt_in j_s5 D.s5' D.g'.e;have j_more:In (Di.more c n) (Di.more C N):=add_in j_g D.g' iic D.fc D.more'.e;have j_less:In (Di.less c n) (Di.less C N):=sub_in j_g D.g' iic D.fc D.less'.e;have j_pq:In (Di.pq c n) (Di.pq C N):=div_in j_less D.less' j_more D.more' D.pq'.e;have j_p:In (Di.p c n) (Di.p C N):=sqr_in j_pq D.pq' D.p'.e;have j_m11:In (Di.m11 c n) (Di.m11 C N):=mul_in iic D.fc j_more D.more' D.m11'.e;have j_over:In (Di.over c n) (Di.over C N):=sub_in j_m11 D.m11' (.refl (one_fit (by decide) (by decide):Fit (oneR 4607182418800017408))) (one_fit (by decide) (by decide):Fit (oneR 4607182418800017408)) D.over'.e
 have j_m13:In (Di.m13 c n) (Di.m13 C N):=mul_in iic D.fc j_less D.less' D.m13'.e;have j_under:In (Di.under c n) (Di.under C N):=add_in j_m13 D.m13' (.refl (one_fit (by decide) (by decide):Fit (oneR 4607182418800017408))) (one_fit (by decide) (by decide):Fit (oneR 4607182418800017408)) D.under'.e;have j_qq:In (Di.qq c n) (Di.qq C N):=div_in j_over D.over' j_under D.under' D.qq'.e;have j_q:In (Di.q c n) (Di.q C N):=sqr_in j_qq D.qq' D.q'.e;have j_hp:In (Di.hp c n) (Di.hp C N):=mul_in (.refl (one_fit (by decide) (by decide):Fit (oneR 4602678819172646912))) (one_fit (by decide) (by decide):Fit (oneR 4602678819172646912)) j_p D.p' D.hp'.e;have j_oq:In (Di.oq c n) (Di.oq C N):=add_in (.refl (one_fit (by decide) (by decide):Fit (oneR 4607182418800017408))) (one_fit (by decide) (by decide):Fit (oneR 4607182418800017408)) j_q D.q' D.oq'.e;have j_f:In (Di.f c n) (Di.f C N):=mul_in j_hp D.hp' j_oq D.oq' D.f'.e
 have j_out:In (Di.out c n) (Di.out C N):=clamp_in j_f D.f';exact ⟨j_s2,j_s3,j_s4,j_s5,j_g,j_more,j_less,j_pq,j_p,j_m11,j_over,j_m13,j_under,j_qq,j_q,j_hp,j_oq,j_f,j_out⟩
theorem Di.Parts.fits {c n C N:Res} (P:Di.Parts c n C N) (fc:Fit c) (fn:Fit n):Di.Fits c n:=⟨fc,fn,P.s2'.fit,P.s3'.fit,P.s4'.fit,P.s5'.fit,P.g'.fit,P.more'.fit,P.less'.fit,P.pq'.fit,P.p'.fit,P.m11'.fit,P.over'.fit,P.m13'.fit,P.under'.fit,P.qq'.fit,P.q'.fit,P.hp'.fit,P.oq'.fit,P.f'.fit,P.out'.fit⟩
theorem Di.big:Di.Fits bigC bigN:=⟨.of (by decide +kernel),.of (by decide +kernel),.of (by decide +kernel),.of (by decide +kernel),.of (by decide +kernel),.of (by decide +kernel),.of (by decide +kernel),.of (by decide +kernel),.of (by decide +kernel),.of (by decide +kernel),.of (by decide +kernel),.of (by decide +kernel),.of (by decide +kernel),.of (by decide +kernel),.of (by decide +kernel),.of (by decide +kernel),.of (by decide +kernel),.of (by decide +kernel),.of (by decide +kernel),.of (by decide +kernel),.of (by decide +kernel)⟩
def Co.c2 (c _h _k:Res):Res:=sqrR (c)
def Co.s3 (c h k:Res):Res:=subR (oneR 4607182418800017408) (Co.c2 c h k)
def Co.s2 (c h k:Res):Res:=clampR (Co.s3 c h k)
def Co.e2 (_c h _k:Res):Res:=sqrR (h)
def Co.k2 (_c _h k:Res):Res:=sqrR (k)
def Co.ek (c h k:Res):Res:=mulR (Co.e2 c h k) (Co.k2 c h k)
def Co.t11 (c h k:Res):Res:=subR (Co.e2 c h k) (Co.k2 c h k)
def Co.t0 (c h k:Res):Res:=subR (Co.t11 c h k) (Co.s2 c h k)
def Co.q13 (c h k:Res):Res:=sqrR (Co.t0 c h k)
def Co.m15 (c h k:Res):Res:=mulR (oneR 4616189618054758400) (Co.ek c h k)
def Co.a16 (c h k:Res):Res:=addR (Co.q13 c h k) (Co.m15 c h k)
def Co.ab (c h k:Res):Res:=sqrtR (Co.a16 c h k)
def Co.a18 (c h k:Res):Res:=addR (Co.ab c h k) (Co.t0 c h k)
def Co.x20 (c h k:Res):Res:=maxR (Co.a18 c h k) (oneR 0)
def Co.m21 (c h k:Res):Res:=mulR (oneR 4602678819172646912) (Co.x20 c h k)
def Co.a (c h k:Res):Res:=sqrtR (Co.m21 c h k)
def Co.t1 (c h k:Res):Res:=addR (Co.ab c h k) (Co.c2 c h k)
def Co.m25 (c h k:Res):Res:=mulR (oneR 4611686018427387904) (Co.a c h k)
def Co.t2 (c h k:Res):Res:=mulR (Co.m25 c h k) (c)
def Co.n27 (c h k:Res):Res:=subR (Co.t1 c h k) (Co.t2 c h k)
def Co.d27 (c h k:Res):Res:=addR (Co.t1 c h k) (Co.t2 c h k)
def Co.r27 (c h k:Res):Res:=divR (Co.n27 c h k) (Co.d27 c h k)
def Co.rs (c h k:Res):Res:=clampR (Co.r27 c h k)
def Co.m29 (c h k:Res):Res:=mulR (Co.c2 c h k) (Co.ab c h k)
def Co.q30 (c h k:Res):Res:=sqrR (Co.s2 c h k)
def Co.t3 (c h k:Res):Res:=addR (Co.m29 c h k) (Co.q30 c h k)
def Co.t4 (c h k:Res):Res:=mulR (Co.t2 c h k) (Co.s2 c h k)
def Co.n33 (c h k:Res):Res:=subR (Co.t3 c h k) (Co.t4 c h k)
def Co.d33 (c h k:Res):Res:=addR (Co.t3 c h k) (Co.t4 c h k)
structure Co.Fits (c h k:Res):Prop where
 fc:Fit c
 fh:Fit h
 fk:Fit k
 c2':Fit (Co.c2 c h k)
 s3':Fit (Co.s3 c h k)
 s2':Fit (Co.s2 c h k)
 e2':Fit (Co.e2 c h k)
 k2':Fit (Co.k2 c h k)
 ek':Fit (Co.ek c h k)
 t11':Fit (Co.t11 c h k)
 t0':Fit (Co.t0 c h k)
 q13':Fit (Co.q13 c h k)
 m15':Fit (Co.m15 c h k)
 a16':Fit (Co.a16 c h k)
 ab':Fit (Co.ab c h k)
 a18':Fit (Co.a18 c h k)
 x20':Fit (Co.x20 c h k)
 m21':Fit (Co.m21 c h k)
 a':Fit (Co.a c h k)
 t1':Fit (Co.t1 c h k)
 m25':Fit (Co.m25 c h k)
 t2':Fit (Co.t2 c h k)
 n27':Fit (Co.n27 c h k)
 d27':Fit (Co.d27 c h k)
 r27':Fit (Co.r27 c h k)
 rs':Fit (Co.rs c h k)
 m29':Fit (Co.m29 c h k)
 q30':Fit (Co.q30 c h k)
 t3':Fit (Co.t3 c h k)
 t4':Fit (Co.t4 c h k)
 n33':Fit (Co.n33 c h k)
 d33':Fit (Co.d33 c h k)
structure Co.Parts (c h k C H K:Res):Prop where
 c2':In (Co.c2 c h k) (Co.c2 C H K)
 s3':In (Co.s3 c h k) (Co.s3 C H K)
 s2':In (Co.s2 c h k) (Co.s2 C H K)
 e2':In (Co.e2 c h k) (Co.e2 C H K)
 k2':In (Co.k2 c h k) (Co.k2 C H K)
 ek':In (Co.ek c h k) (Co.ek C H K)
 t11':In (Co.t11 c h k) (Co.t11 C H K)
 t0':In (Co.t0 c h k) (Co.t0 C H K)
 q13':In (Co.q13 c h k) (Co.q13 C H K)
 m15':In (Co.m15 c h k) (Co.m15 C H K)
 a16':In (Co.a16 c h k) (Co.a16 C H K)
 ab':In (Co.ab c h k) (Co.ab C H K)
 a18':In (Co.a18 c h k) (Co.a18 C H K)
 x20':In (Co.x20 c h k) (Co.x20 C H K)
 m21':In (Co.m21 c h k) (Co.m21 C H K)
 a':In (Co.a c h k) (Co.a C H K)
 t1':In (Co.t1 c h k) (Co.t1 C H K)
 m25':In (Co.m25 c h k) (Co.m25 C H K)
 t2':In (Co.t2 c h k) (Co.t2 C H K)
 n27':In (Co.n27 c h k) (Co.n27 C H K)
 d27':In (Co.d27 c h k) (Co.d27 C H K)
 r27':In (Co.r27 c h k) (Co.r27 C H K)
 rs':In (Co.rs c h k) (Co.rs C H K)
 m29':In (Co.m29 c h k) (Co.m29 C H K)
 q30':In (Co.q30 c h k) (Co.q30 C H K)
 t3':In (Co.t3 c h k) (Co.t3 C H K)
 t4':In (Co.t4 c h k) (Co.t4 C H K)
 n33':In (Co.n33 c h k) (Co.n33 C H K)
 d33':In (Co.d33 c h k) (Co.d33 C H K)
theorem Co.parts {c h k C H K:Res} (D:Co.Fits C H K) (iic:In c C) (iih:In h H) (iik:In k K):Co.Parts c h k C H K:=by
 have j_c2:In (Co.c2 c h k) (Co.c2 C H K):=sqr_in iic D.fc D.c2'.e;have j_s3:In (Co.s3 c h k) (Co.s3 C H K):=sub_in (.refl (one_fit (by decide) (by decide):Fit (oneR 4607182418800017408))) (one_fit (by decide) (by decide):Fit (oneR 4607182418800017408)) j_c2 D.c2' D.s3'.e;have j_s2:In (Co.s2 c h k) (Co.s2 C H K):=clamp_in j_s3 D.s3';have j_e2:In (Co.e2 c h k) (Co.e2 C H K):=sqr_in iih D.fh D.e2'.e;have j_k2:In (Co.k2 c h k) (Co.k2 C H K):=sqr_in iik D.fk D.k2'.e;have j_ek:In (Co.ek c h k) (Co.ek C H K):=mul_in j_e2 D.e2' j_k2 D.k2' D.ek'.e;have j_t11:In (Co.t11 c h k) (Co.t11 C H K):=sub_in j_e2 D.e2' j_k2 D.k2' D.t11'.e;have j_t0:In (Co.t0 c h k) (Co.t0 C H K):=sub_in j_t11 D.t11' j_s2 D.s2' D.t0'.e;have j_q13:In (Co.q13 c h k) (Co.q13 C H K):=sqr_in j_t0 D.t0' D.q13'.e;have j_m15:In (Co.m15 c h k) (Co.m15 C H K):=mul_in (.refl (one_fit (by decide) (by decide):Fit (oneR 4616189618054758400))) (one_fit (by decide) (by decide):Fit (oneR 4616189618054758400)) j_ek D.ek' D.m15'.e
 have j_a16:In (Co.a16 c h k) (Co.a16 C H K):=add_in j_q13 D.q13' j_m15 D.m15' D.a16'.e;have j_ab:In (Co.ab c h k) (Co.ab C H K):=sqrt_in j_a16 D.a16' D.ab'.e;have j_a18:In (Co.a18 c h k) (Co.a18 C H K):=add_in j_ab D.ab' j_t0 D.t0' D.a18'.e;have j_x20:In (Co.x20 c h k) (Co.x20 C H K):=max_in j_a18 D.a18' (.refl (one_fit (by decide) (by decide):Fit (oneR 0))) (one_fit (by decide) (by decide):Fit (oneR 0)) D.x20'.e;have j_m21:In (Co.m21 c h k) (Co.m21 C H K):=mul_in (.refl (one_fit (by decide) (by decide):Fit (oneR 4602678819172646912))) (one_fit (by decide) (by decide):Fit (oneR 4602678819172646912)) j_x20 D.x20' D.m21'.e;have j_a:In (Co.a c h k) (Co.a C H K):=sqrt_in j_m21 D.m21' D.a'.e;have j_t1:In (Co.t1 c h k) (Co.t1 C H K):=add_in j_ab D.ab' j_c2 D.c2' D.t1'.e;have j_m25:In (Co.m25 c h k) (Co.m25 C H K):=mul_in (.refl (one_fit (by decide) (by decide):Fit (oneR 4611686018427387904))) (one_fit (by decide) (by decide):Fit (oneR 4611686018427387904)) j_a D.a' D.m25'.e
 have j_t2:In (Co.t2 c h k) (Co.t2 C H K):=mul_in j_m25 D.m25' iic D.fc D.t2'.e;have j_n27:In (Co.n27 c h k) (Co.n27 C H K):=sub_in j_t1 D.t1' j_t2 D.t2' D.n27'.e;have j_d27:In (Co.d27 c h k) (Co.d27 C H K):=add_in j_t1 D.t1' j_t2 D.t2' D.d27'.e;have j_r27:In (Co.r27 c h k) (Co.r27 C H K):=div_in j_n27 D.n27' j_d27 D.d27' D.r27'.e;have j_rs:In (Co.rs c h k) (Co.rs C H K):=clamp_in j_r27 D.r27';have j_m29:In (Co.m29 c h k) (Co.m29 C H K):=mul_in j_c2 D.c2' j_ab D.ab' D.m29'.e;have j_q30:In (Co.q30 c h k) (Co.q30 C H K):=sqr_in j_s2 D.s2' D.q30'.e;have j_t3:In (Co.t3 c h k) (Co.t3 C H K):=add_in j_m29 D.m29' j_q30 D.q30' D.t3'.e;have j_t4:In (Co.t4 c h k) (Co.t4 C H K):=mul_in j_t2 D.t2' j_s2 D.s2' D.t4'.e;have j_n33:In (Co.n33 c h k) (Co.n33 C H K):=sub_in j_t3 D.t3' j_t4 D.t4' D.n33'.e;have j_d33:In (Co.d33 c h k) (Co.d33 C H K):=add_in j_t3 D.t3' j_t4 D.t4' D.d33'.e;exact ⟨j_c2,j_s3,j_s2,j_e2,j_k2,j_ek,j_t11,j_t0,j_q13,j_m15,j_a16,j_ab,j_a18,j_x20,j_m21,j_a,j_t1,j_m25,j_t2,j_n27,j_d27,j_r27,j_rs,j_m29,j_q30,j_t3,j_t4,j_n33,j_d33⟩
theorem Co.Parts.fits {c h k C H K:Res} (P:Co.Parts c h k C H K) (fc:Fit c) (fh:Fit h) (fk:Fit k):Co.Fits c h k:=⟨fc,fh,fk,P.c2'.fit,P.s3'.fit,P.s2'.fit,P.e2'.fit,P.k2'.fit,P.ek'.fit,P.t11'.fit,P.t0'.fit,P.q13'.fit,P.m15'.fit,P.a16'.fit,P.ab'.fit,P.a18'.fit,P.x20'.fit,P.m21'.fit,P.a'.fit,P.t1'.fit,P.m25'.fit,P.t2'.fit,P.n27'.fit,P.d27'.fit,P.r27'.fit,P.rs'.fit,P.m29'.fit,P.q30'.fit,P.t3'.fit,P.t4'.fit,P.n33'.fit,P.d33'.fit⟩
theorem Co.big:Co.Fits bigC bigM bigM:=⟨.of (by decide +kernel),.of (by decide +kernel),.of (by decide +kernel),.of (by decide +kernel),.of (by decide +kernel),.of (by decide +kernel),.of (by decide +kernel),.of (by decide +kernel),.of (by decide +kernel),.of (by decide +kernel),.of (by decide +kernel),.of (by decide +kernel),.of (by decide +kernel),.of (by decide +kernel),.of (by decide +kernel),.of (by decide +kernel),.of (by decide +kernel),.of (by decide +kernel),.of (by decide +kernel),.of (by decide +kernel),.of (by decide +kernel),.of (by decide +kernel),.of (by decide +kernel),.of (by decide +kernel),.of (by decide +kernel),.of (by decide +kernel),.of (by decide +kernel),.of (by decide +kernel),.of (by decide +kernel),.of (by decide +kernel),.of (by decide +kernel),.of (by decide +kernel)⟩
def Co.r33 (c h k:Res):Res:=divR (Co.n33 c h k) (Co.d33 c h k)
def Co.m34 (c h k:Res):Res:=mulR (Co.rs c h k) (Co.r33 c h k)
def Co.rp (c h k:Res):Res:=clampR (Co.m34 c h k)
def Co.a36 (c h k:Res):Res:=addR (Co.rs c h k) (Co.rp c h k)
def Co.f (c h k:Res):Res:=mulR (oneR 4602678819172646912) (Co.a36 c h k)
structure Co.Last (c h k:Res):Prop where
 r33':Fit (Co.r33 c h k)
 m34':Fit (Co.m34 c h k)
 rp':Fit (Co.rp c h k)
 a36':Fit (Co.a36 c h k)
 f':Fit (Co.f c h k)
theorem Co.Fits.last {c h k:Res} (D:Co.Fits c h k) (he:(Co.r33 c h k).e=0):Co.Last c h k:=by
 have j1:Fit (Co.r33 c h k):=ask_fit (Co.n33 c h k) (Co.d33 c h k) 3 (by decide) D.n33' D.d33' he;have u:=clamp_unit D.r27';have j2:In (Co.m34 c h k) (mulR unitR allR):=mul_in u unit_fit (all_in j1) all_fit (by decide +kernel);have j3:In (Co.rp c h k) unitR:=clamp_unit j2.fit;have j4:In (Co.a36 c h k) (addR unitR unitR):=add_in u unit_fit j3 unit_fit (by decide +kernel);have j5:In (Co.f c h k) (mulR (oneR 4602678819172646912) (addR unitR unitR)):=mul_in (.refl (one_fit (by decide) (by decide))) (one_fit (by decide) (by decide)) j4 (.of (by decide +kernel)) (by decide +kernel);exact ⟨j1,j2.fit,j3.fit,j4.fit,j5.fit⟩
theorem Co.last_in {c h k C H K:Res} (D:Co.Fits C H K) (P:Co.Parts c h k C H K) (he:(Co.r33 C H K).e=0):(Co.r33 c h k).e=0∧In (Co.f c h k) (Co.f C H K):=by
 have L:=D.last he;have j1:In (Co.r33 c h k) (Co.r33 C H K):=div_in P.n33' D.n33' P.d33' D.d33' he;have j2:In (Co.m34 c h k) (Co.m34 C H K):=mul_in P.rs' D.rs' j1 L.r33' L.m34'.e;have j3:In (Co.rp c h k) (Co.rp C H K):=clamp_in j2 L.m34';have j4:In (Co.a36 c h k) (Co.a36 C H K):=add_in P.rs' D.rs' j3 L.rp' L.a36'.e;exact ⟨j1.fit.e,mul_in (.refl (one_fit (by decide) (by decide))) (one_fit (by decide) (by decide)) j4 L.a36' L.f'.e⟩
end
section
open Go.RowKit
attribute [local go_sem] run_store_float
structure EnvE (B:World) (pb:Nat) (e:Int) (l:List (Nat×Array Value)) (v:World):Prop where
 put:Put ⟨pb,0,none⟩ (.int .i64 e) B v
 cal:Has1 v (pb,#[.int .i64 e])
 blocks:∀ p,p∈l→Has1 v p∧pb≠p.1
theorem Has1.six {v:World} {b:Nat} {x0 x1 x2 x3 x4 x5:Value} (h:Has1 v (b,#[x0,x1,x2,x3,x4,x5])):v.cell? ⟨b,0,none⟩=some x0∧v.cell? ⟨b,1,none⟩=some x1∧v.cell? ⟨b,2,none⟩=some x2∧v.cell? ⟨b,3,none⟩=some x3∧v.cell? ⟨b,4,none⟩=some x4∧v.cell? ⟨b,5,none⟩=some x5:=⟨h.2.1 0,h.2.1 1,h.2.1 2,h.2.1 3,h.2.1 4,h.2.1 5⟩
theorem Has1.six6 {v:World} {q:Nat} {z0 z1 z2 z3 z4 z5:Value} (h:Has1 v (q,#[z0,z1,z2,z3,z4,z5])) (y0 y1 y2 y3 y4 y5:Value) :
  Has1 ((((((v.setCell ⟨q,0,none⟩ y0).setCell ⟨q,1,none⟩ y1).setCell ⟨q,2,none⟩ y2).setCell ⟨q,3,none⟩ y3).setCell ⟨q,4,none⟩ y4).setCell ⟨q,5,none⟩ y5) (q,#[y0,y1,y2,y3,y4,y5]):=
 (((((h.setIn 0 y0).setIn 1 y1).setIn 2 y2).setIn 3 y3).setIn 4 y4).setIn 5 y5
section
variable {B v v':World} {pb:Nat} {e e':Int} {l:List (Nat×Array Value)}
theorem EnvE.start (h:Has1 B (pb,#[.int .i64 e])):EnvE B pb e [] B:=⟨Put.of_below h.pc (Below.refl _ _),h,fun p hp=>by cases hp⟩
theorem EnvE.add (h:EnvE B pb e l v) {p:Nat×Array Value} (hp:Has1 v p) (hn:pb≠p.1):EnvE B pb e (p :: l) v:=
 ⟨h.put,h.cal,fun q hq=>by
  rcases List.mem_cons.1 hq with g | g
  ·rw [g]; exact ⟨hp,hn⟩
  ·exact h.blocks q g⟩
theorem EnvE.below (h:EnvE B pb e l v) (hb:Below v.heap.size v v'):EnvE B pb e l v':=⟨h.put.below hb,h.cal.below hb,fun p hp=>⟨(h.blocks p hp).1.below hb,(h.blocks p hp).2⟩⟩
theorem EnvE.putc (h:EnvE B pb e l v) (hp:Put ⟨pb,0,none⟩ (.int .i64 e') v v'):EnvE B pb e' l v':=⟨h.put.trans hp,h.cal.own hp,fun p hq=>⟨(h.blocks p hq).1.put (h.blocks p hq).2 hp,(h.blocks p hq).2⟩⟩
theorem EnvE.drew (h:EnvE B pb e l v):EnvE B pb e l v.drew:=⟨h.put.below (Below.refl _ _).drew,h.cal,h.blocks⟩
theorem EnvE.made (h:EnvE B pb e l v) (c:Array Value) (t:TypeId):EnvE B pb e ((v.heap.size,c) :: l) (v.alloc (.cells c t)):=
 (h.below (bel1 _ _)).add (Has1.made v c t) (Nat.ne_of_lt h.cal.1)
theorem EnvE.nth (h:EnvE B pb e l v) (i:Nat) {p:Nat×Array Value} (hp:l[i]? = some p):Has1 v p:=(h.blocks p (List.mem_of_getElem? hp)).1
theorem EnvE.ne (h:EnvE B pb e l v) (i:Nat) {p:Nat×Array Value} (hp:l[i]? = some p):pb≠p.1:=(h.blocks p (List.mem_of_getElem? hp)).2
theorem EnvE.set2 (h:EnvE B pb e l v) {q:Nat} {x y:Value} (hx:Has1 v (q,#[x,y])) (hn:pb≠q) (hB:B.heap.size≤q) (x' y':Value):EnvE B pb e [(q,#[x',y'])] ((v.setCell ⟨q,0,none⟩ x').setCell ⟨q,1,none⟩ y') where
 put:=by
  have hb:Below B.heap.size (B.setCell ⟨pb,0,none⟩ (.int .i64 e)) v:=h.put;exact (hb.setCell hB _).setCell hB _
 cal:=(h.cal.set (Ne.symm hn)).set (Ne.symm hn)
 blocks:=fun p hp=>by
  rw [List.mem_singleton] at hp
  rw [hp]; exact ⟨hx.set2 _ _,hn⟩
theorem EnvE.set6 (h:EnvE B pb e l v) {q:Nat} {z0 z1 z2 z3 z4 z5:Value} (hx:Has1 v (q,#[z0,z1,z2,z3,z4,z5])) (hn:pb≠q) (hB:B.heap.size≤q) (y0 y1 y2 y3 y4 y5:Value) :
  EnvE B pb e [(q,#[y0,y1,y2,y3,y4,y5])] ((((((v.setCell ⟨q,0,none⟩ y0).setCell ⟨q,1,none⟩ y1).setCell ⟨q,2,none⟩ y2).setCell ⟨q,3,none⟩ y3).setCell ⟨q,4,none⟩ y4).setCell ⟨q,5,none⟩ y5) where
 put:=by
  have hb:Below B.heap.size (B.setCell ⟨pb,0,none⟩ (.int .i64 e)) v:=h.put;exact (((((hb.setCell hB _).setCell hB _).setCell hB _).setCell hB _).setCell hB _).setCell hB _
 cal:=(((((h.cal.set (Ne.symm hn)).set (Ne.symm hn)).set (Ne.symm hn)).set (Ne.symm hn)).set (Ne.symm hn)).set (Ne.symm hn)
 blocks:=fun p hp=>by
  rw [List.mem_singleton] at hp
  rw [hp]; exact ⟨hx.six6 _ _ _ _ _ _,hn⟩
end
abbrev CE2 (f:FuncId) (pb:Nat) (e e':Int) (al ah bl bh rl rh:Nat):Prop:=∀ v:World,Has1 v (pb,#[.int .i64 e])→Calls Tryz.prog f #[.pointer (some ⟨pb,0,none⟩),.agg #[al,ah],.agg #[bl,bh]] v fun r w'=>r = .returned (.agg #[rl,rh])∧Put ⟨pb,0,none⟩ (.int .i64 e') v w'
abbrev CE1 (f:FuncId) (pb:Nat) (e e':Int) (al ah rl rh:Nat):Prop:=∀ v:World,Has1 v (pb,#[.int .i64 e])→Calls Tryz.prog f #[.pointer (some ⟨pb,0,none⟩),.agg #[al,ah]] v fun r w'=>r = .returned (.agg #[rl,rh])∧Put ⟨pb,0,none⟩ (.int .i64 e') v w'
structure Wd (a:Res):Prop where
 lo:a.lo < 18446744073709551616
 hi:a.hi < 18446744073709551616
theorem Fit.wd {a:Res} (h:Fit a):Wd a:=⟨h.lo,h.hi⟩
theorem told_e {R:Res} {pb:Nat} {w:World} {f:FuncId} {args:Array Value} (h:Calls Tryz.prog f args w (Told R pb 0 w)) :
  Calls Tryz.prog f args w fun r w'=>r = .returned (.agg #[R.lo,R.hi])∧Put ⟨pb,0,none⟩ (.int .i64 R.e) w w':=h.mono fun _ _ ⟨h1,h2⟩=>⟨h1,h2⟩
theorem ce_add (e:Int) {a b:Res} (ha:Wd a) (hb:Wd b) (pb:Nat):CE2 103 pb e (stA e a b).e a.lo a.hi b.lo b.hi (stA e a b).lo (stA e a b).hi:=fun v h=>told_e (cAdd_any e a.lo a.hi b.lo b.hi pb 0 v ha.lo ha.hi hb.lo hb.hi h.pc h.pf)
theorem ce_mul (e:Int) {a b:Res} (ha:Wd a) (hb:Wd b) (pb:Nat):CE2 32 pb e (stM e a b).e a.lo a.hi b.lo b.hi (stM e a b).lo (stM e a b).hi:=fun v h=>told_e (cMul_any e a.lo a.hi b.lo b.hi pb 0 v ha.lo ha.hi hb.lo hb.hi h.pc h.pf)
theorem ce_sqr (e:Int) {a:Res} (ha:Wd a) (pb:Nat):CE1 104 pb e (stQ e a).e a.lo a.hi (stQ e a).lo (stQ e a).hi:=fun v h=>told_e (cSqr_any e a.lo a.hi pb 0 v ha.lo ha.hi h.pc h.pf)
theorem ce_sqrt (e:Int) {a:Res} (ha:Wd a) (pb:Nat):CE1 30 pb e (stR e a).e a.lo a.hi (stR e a).lo (stR e a).hi:=fun v h=>told_e (cSqrt_any e a.lo a.hi pb 0 v ha.lo ha.hi h.pc h.pf)
theorem dot_walk (axl axh ayl ayh azl azh bxl bxh byl byh bzl bzh m1l m1h m2l m2h m3l m3h m4l m4h m5l m5h:Nat) (e e1 e2 e3 e4 e5:Int) (pb:Nat) (w:World) (hC:Has1 w (pb,#[.int .i64 e]))
  (d1:Hid (CE2 32 pb e e1 axl axh bxl bxh m1l m1h)) (d2:Hid (CE2 32 pb e1 e2 ayl ayh byl byh m2l m2h)) (d3:Hid (CE2 103 pb e2 e3 m1l m1h m2l m2h m3l m3h)) (d4:Hid (CE2 32 pb e3 e4 azl azh bzl bzh m4l m4h)) (d5:Hid (CE2 103 pb e4 e5 m3l m3h m4l m4h m5l m5h)) :
  Calls Tryz.prog 184 #[.pointer (some ⟨pb,0,none⟩),.agg #[axl,axh,ayl,ayh,azl,azh],.agg #[bxl,bxh,byl,byh,bzl,bzh]] w fun r w'=>r = .returned (.agg #[m5l,m5h])∧Put ⟨pb,0,none⟩ (.int .i64 e5) w w':=by
 have E:=Hd ((((EnvE.start hC).made #[axl,axh,ayl,ayh,azl,azh] 33).made #[bxl,bxh,byl,byh,bzl,bzh] 33).made #[(),()] 31);simp only [World.size_alloc] at E;go_enter Tryz.func184,Tryz.ntmps184;go_upto_region 1 with fail;revert E;generalize (((w.alloc (.cells #[axl,axh,ayl,ayh,azl,azh] 33)).alloc (.cells #[bxl,bxh,byl,byh,bzl,bzh] 33)).alloc (.cells #[(),()] 31))=W;intro E
 obtain⟨k1,k2,k3,k4,k5,k6⟩:=(E.out.nth 2 rfl).six; obtain⟨k7,k8,k9,k10,k11,k12⟩:=(E.out.nth 1 rfl).six; have kc:=(E.out.nth 0 rfl).2.1; have kf:=(E.out.nth 0 rfl).2.2
 go_region_held3 (fun w'=>Cf w' w.heap.size 0 axl∧Cf w' w.heap.size 1 axh∧Cf w' w.heap.size 2 ayl∧Cf w' w.heap.size 3 ayh∧Cf w' w.heap.size 4 azl∧Cf w' w.heap.size 5 azh∧w'.cell? ⟨w.heap.size+1,0,none⟩=some (bxl:Value)∧w'.cell? ⟨w.heap.size+1,1,none⟩=some (bxh:Value)∧w'.cell? ⟨w.heap.size+1,2,none⟩=some (byl:Value)∧w'.cell? ⟨w.heap.size+1,3,none⟩=some (byh:Value)∧w'.cell? ⟨w.heap.size+1,4,none⟩=some (bzl:Value)∧w'.cell? ⟨w.heap.size+1,5,none⟩=some (bzh:Value)) (((try dsimp only); (repeat' apply And.intro); all_goals (repeat (first | (with_reducible assumption) | ((with_reducible refine keep_undrew ?_); (with_reducible assumption)) | (with_reducible refine keep_drew ?_) | (with_reducible refine keep_alloc _ ?_) | (with_reducible refine keep_set _ (by first | (with_reducible assumption) | omega) ?_)))))
  (first
   | (go_at_call 32; (with_reducible refine (d1.out _ E.out.drew.cal).mono ?_); rintro rr w5 ⟨rfl,hp⟩; have E':=Hd (E.out.drew.putc hp); clear E hp k1 k2 k3 k4 k5 k6 k7 k8 k9 k10 k11 k12 kc kf; have E:=E'; clear E'; obtain⟨k1,k2,k3,k4,k5,k6⟩:=(E.out.nth 2 rfl).six; obtain⟨k7,k8,k9,k10,k11,k12⟩:=(E.out.nth 1 rfl).six; have kc:=(E.out.nth 0 rfl).2.1; have kf:=(E.out.nth 0 rfl).2.2)
   | (go_at_call 32; (with_reducible refine (d2.out _ E.out.cal).mono ?_); rintro rr w5 ⟨rfl,hp⟩; have E':=Hd (E.out.putc hp); clear E hp k1 k2 k3 k4 k5 k6 k7 k8 k9 k10 k11 k12 kc kf; have E:=E'; clear E'; obtain⟨k1,k2,k3,k4,k5,k6⟩:=(E.out.nth 2 rfl).six; obtain⟨k7,k8,k9,k10,k11,k12⟩:=(E.out.nth 1 rfl).six; have kc:=(E.out.nth 0 rfl).2.1; have kf:=(E.out.nth 0 rfl).2.2)
   | (go_at_call 103; (with_reducible refine (d3.out _ E.out.cal).mono ?_); rintro rr w5 ⟨rfl,hp⟩; have E':=Hd (E.out.putc hp); clear E hp k1 k2 k3 k4 k5 k6 k7 k8 k9 k10 k11 k12 kc kf; have E:=E'; clear E'; obtain⟨k1,k2,k3,k4,k5,k6⟩:=(E.out.nth 2 rfl).six; obtain⟨k7,k8,k9,k10,k11,k12⟩:=(E.out.nth 1 rfl).six; have kc:=(E.out.nth 0 rfl).2.1; have kf:=(E.out.nth 0 rfl).2.2)
   | (go_at_call 32; (with_reducible refine (d4.out _ E.out.cal).mono ?_); rintro rr w5 ⟨rfl,hp⟩; have E':=Hd (E.out.putc hp); clear E hp k1 k2 k3 k4 k5 k6 k7 k8 k9 k10 k11 k12 kc kf; have E:=E'; clear E'; obtain⟨k1,k2,k3,k4,k5,k6⟩:=(E.out.nth 2 rfl).six; obtain⟨k7,k8,k9,k10,k11,k12⟩:=(E.out.nth 1 rfl).six; have kc:=(E.out.nth 0 rfl).2.1; have kf:=(E.out.nth 0 rfl).2.2)
   | (go_at_call 103; (with_reducible refine (d5.out _ E.out.cal).mono ?_); rintro rr w5 ⟨rfl,hp⟩; have E':=Hd (E.out.putc hp); clear E hp k1 k2 k3 k4 k5 k6 k7 k8 k9 k10 k11 k12 kc kf; have E:=E'; clear E'; obtain⟨k1,k2,k3,k4,k5,k6⟩:=(E.out.nth 2 rfl).six; obtain⟨k7,k8,k9,k10,k11,k12⟩:=(E.out.nth 1 rfl).six; have kc:=(E.out.nth 0 rfl).2.1; have kf:=(E.out.nth 0 rfl).2.2))
 have F:=Hd (E.out.set2 (E.out.nth 0 rfl) (E.out.ne 0 rfl) (by omega) m5l m5h);go_wp2;obtain⟨f1,f2⟩:=(F.out.nth 0 rfl).two;exact bodyPost_ret (v:=.agg #[.float .f64 m5l,.float .f64 m5h]) (by simp [results,Tryz.results184,go_sem,f1,f2]) rfl ⟨rfl,F.out.put⟩
theorem norm_walk (axl axh ayl ayh azl azh n1l n1h n2l n2h n3l n3h n4l n4h n5l n5h n6l n6h:Nat) (e e1 e2 e3 e4 e5 e6:Int) (pb:Nat) (w:World) (hC:Has1 w (pb,#[.int .i64 e]))
  (d1:Hid (CE1 104 pb e e1 axl axh n1l n1h)) (d2:Hid (CE1 104 pb e1 e2 ayl ayh n2l n2h)) (d3:Hid (CE2 103 pb e2 e3 n1l n1h n2l n2h n3l n3h)) (d4:Hid (CE1 104 pb e3 e4 azl azh n4l n4h)) (d5:Hid (CE2 103 pb e4 e5 n3l n3h n4l n4h n5l n5h)) (d6:Hid (CE1 30 pb e5 e6 n5l n5h n6l n6h)) :
  Calls Tryz.prog 56 #[.pointer (some ⟨pb,0,none⟩),.agg #[axl,axh,ayl,ayh,azl,azh]] w fun r w'=>r = .returned (.agg #[n6l,n6h])∧Put ⟨pb,0,none⟩ (.int .i64 e6) w w':=by
 have E:=Hd (((EnvE.start hC).made #[axl,axh,ayl,ayh,azl,azh] 33).made #[(),()] 31);simp only [World.size_alloc] at E;go_enter Tryz.func56,Tryz.ntmps56;go_upto_region 1 with fail;revert E;generalize ((w.alloc (.cells #[axl,axh,ayl,ayh,azl,azh] 33)).alloc (.cells #[(),()] 31))=W;intro E
 obtain⟨k1,k2,k3,k4,k5,k6⟩:=(E.out.nth 1 rfl).six; have kc:=(E.out.nth 0 rfl).2.1; have kf:=(E.out.nth 0 rfl).2.2
 go_region_held3 (fun w'=>Cf w' w.heap.size 0 axl∧Cf w' w.heap.size 1 axh∧Cf w' w.heap.size 2 ayl∧Cf w' w.heap.size 3 ayh∧Cf w' w.heap.size 4 azl∧Cf w' w.heap.size 5 azh) (((try dsimp only); (repeat' apply And.intro); all_goals (repeat (first | (with_reducible assumption) | ((with_reducible refine keep_undrew ?_); (with_reducible assumption)) | (with_reducible refine keep_drew ?_) | (with_reducible refine keep_alloc _ ?_) | (with_reducible refine keep_set _ (by first | (with_reducible assumption) | omega) ?_)))))
  (first
   | (go_at_call 104; (with_reducible refine (d1.out _ E.out.drew.cal).mono ?_); rintro rr w5 ⟨rfl,hp⟩; have E':=Hd (E.out.drew.putc hp); clear E hp k1 k2 k3 k4 k5 k6 kc kf; have E:=E'; clear E'; obtain⟨k1,k2,k3,k4,k5,k6⟩:=(E.out.nth 1 rfl).six; have kc:=(E.out.nth 0 rfl).2.1; have kf:=(E.out.nth 0 rfl).2.2)
   | (go_at_call 104; (with_reducible refine (d2.out _ E.out.cal).mono ?_); rintro rr w5 ⟨rfl,hp⟩; have E':=Hd (E.out.putc hp); clear E hp k1 k2 k3 k4 k5 k6 kc kf; have E:=E'; clear E'; obtain⟨k1,k2,k3,k4,k5,k6⟩:=(E.out.nth 1 rfl).six; have kc:=(E.out.nth 0 rfl).2.1; have kf:=(E.out.nth 0 rfl).2.2)
   | (go_at_call 103; (with_reducible refine (d3.out _ E.out.cal).mono ?_); rintro rr w5 ⟨rfl,hp⟩; have E':=Hd (E.out.putc hp); clear E hp k1 k2 k3 k4 k5 k6 kc kf; have E:=E'; clear E'; obtain⟨k1,k2,k3,k4,k5,k6⟩:=(E.out.nth 1 rfl).six; have kc:=(E.out.nth 0 rfl).2.1; have kf:=(E.out.nth 0 rfl).2.2)
   | (go_at_call 104; (with_reducible refine (d4.out _ E.out.cal).mono ?_); rintro rr w5 ⟨rfl,hp⟩; have E':=Hd (E.out.putc hp); clear E hp k1 k2 k3 k4 k5 k6 kc kf; have E:=E'; clear E'; obtain⟨k1,k2,k3,k4,k5,k6⟩:=(E.out.nth 1 rfl).six; have kc:=(E.out.nth 0 rfl).2.1; have kf:=(E.out.nth 0 rfl).2.2)
   | (go_at_call 103; (with_reducible refine (d5.out _ E.out.cal).mono ?_); rintro rr w5 ⟨rfl,hp⟩; have E':=Hd (E.out.putc hp); clear E hp k1 k2 k3 k4 k5 k6 kc kf; have E:=E'; clear E'; obtain⟨k1,k2,k3,k4,k5,k6⟩:=(E.out.nth 1 rfl).six; have kc:=(E.out.nth 0 rfl).2.1; have kf:=(E.out.nth 0 rfl).2.2)
   | (go_at_call 30; (with_reducible refine (d6.out _ E.out.cal).mono ?_); rintro rr w5 ⟨rfl,hp⟩; have E':=Hd (E.out.putc hp); clear E hp k1 k2 k3 k4 k5 k6 kc kf; have E:=E'; clear E'; obtain⟨k1,k2,k3,k4,k5,k6⟩:=(E.out.nth 1 rfl).six; have kc:=(E.out.nth 0 rfl).2.1; have kf:=(E.out.nth 0 rfl).2.2))
 have F:=Hd (E.out.set2 (E.out.nth 0 rfl) (E.out.ne 0 rfl) (by omega) n6l n6h);go_wp2;obtain⟨f1,f2⟩:=(F.out.nth 0 rfl).two;exact bodyPost_ret (v:=.agg #[.float .f64 n6l,.float .f64 n6h]) (by simp [results,Tryz.results56,go_sem,f1,f2]) rfl ⟨rfl,F.out.put⟩
theorem both_add (axl axh ayl ayh azl azh bxl bxh byl byh bzl bzh rxl rxh ryl ryh rzl rzh:Nat) (e e1 e2 e3:Int) (pb:Nat) (w:World) (hC:Has1 w (pb,#[.int .i64 e]))
  (d1:Hid (CE2 103 pb e e1 axl axh bxl bxh rxl rxh)) (d2:Hid (CE2 103 pb e1 e2 ayl ayh byl byh ryl ryh)) (d3:Hid (CE2 103 pb e2 e3 azl azh bzl bzh rzl rzh)) :
  Calls Tryz.prog 223 #[.agg #[axl,axh,ayl,ayh,azl,azh],.agg #[bxl,bxh,byl,byh,bzl,bzh],.func (.func 103) #[.pointer (some ⟨pb,0,none⟩)] #[]] w fun r w'=>r = .returned (.agg #[rxl,rxh,ryl,ryh,rzl,rzh])∧Put ⟨pb,0,none⟩ (.int .i64 e3) w w':=by
 have E:=Hd ((((EnvE.start hC).made #[axl,axh,ayl,ayh,azl,azh] 33).made #[bxl,bxh,byl,byh,bzl,bzh] 33).made #[(),(),(),(),(),()] 33);simp only [World.size_alloc] at E;go_enter Tryz.func223,Tryz.ntmps223;go_upto_region 1 with fail;revert E;generalize (((w.alloc (.cells #[axl,axh,ayl,ayh,azl,azh] 33)).alloc (.cells #[bxl,bxh,byl,byh,bzl,bzh] 33)).alloc (.cells #[(),(),(),(),(),()] 33))=W;intro E
 obtain⟨k1,k2,k3,k4,k5,k6⟩:=(E.out.nth 2 rfl).six; obtain⟨k7,k8,k9,k10,k11,k12⟩:=(E.out.nth 1 rfl).six; have kc:=(E.out.nth 0 rfl).2.1; have kf:=(E.out.nth 0 rfl).2.2
 go_region_held3 (fun w'=>Cf w' w.heap.size 0 axl∧Cf w' w.heap.size 1 axh∧Cf w' w.heap.size 2 ayl∧Cf w' w.heap.size 3 ayh∧Cf w' w.heap.size 4 azl∧Cf w' w.heap.size 5 azh∧w'.cell? ⟨w.heap.size+1,0,none⟩=some (bxl:Value)∧w'.cell? ⟨w.heap.size+1,1,none⟩=some (bxh:Value)∧w'.cell? ⟨w.heap.size+1,2,none⟩=some (byl:Value)∧w'.cell? ⟨w.heap.size+1,3,none⟩=some (byh:Value)∧w'.cell? ⟨w.heap.size+1,4,none⟩=some (bzl:Value)∧w'.cell? ⟨w.heap.size+1,5,none⟩=some (bzh:Value)) (((try dsimp only); (repeat' apply And.intro); all_goals (repeat (first | (with_reducible assumption) | ((with_reducible refine keep_undrew ?_); (with_reducible assumption)) | (with_reducible refine keep_drew ?_) | (with_reducible refine keep_alloc _ ?_) | (with_reducible refine keep_set _ (by first | (with_reducible assumption) | omega) ?_)))))
  (first
   | (go_at_call 103; (with_reducible refine (d1.out _ E.out.drew.cal).mono ?_); rintro rr w5 ⟨rfl,hp⟩; have E':=Hd (E.out.drew.putc hp); clear E hp k1 k2 k3 k4 k5 k6 k7 k8 k9 k10 k11 k12 kc kf; have E:=E'; clear E'; obtain⟨k1,k2,k3,k4,k5,k6⟩:=(E.out.nth 2 rfl).six; obtain⟨k7,k8,k9,k10,k11,k12⟩:=(E.out.nth 1 rfl).six; have kc:=(E.out.nth 0 rfl).2.1; have kf:=(E.out.nth 0 rfl).2.2)
   | (go_at_call 103; (with_reducible refine (d2.out _ E.out.cal).mono ?_); rintro rr w5 ⟨rfl,hp⟩; have E':=Hd (E.out.putc hp); clear E hp k1 k2 k3 k4 k5 k6 k7 k8 k9 k10 k11 k12 kc kf; have E:=E'; clear E'; obtain⟨k1,k2,k3,k4,k5,k6⟩:=(E.out.nth 2 rfl).six; obtain⟨k7,k8,k9,k10,k11,k12⟩:=(E.out.nth 1 rfl).six; have kc:=(E.out.nth 0 rfl).2.1; have kf:=(E.out.nth 0 rfl).2.2)
   | (go_at_call 103; (with_reducible refine (d3.out _ E.out.cal).mono ?_); rintro rr w5 ⟨rfl,hp⟩; have E':=Hd (E.out.putc hp); clear E hp k1 k2 k3 k4 k5 k6 k7 k8 k9 k10 k11 k12 kc kf; have E:=E'; clear E'; obtain⟨k1,k2,k3,k4,k5,k6⟩:=(E.out.nth 2 rfl).six; obtain⟨k7,k8,k9,k10,k11,k12⟩:=(E.out.nth 1 rfl).six; have kc:=(E.out.nth 0 rfl).2.1; have kf:=(E.out.nth 0 rfl).2.2))
 have F:=Hd (E.out.set6 (E.out.nth 0 rfl) (E.out.ne 0 rfl) (by omega) rxl rxh ryl ryh rzl rzh);go_wp2;obtain⟨f1,f2,f3,f4,f5,f6⟩:=(F.out.nth 0 rfl).six;exact bodyPost_ret (v:=.agg #[.float .f64 rxl,.float .f64 rxh,.float .f64 ryl,.float .f64 ryh,.float .f64 rzl,.float .f64 rzh]) (by simp [results,Tryz.results223,go_sem,f1,f2,f3,f4,f5,f6]) rfl ⟨rfl,F.out.put⟩
theorem addV_walk (axl axh ayl ayh azl azh bxl bxh byl byh bzl bzh rxl rxh ryl ryh rzl rzh:Nat) (e e3:Int) (pb:Nat) (w:World) (hC:Has1 w (pb,#[.int .i64 e]))
  (cB:Hid (∀ v:World,Has1 v (pb,#[.int .i64 e])→Calls Tryz.prog 223 #[.agg #[axl,axh,ayl,ayh,azl,azh],.agg #[bxl,bxh,byl,byh,bzl,bzh],.func (.func 103) #[.pointer (some ⟨pb,0,none⟩)] #[]] v fun r w'=>r = .returned (.agg #[rxl,rxh,ryl,ryh,rzl,rzh])∧Put ⟨pb,0,none⟩ (.int .i64 e3) v w')) :
  Calls Tryz.prog 216 #[.pointer (some ⟨pb,0,none⟩),.agg #[axl,axh,ayl,ayh,azl,azh],.agg #[bxl,bxh,byl,byh,bzl,bzh]] w fun r w'=>r = .returned (.agg #[rxl,rxh,ryl,ryh,rzl,rzh])∧Put ⟨pb,0,none⟩ (.int .i64 e3) w w':=by
 have E:=Hd ((((EnvE.start hC).made #[axl,axh,ayl,ayh,azl,azh] 33).made #[bxl,bxh,byl,byh,bzl,bzh] 33).made #[(),(),(),(),(),()] 33);simp only [World.size_alloc] at E
 have lp:pb < w.heap.size:=hC.1
 obtain⟨k1,k2,k3,k4,k5,k6⟩:=(E.out.nth 2 rfl).six; obtain⟨k7,k8,k9,k10,k11,k12⟩:=(E.out.nth 1 rfl).six
 clear hC;go_enter Tryz.func216,Tryz.ntmps216;go_wp2_with fail;refine (cB.out _ E.out.cal).mono ?_;rintro r w1 ⟨rfl,hp⟩;have E1:=Hd (E.out.putc hp);clear E hp k1 k2 k3 k4 k5 k6 k7 k8 k9 k10 k11 k12;have kc:=(E1.out.nth 0 rfl).2.1;have kf:=(E1.out.nth 0 rfl).2.2;have F:=Hd (E1.out.set6 (E1.out.nth 0 rfl) (E1.out.ne 0 rfl) (by omega) rxl rxh ryl ryh rzl rzh);go_wp2;obtain⟨f1,f2,f3,f4,f5,f6⟩:=(F.out.nth 0 rfl).six;exact bodyPost_ret (v:=.agg #[.float .f64 rxl,.float .f64 rxh,.float .f64 ryl,.float .f64 ryh,.float .f64 rzl,.float .f64 rzh]) (by simp [results,Tryz.results216,go_sem,f1,f2,f3,f4,f5,f6]) rfl ⟨rfl,F.out.put⟩
end
section
open Go.RowKit
attribute [local go_sem] run_store_float
abbrev CD2 (f:FuncId) (pb:Nat) (e e':Int) (al ah bl bh rl rh:Nat):Prop:=∀ v:World,Has1 v (pb,#[.int .i64 e])→Calls Tryz.prog f #[.pointer (some ⟨pb,0,none⟩),.agg #[al,ah],.agg #[bl,bh]] v fun r w'=>r = .returned (.agg #[rl,rh])∧Put ⟨pb,0,none⟩ (.int .i64 e') v w'
theorem ratio_walk (al ah bl bh sl sh tl th rl rh:Nat) (e e1 e2 e3:Int) (pb:Nat) (w:World) (hC:Has1 w (pb,#[.int .i64 e]))
  (d1:Hid (CD2 34 pb e e1 al ah bl bh sl sh)) (d2:Hid (CD2 103 pb e1 e2 al ah bl bh tl th)) (d3:Hid (CD2 60 pb e2 e3 sl sh tl th rl rh)) :
  Calls Tryz.prog 209 #[.pointer (some ⟨pb,0,none⟩),.agg #[al,ah],.agg #[bl,bh]] w fun r w'=>r = .returned (.agg #[rl,rh])∧Put ⟨pb,0,none⟩ (.int .i64 e3) w w':=by
 have E:=Hd ((((EnvE.start hC).made #[al,ah] 31).made #[bl,bh] 31).made #[(),()] 31);simp only [World.size_alloc] at E;go_enter Tryz.func209,Tryz.ntmps209;go_upto_region 1 with fail;revert E;generalize (((w.alloc (.cells #[al,ah] 31)).alloc (.cells #[bl,bh] 31)).alloc (.cells #[(),()] 31))=W;intro E
 obtain⟨k1,k2⟩:=(E.out.nth 2 rfl).two; obtain⟨k3,k4⟩:=(E.out.nth 1 rfl).two; have kc:=(E.out.nth 0 rfl).2.1; have kf:=(E.out.nth 0 rfl).2.2
 go_region_held3 (fun w'=>Cf w' w.heap.size 0 al∧Cf w' w.heap.size 1 ah∧w'.cell? ⟨w.heap.size+1,0,none⟩=some (bl:Value)∧w'.cell? ⟨w.heap.size+1,1,none⟩=some (bh:Value)) (((try dsimp only); (repeat' apply And.intro); all_goals (repeat (first | (with_reducible assumption) | ((with_reducible refine keep_undrew ?_); (with_reducible assumption)) | (with_reducible refine keep_drew ?_) | (with_reducible refine keep_alloc _ ?_) | (with_reducible refine keep_set _ (by first | (with_reducible assumption) | omega) ?_)))))
  (first
   | (go_at_call 34; (with_reducible refine (d1.out _ E.out.drew.cal).mono ?_); rintro rr w5 ⟨rfl,hp⟩; have E':=Hd (E.out.drew.putc hp); clear E hp k1 k2 k3 k4 kc kf; have E:=E'; clear E'; obtain⟨k1,k2⟩:=(E.out.nth 2 rfl).two; obtain⟨k3,k4⟩:=(E.out.nth 1 rfl).two; have kc:=(E.out.nth 0 rfl).2.1; have kf:=(E.out.nth 0 rfl).2.2)
   | (go_at_call 103; (with_reducible refine (d2.out _ E.out.cal).mono ?_); rintro rr w5 ⟨rfl,hp⟩; have E':=Hd (E.out.putc hp); clear E hp k1 k2 k3 k4 kc kf; have E:=E'; clear E'; obtain⟨k1,k2⟩:=(E.out.nth 2 rfl).two; obtain⟨k3,k4⟩:=(E.out.nth 1 rfl).two; have kc:=(E.out.nth 0 rfl).2.1; have kf:=(E.out.nth 0 rfl).2.2)
   | (go_at_call 60; (with_reducible refine (d3.out _ E.out.cal).mono ?_); rintro rr w5 ⟨rfl,hp⟩; have E':=Hd (E.out.putc hp); clear E hp k1 k2 k3 k4 kc kf; have E:=E'; clear E'; obtain⟨k1,k2⟩:=(E.out.nth 2 rfl).two; obtain⟨k3,k4⟩:=(E.out.nth 1 rfl).two; have kc:=(E.out.nth 0 rfl).2.1; have kf:=(E.out.nth 0 rfl).2.2))
 have F:=Hd (E.out.set2 (E.out.nth 0 rfl) (E.out.ne 0 rfl) (by omega) rl rh);go_wp2;obtain⟨f1,f2⟩:=(F.out.nth 0 rfl).two;exact bodyPost_ret (v:=.agg #[.float .f64 rl,.float .f64 rh]) (by simp [results,Tryz.results209,go_sem,f1,f2]) rfl ⟨rfl,F.out.put⟩
end
section
open Go.RowKit
attribute [local go_sem] run_store_float
end
end Go.Proofs.YtnaomilkgfkegaaGreat
