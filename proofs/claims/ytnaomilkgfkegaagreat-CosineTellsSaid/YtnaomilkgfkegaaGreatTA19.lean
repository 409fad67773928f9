/- What the claim stands on, part 20: QTG. -/
import Derived.Test.YtnaomilkgfkegaaGreatTA18
import Derived.Deep.RegionHeld3
import Derived.Deep.CutRange
set_option maxHeartbeats 8000000
set_option maxRecDepth 100000
namespace Go.Proofs.YtnaomilkgfkegaaGreat
section
open Go.RowKit
attribute [local go_sem] run_store_float
structure MemL (B:World) (l:List (Nat×Array Value)) (v:World):Prop where
 env:Mem B l v
 apart:l.Pairwise fun p q=>p.1≠q.1
 low:∀ p,p∈l→B.heap.size≤p.1
section
variable {B v v':World} {l:List (Nat×Array Value)}
theorem MemL.drew (h:MemL B l v):MemL B l v.drew:=⟨h.env.drew,h.apart,h.low⟩
theorem MemL.below (h:MemL B l v) (hb:Below v.heap.size v v'):MemL B l v':=⟨h.env.below hb,h.apart,h.low⟩
theorem MemL.start:MemL B [] B:=⟨Mem.nil B,List.Pairwise.nil,fun p hp=>by cases hp⟩
theorem MemL.made (h:MemL B l v) (c:Array Value) (t:TypeId):MemL B ((v.heap.size,c) :: l) (v.alloc (.cells c t)):=
 ⟨h.env.made c t,List.pairwise_cons.2 ⟨fun p hp=>Nat.ne_of_gt (h.env.blocks p hp).1,h.apart⟩,fun p hp=>by
   rcases List.mem_cons.1 hp with e | e
   · rw [e]; exact h.env.base.size
   · exact h.low p e⟩
theorem MemL.twoA {p q:Nat×Array Value} (h:MemL B (p :: q :: l) v):p.1≠q.1∧q.1≠p.1:=
 ⟨(List.pairwise_cons.1 h.apart).1 q (List.mem_cons_self ..),Ne.symm ((List.pairwise_cons.1 h.apart).1 q (List.mem_cons_self ..))⟩
theorem MemL.swap {p q:Nat×Array Value} (h:MemL B (p :: q :: l) v):MemL B (q :: p :: l) v:=by
 refine ⟨h.env.sub (fun r hr=>?_),?_,fun r hr=>h.low r ?_⟩
 · simp only [List.mem_cons] at hr ⊢
   rcases hr with e | e | e <;> simp [e]
 · have h1:=List.pairwise_cons.1 h.apart
   have h2:=List.pairwise_cons.1 h1.2
   refine List.pairwise_cons.2 ⟨fun r hr=>?_,List.pairwise_cons.2 ⟨fun r hr=>h1.1 r (List.mem_cons_of_mem _ hr),h2.2⟩⟩
   rcases List.mem_cons.1 hr with e | e
   · rw [e]; exact Ne.symm (h1.1 q (List.mem_cons_self ..))
   · exact h2.1 r e
 · simp only [List.mem_cons] at hr ⊢
   rcases hr with e | e | e <;> simp [e]
theorem MemL.reset {q:Nat} {a b:Value} (h:MemL B ((q,#[a,b]) :: l) v) (x y:Value):MemL B ((q,#[x,y]) :: l) ((v.setCell ⟨q,0,none⟩ x).setCell ⟨q,1,none⟩ y):=
 ⟨h.env.sets (h.env.nth 0 rfl) x y (h.low _ (List.mem_cons_self ..)) _ (fun p hp=>by
   rcases List.mem_cons.1 hp with e | e
   · exact Or.inl e
   · exact Or.inr ⟨List.mem_cons_of_mem _ e,(List.pairwise_cons.1 h.apart).1 p e⟩),List.pairwise_cons.2 ⟨(List.pairwise_cons.1 h.apart).1,(List.pairwise_cons.1 h.apart).2⟩,fun p hp=>by
   rcases List.mem_cons.1 hp with e | e
   · rw [e]; exact h.low (q,#[a,b]) (List.mem_cons_self ..)
   · exact h.low p (List.mem_cons_of_mem _ e)⟩
def KeptM (w:World) (l:List (Nat×Array Value)) (a b x y:Nat) (p q:Value) (wx:World):Prop:=
 ∃ i j,p = .pointer (some ⟨i,0,none⟩)∧q = .pointer (some ⟨j,0,none⟩)∧MemL w ((i,#[.float .f64 a,.float .f64 b]) :: (j,#[.float .f64 x,.float .f64 y]) :: l) wx
variable {a b x y q r:Nat} {z0 z1 z2 z3:Value} {t u:TypeId}
theorem KeptM.both (h:MemL B l v):KeptM B l a b x y (.pointer (some ⟨v.heap.size,0,none⟩)) (.pointer (some ⟨v.heap.size+1,0,none⟩)) ((v.alloc (.cells #[.float .f64 a,.float .f64 b] t)).alloc (.cells #[.float .f64 x,.float .f64 y] u)):=by
 have k:=((h.made #[.float .f64 a,.float .f64 b] t).made #[.float .f64 x,.float .f64 y] u).swap
 rw [World.size_alloc] at k
 exact ⟨_,_,rfl,rfl,k⟩
theorem KeptM.both' (h:MemL B l v):KeptM B l a b x y (.pointer (some ⟨v.heap.size+1,0,none⟩)) (.pointer (some ⟨v.heap.size,0,none⟩)) ((v.alloc (.cells #[.float .f64 x,.float .f64 y] t)).alloc (.cells #[.float .f64 a,.float .f64 b] u)):=by
 have k:=(h.made #[.float .f64 x,.float .f64 y] t).made #[.float .f64 a,.float .f64 b] u
 rw [World.size_alloc] at k
 exact ⟨_,_,rfl,rfl,k⟩
theorem KeptM.one (h:MemL B ((q,#[z0,z1]) :: l) v):KeptM B l a b x y (.pointer (some ⟨q,0,none⟩)) (.pointer (some ⟨v.heap.size,0,none⟩)) (((v.setCell ⟨q,0,none⟩ (.float .f64 a)).setCell ⟨q,1,none⟩ (.float .f64 b)).alloc (.cells #[.float .f64 x,.float .f64 y] u)):=by
 have k:=((h.reset (.float .f64 a) (.float .f64 b)).made #[.float .f64 x,.float .f64 y] u).swap
 rw [size_two] at k
 exact ⟨_,_,rfl,rfl,k⟩
theorem KeptM.one' (h:MemL B ((q,#[z0,z1]) :: l) v):KeptM B l a b x y (.pointer (some ⟨v.heap.size,0,none⟩)) (.pointer (some ⟨q,0,none⟩)) (((v.setCell ⟨q,0,none⟩ (.float .f64 x)).setCell ⟨q,1,none⟩ (.float .f64 y)).alloc (.cells #[.float .f64 a,.float .f64 b] u)):=by
 have k:=(h.reset (.float .f64 x) (.float .f64 y)).made #[.float .f64 a,.float .f64 b] u
 rw [size_two] at k
 exact ⟨_,_,rfl,rfl,k⟩
theorem KeptM.two (h:MemL B ((r,#[z2,z3]) :: (q,#[z0,z1]) :: l) v):KeptM B l a b x y (.pointer (some ⟨q,0,none⟩)) (.pointer (some ⟨r,0,none⟩)) ((((v.setCell ⟨q,0,none⟩ (.float .f64 a)).setCell ⟨q,1,none⟩ (.float .f64 b)).setCell ⟨r,0,none⟩ (.float .f64 x)).setCell ⟨r,1,none⟩ (.float .f64 y)):=
 ⟨_,_,rfl,rfl,((h.swap.reset (.float .f64 a) (.float .f64 b)).swap.reset (.float .f64 x) (.float .f64 y)).swap⟩
theorem KeptM.two' (h:MemL B ((q,#[z0,z1]) :: (r,#[z2,z3]) :: l) v):KeptM B l a b x y (.pointer (some ⟨q,0,none⟩)) (.pointer (some ⟨r,0,none⟩)) ((((v.setCell ⟨q,0,none⟩ (.float .f64 a)).setCell ⟨q,1,none⟩ (.float .f64 b)).setCell ⟨r,0,none⟩ (.float .f64 x)).setCell ⟨r,1,none⟩ (.float .f64 y)):=
 ⟨_,_,rfl,rfl,((h.reset (.float .f64 a) (.float .f64 b)).swap.reset (.float .f64 x) (.float .f64 y)).swap⟩
end
end
section
open Go.RowKit
attribute [local go_sem] run_store_float
abbrev RCalcH (al ah bl bh rl rh:Nat):Prop:=∀ w:World,Calls Tryz.prog 80 #[.agg #[.float .f64 al,.float .f64 ah],.agg #[.float .f64 bl,.float .f64 bh]] w fun r w'=>r = .returned (.agg #[.float .f64 rl,.float .f64 rh])∧Below w.heap.size w w'
abbrev RCalcO (x sl sh kl kh:Nat):Prop:=∀ w:World,Calls Tryz.prog 79 #[.float .f64 x] w fun r w'=>r = .returned (.tuple #[.agg #[.float .f64 sl,.float .f64 sh],.agg #[.float .f64 kl,.float .f64 kh]])∧Below w.heap.size w w'
abbrev RCalcHas (al ah x:Nat) (b:Bool):Prop:=∀ w:World,Calls Tryz.prog 81 #[.agg #[.float .f64 al,.float .f64 ah],.float .f64 x] w fun r w'=>r = .returned (.bool b)∧Below w.heap.size w w'
theorem rsin_walk (al ah sl sh kl kh tl th vl vh pl ph ql qh xl xh yl yh gl gh il ih jl jh:Nat) (b1 b2 b3:Bool) (w:World)
   (cR:Hid (∀ w,Calls Tryz.prog 52 #[.agg #[.float .f64 al,.float .f64 ah]] w fun r w'=>r = .returned (.bool true)∧Below w.heap.size w w'))
   (o1:(FloatKind.f64.format.order al 0 == some Ordering.lt)=false) (o2:(FloatKind.f64.format.order ah 4607182418800017408 == some Ordering.gt)=false)
   (cO1:Hid (RCalcO al sl sh kl kh)) (cO2:Hid (RCalcO ah tl th vl vh)) (cS:Hid (RCalcH sl sh tl th pl ph)) (cK:Hid (RCalcH kl kh vl vh ql qh))
   (h1:Hid (RCalcHas al ah 4598175219545276416 b1)) (h2:Hid (RCalcHas al ah 4604930618986332160 b2)) (h3:Hid (RCalcHas al ah 4602678819172646912 b3))
   (c1:Hid (RCalcH pl ph 4607182418800017408 4607182418800017408 gl gh)) (c2:Hid (RCalcH xl xh 13830554455654793216 13830554455654793216 il ih)) (c3:Hid (RCalcH ql qh 13830554455654793216 13830554455654793216 jl jh))
   (e1:Hid (xl=(cond b1 gl pl)∧xh=(cond b1 gh ph))) (e2:Hid (yl=(cond b2 il xl)∧yh=(cond b2 ih xh))) (zl zh:Nat) (e3:Hid (zl=(cond b3 jl ql)∧zh=(cond b3 jh qh))) :
   Calls Tryz.prog 38 #[.agg #[.float .f64 al,.float .f64 ah]] w fun r w'=>r = .returned (.tuple #[.agg #[.float .f64 yl,.float .f64 yh],.agg #[.float .f64 zl,.float .f64 zh],.int .i64 0])∧Below w.heap.size w w':=by
 have L:Hid (MemL w [(w.heap.size+1+1,#[.float .f64 0,.float .f64 0]),(w.heap.size+1,#[.float .f64 0,.float .f64 0]),(w.heap.size,#[.float .f64 al,.float .f64 ah])] (((w.alloc (.cells #[.float .f64 al,.float .f64 ah] 31)).alloc (.cells #[.float .f64 0,.float .f64 0] 31)).alloc (.cells #[.float .f64 0,.float .f64 0] 31))):=by
   have h:=(((MemL.start (B:=w)).made #[.float .f64 al,.float .f64 ah] 31).made #[.float .f64 0,.float .f64 0] 31).made #[.float .f64 0,.float .f64 0] 31
   simp only [World.size_alloc] at h
   exact Lib.hid h
 obtain⟨k1,k2⟩:=(L.out.env.nth 2 rfl).two
 go_enter Tryz.func38,Tryz.ntmps38
 go_wp2_with fail
 refine (cR.out _).mono ?_
 rintro r w1 ⟨rfl,hb⟩
 replace L:=Lib.hid (L.out.below hb)
 clear hb k1 k2 cR
 obtain⟨k1,k2⟩:=(L.out.env.nth 2 rfl).two
 go_upto_region 3 with fail
 clear o1 o2
 go_wp2_with fail
 refine (cO1.out _).mono ?_
 rintro r w2 ⟨rfl,hb⟩
 replace L:Hid (MemL w [(w2.heap.size+1,#[.float .f64 kl,.float .f64 kh]),(w2.heap.size,#[.float .f64 sl,.float .f64 sh]),(w.heap.size+1+1,#[.float .f64 0,.float .f64 0]),(w.heap.size+1,#[.float .f64 0,.float .f64 0]),(w.heap.size,#[.float .f64 al,.float .f64 ah])] ((w2.alloc (.cells #[.float .f64 sl,.float .f64 sh] 31)).alloc (.cells #[.float .f64 kl,.float .f64 kh] 31))):=by
   have h:=((L.out.below hb).made #[.float .f64 sl,.float .f64 sh] 31).made #[.float .f64 kl,.float .f64 kh] 31
   simp only [World.size_alloc] at h
   exact Lib.hid h
 clear hb k1 k2 cO1
 obtain⟨k1,k2⟩:=(L.out.env.nth 4 rfl).two
 go_wp2_with fail
 refine (cO2.out _).mono ?_
 rintro r w3 ⟨rfl,hb⟩
 have z3:w2.heap.size+1 < w3.heap.size:=((L.out.below hb).env.nth 0 rfl).1
 replace L:Hid (MemL w [(w3.heap.size+1,#[.float .f64 vl,.float .f64 vh]),(w3.heap.size,#[.float .f64 tl,.float .f64 th]),(w2.heap.size+1,#[.float .f64 kl,.float .f64 kh]),(w2.heap.size,#[.float .f64 sl,.float .f64 sh]),(w.heap.size+1+1,#[.float .f64 0,.float .f64 0]),(w.heap.size+1,#[.float .f64 0,.float .f64 0]),(w.heap.size,#[.float .f64 al,.float .f64 ah])] ((w3.alloc (.cells #[.float .f64 tl,.float .f64 th] 31)).alloc (.cells #[.float .f64 vl,.float .f64 vh] 31))):=by
   have h:=((L.out.below hb).made #[.float .f64 tl,.float .f64 th] 31).made #[.float .f64 vl,.float .f64 vh] 31
   simp only [World.size_alloc] at h
   exact Lib.hid h
 clear hb k1 k2 cO2
 go_upto_region 5 with fail
 revert L
 generalize ((w3.alloc (.cells #[.float .f64 tl,.float .f64 th] 31)).alloc (.cells #[.float .f64 vl,.float .f64 vh] 31))=W
 intro L
 obtain⟨y0,v0⟩:=(L.out.env.blocks (w2.heap.size,#[.float .f64 sl,.float .f64 sh]) (by simp)).two
 obtain⟨y1,v1⟩:=(L.out.env.blocks (w3.heap.size,#[.float .f64 tl,.float .f64 th]) (by simp)).two
 obtain⟨y2,v2⟩:=(L.out.env.blocks (w2.heap.size+1,#[.float .f64 kl,.float .f64 kh]) (by simp)).two
 obtain⟨y3,v3⟩:=(L.out.env.blocks (w3.heap.size+1,#[.float .f64 vl,.float .f64 vh]) (by simp)).two
 have zz:=(L.out.env.blocks (w3.heap.size+1,#[.float .f64 vl,.float .f64 vh]) (by simp)).1
 have k4:=(L.out.env.nth 0 rfl).2.1
 have k5:=(L.out.env.nth 0 rfl).2.2
 have k6:=(L.out.env.nth 1 rfl).2.1
 have k7:=(L.out.env.nth 1 rfl).2.2
 have s0:=(L.out.env.nth 0 rfl).1
 have s1:=(L.out.env.nth 1 rfl).1
 have s2:=L.out.twoA.1
 have s3:=L.out.twoA.2
 go_cut [9,10] (KeptM w [(w3.heap.size+1,#[.float .f64 vl,.float .f64 vh]),(w3.heap.size,#[.float .f64 tl,.float .f64 th]),(w2.heap.size+1,#[.float .f64 kl,.float .f64 kh]),(w2.heap.size,#[.float .f64 sl,.float .f64 sh]),(w.heap.size+1+1,#[.float .f64 0,.float .f64 0]),(w.heap.size+1,#[.float .f64 0,.float .f64 0]),(w.heap.size,#[.float .f64 al,.float .f64 ah])] pl ph ql qh)
 case first =>
   go_region_held3 (fun w'=>(w'.cell? ⟨w2.heap.size,0,none⟩=some (.float .f64 sl)∧w'.cell? ⟨w2.heap.size,1,none⟩=some (.float .f64 sh))∧(w'.cell? ⟨w3.heap.size,0,none⟩=some (.float .f64 tl)∧w'.cell? ⟨w3.heap.size,1,none⟩=some (.float .f64 th))∧(w'.cell? ⟨w2.heap.size+1,0,none⟩=some (.float .f64 kl)∧w'.cell? ⟨w2.heap.size+1,1,none⟩=some (.float .f64 kh))∧(w'.cell? ⟨w3.heap.size+1,0,none⟩=some (.float .f64 vl)∧w'.cell? ⟨w3.heap.size+1,1,none⟩=some (.float .f64 vh))) (((try dsimp only); (repeat' apply And.intro); all_goals (repeat (first | (with_reducible assumption) | ((with_reducible refine keep_undrew ?_); (with_reducible assumption)) | (with_reducible refine keep_drew ?_) | (with_reducible refine keep_alloc _ ?_) | (with_reducible refine keep_set _ (by first | (with_reducible assumption) | omega) ?_)))))
     (first
       | (go_at_call 80; (with_reducible refine (cS.out _).mono ?_); rintro rr w9 ⟨rfl,hb⟩; (first | (with_reducible have L_:=Lib.hid ((L.out).below hb)) | (with_reducible have L_:=Lib.hid ((L.out.drew).below hb)) | (with_reducible have L_:=Lib.hid (((L.out.made _ _)).below hb)) | (with_reducible have L_:=Lib.hid (((L.out.drew.made _ _)).below hb)) | (with_reducible have L_:=Lib.hid ((((L.out.made _ _).made _ _)).below hb)) | (with_reducible have L_:=Lib.hid ((((L.out.drew.made _ _).made _ _)).below hb)) | (with_reducible have L_:=Lib.hid (((L.out.made _ _).drew).below hb)) | (with_reducible have L_:=Lib.hid ((((L.out.made _ _).made _ _).drew).below hb))); (try simp only [World.size_alloc] at L_); clear L hb; clear y0 v0 y1 v1 y2 v2 y3 v3 k4 k5 k6 k7 s0 s1 s2 s3; have L:=L_; clear L_; obtain⟨y0,v0⟩:=(L.out.env.blocks (w2.heap.size,#[.float .f64 sl,.float .f64 sh]) (by simp)).two; obtain⟨y1,v1⟩:=(L.out.env.blocks (w3.heap.size,#[.float .f64 tl,.float .f64 th]) (by simp)).two; obtain⟨y2,v2⟩:=(L.out.env.blocks (w2.heap.size+1,#[.float .f64 kl,.float .f64 kh]) (by simp)).two; obtain⟨y3,v3⟩:=(L.out.env.blocks (w3.heap.size+1,#[.float .f64 vl,.float .f64 vh]) (by simp)).two; have zz:=(L.out.env.blocks (w3.heap.size+1,#[.float .f64 vl,.float .f64 vh]) (by simp)).1; have k4:=(L.out.env.nth 0 rfl).2.1; have k5:=(L.out.env.nth 0 rfl).2.2; have k6:=(L.out.env.nth 1 rfl).2.1; have k7:=(L.out.env.nth 1 rfl).2.2; have s0:=(L.out.env.nth 0 rfl).1; have s1:=(L.out.env.nth 1 rfl).1; have s2:=L.out.twoA.1; have s3:=L.out.twoA.2)
       | (go_at_call 80; (with_reducible refine (cK.out _).mono ?_); rintro rr w9 ⟨rfl,hb⟩; (first | (with_reducible have L_:=Lib.hid ((L.out).below hb)) | (with_reducible have L_:=Lib.hid ((L.out.drew).below hb)) | (with_reducible have L_:=Lib.hid (((L.out.made _ _)).below hb)) | (with_reducible have L_:=Lib.hid (((L.out.drew.made _ _)).below hb)) | (with_reducible have L_:=Lib.hid ((((L.out.made _ _).made _ _)).below hb)) | (with_reducible have L_:=Lib.hid ((((L.out.drew.made _ _).made _ _)).below hb)) | (with_reducible have L_:=Lib.hid (((L.out.made _ _).drew).below hb)) | (with_reducible have L_:=Lib.hid ((((L.out.made _ _).made _ _).drew).below hb))); (try simp only [World.size_alloc] at L_); clear L hb; clear y0 v0 y1 v1 y2 v2 y3 v3 k4 k5 k6 k7 s0 s1 s2 s3; have L:=L_; clear L_; obtain⟨y0,v0⟩:=(L.out.env.blocks (w2.heap.size,#[.float .f64 sl,.float .f64 sh]) (by simp)).two; obtain⟨y1,v1⟩:=(L.out.env.blocks (w3.heap.size,#[.float .f64 tl,.float .f64 th]) (by simp)).two; obtain⟨y2,v2⟩:=(L.out.env.blocks (w2.heap.size+1,#[.float .f64 kl,.float .f64 kh]) (by simp)).two; obtain⟨y3,v3⟩:=(L.out.env.blocks (w3.heap.size+1,#[.float .f64 vl,.float .f64 vh]) (by simp)).two; have zz:=(L.out.env.blocks (w3.heap.size+1,#[.float .f64 vl,.float .f64 vh]) (by simp)).1; have k4:=(L.out.env.nth 0 rfl).2.1; have k5:=(L.out.env.nth 0 rfl).2.2; have k6:=(L.out.env.nth 1 rfl).2.1; have k7:=(L.out.env.nth 1 rfl).2.2; have s0:=(L.out.env.nth 0 rfl).1; have s1:=(L.out.env.nth 1 rfl).1; have s2:=L.out.twoA.1; have s3:=L.out.twoA.2))
   all_goals (go_wp2_with fail; go_meet)
   all_goals first | exact KeptM.both L.out | exact KeptM.both' L.out | exact KeptM.one L.out | exact KeptM.one' L.out | exact KeptM.two L.out | exact KeptM.two' L.out
 case rest =>
   obtain⟨w4,rfl⟩:∃ x:World,x=wc:=⟨_,rfl⟩
   obtain⟨i,j,rfl,rfl,hL⟩:=hcut
   clear y0 v0 y1 v1 y2 v2 y3 v3 k4 k5 k6 k7 s0 s1 s2 s3
   clear L cS cK zz
   have L:=Lib.hid hL
   clear hL
   obtain⟨k1,k2⟩:=(L.out.env.blocks (w.heap.size,#[.float .f64 al,.float .f64 ah]) (by simp)).two
   go_wp2_with fail
   refine (h1.out _).mono ?_
   rintro r vv0 ⟨rfl,hb⟩
   replace L:=Lib.hid (L.out.below hb)
   clear hb k1 k2 h1
   have f:=e1.out
   cases b1
   · simp only [cond_false] at f
     obtain⟨rfl,rfl⟩:=f
     obtain⟨k1,k2⟩:=(L.out.env.blocks (w.heap.size,#[.float .f64 al,.float .f64 ah]) (by simp)).two
     go_wp2_with fail
     refine (h2.out _).mono ?_
     rintro r vv1 ⟨rfl,hb⟩
     replace L:=Lib.hid (L.out.below hb)
     clear hb k1 k2 h2
     have f:=e2.out
     cases b2
     · simp only [cond_false] at f
       obtain⟨rfl,rfl⟩:=f
       obtain⟨k1,k2⟩:=(L.out.env.blocks (w.heap.size,#[.float .f64 al,.float .f64 ah]) (by simp)).two
       go_wp2_with fail
       refine (h3.out _).mono ?_
       rintro r vv2 ⟨rfl,hb⟩
       replace L:=Lib.hid (L.out.below hb)
       clear hb k1 k2 h3
       have f:=e3.out
       cases b3
       · simp only [cond_false] at f
         obtain⟨rfl,rfl⟩:=f
         obtain⟨a0,b0⟩:=(L.out.env.nth 0 rfl).two
         obtain⟨a1,b1⟩:=(L.out.env.nth 1 rfl).two
         have k5:=(L.out.env.blocks (w.heap.size+1,#[.float .f64 0,.float .f64 0]) (by simp)).2.1
         have k6:=(L.out.env.blocks (w.heap.size+1,#[.float .f64 0,.float .f64 0]) (by simp)).2.2
         have k7:=(L.out.env.blocks (w.heap.size+1+1,#[.float .f64 0,.float .f64 0]) (by simp)).2.1
         have k8:=(L.out.env.blocks (w.heap.size+1+1,#[.float .f64 0,.float .f64 0]) (by simp)).2.2
         have n1:w.heap.size+1≠j:=Ne.symm ((List.pairwise_cons.1 (List.pairwise_cons.1 L.out.apart).2).1 (w.heap.size+1,#[.float .f64 0,.float .f64 0]) (by simp))
         have n2:w.heap.size+1≠i:=Ne.symm ((List.pairwise_cons.1 L.out.apart).1 (w.heap.size+1,#[.float .f64 0,.float .f64 0]) (by simp))
         have n3:w.heap.size+1+1≠j:=Ne.symm ((List.pairwise_cons.1 (List.pairwise_cons.1 L.out.apart).2).1 (w.heap.size+1+1,#[.float .f64 0,.float .f64 0]) (by simp))
         have n4:w.heap.size+1+1≠i:=Ne.symm ((List.pairwise_cons.1 L.out.apart).1 (w.heap.size+1+1,#[.float .f64 0,.float .f64 0]) (by simp))
         go_upto_region 12 with fail
         go_region_held3 (fun w'=>(w'.cell? ⟨i,0,none⟩=some (.float .f64 yl)∧w'.cell? ⟨i,1,none⟩=some (.float .f64 yh))∧w'.cell? ⟨j,0,none⟩=some (.float .f64 zl)∧w'.cell? ⟨j,1,none⟩=some (.float .f64 zh)) (((try dsimp only); (repeat' apply And.intro); all_goals (repeat (first | (with_reducible assumption) | ((with_reducible refine keep_undrew ?_); (with_reducible assumption)) | (with_reducible refine keep_drew ?_) | (with_reducible refine keep_alloc _ ?_) | (with_reducible refine keep_set _ (by first | (with_reducible assumption) | omega) ?_)))))
           (fail)
         have Q1:=Lib.hid (L.out.env.sets (L.out.env.blocks (w.heap.size+1,#[.float .f64 0,.float .f64 0]) (by simp)) (.float .f64 yl) (.float .f64 yh) (by omega) [(w.heap.size+1,#[.float .f64 yl,.float .f64 yh]),(w.heap.size+1+1,#[.float .f64 0,.float .f64 0])] (by simp))
         have Q2:=Lib.hid (Q1.out.sets (Q1.out.nth 1 rfl) (.float .f64 zl) (.float .f64 zh) (by omega) [(w.heap.size+1,#[.float .f64 yl,.float .f64 yh]),(w.heap.size+1+1,#[.float .f64 zl,.float .f64 zh])] (by simp))
         go_wp2
         have Q3:=Lib.hid Q2.out.drew
         have f1:=(Q3.out.nth 0 rfl).2.1
         have g1:=(Q3.out.nth 1 rfl).2.1
         exact bodyPost_ret (v:=.tuple #[.agg #[.float .f64 yl,.float .f64 yh],.agg #[.float .f64 zl,.float .f64 zh],.int .i64 0]) (by simp [results,Tryz.results38,go_sem,f1,g1]) rfl ⟨rfl,Q3.out.base⟩
       · simp only [cond_true] at f
         obtain⟨rfl,rfl⟩:=f
         obtain⟨a0,b0⟩:=(L.out.env.nth 1 rfl).two
         go_wp2_with fail
         refine (c3.out _).mono ?_
         rintro r vw2 ⟨rfl,hb⟩
         replace L:=Lib.hid (L.out.below hb)
         clear hb a0 b0
         have k4:=(L.out.env.nth 1 rfl).2.1
         have k5:=(L.out.env.nth 1 rfl).2.2
         replace L:=Lib.hid (L.out.swap.reset (.float .f64 zl) (.float .f64 zh)).swap
         go_upto_region 12 with fail
         clear k4 k5
         obtain⟨a0,b0⟩:=(L.out.env.nth 0 rfl).two
         obtain⟨a1,b1⟩:=(L.out.env.nth 1 rfl).two
         have k5:=(L.out.env.blocks (w.heap.size+1,#[.float .f64 0,.float .f64 0]) (by simp)).2.1
         have k6:=(L.out.env.blocks (w.heap.size+1,#[.float .f64 0,.float .f64 0]) (by simp)).2.2
         have k7:=(L.out.env.blocks (w.heap.size+1+1,#[.float .f64 0,.float .f64 0]) (by simp)).2.1
         have k8:=(L.out.env.blocks (w.heap.size+1+1,#[.float .f64 0,.float .f64 0]) (by simp)).2.2
         have n1:w.heap.size+1≠j:=Ne.symm ((List.pairwise_cons.1 (List.pairwise_cons.1 L.out.apart).2).1 (w.heap.size+1,#[.float .f64 0,.float .f64 0]) (by simp))
         have n2:w.heap.size+1≠i:=Ne.symm ((List.pairwise_cons.1 L.out.apart).1 (w.heap.size+1,#[.float .f64 0,.float .f64 0]) (by simp))
         have n3:w.heap.size+1+1≠j:=Ne.symm ((List.pairwise_cons.1 (List.pairwise_cons.1 L.out.apart).2).1 (w.heap.size+1+1,#[.float .f64 0,.float .f64 0]) (by simp))
         have n4:w.heap.size+1+1≠i:=Ne.symm ((List.pairwise_cons.1 L.out.apart).1 (w.heap.size+1+1,#[.float .f64 0,.float .f64 0]) (by simp))
         go_upto_region 12 with fail
         go_region_held3 (fun w'=>(w'.cell? ⟨i,0,none⟩=some (.float .f64 yl)∧w'.cell? ⟨i,1,none⟩=some (.float .f64 yh))∧w'.cell? ⟨j,0,none⟩=some (.float .f64 zl)∧w'.cell? ⟨j,1,none⟩=some (.float .f64 zh)) (((try dsimp only); (repeat' apply And.intro); all_goals (repeat (first | (with_reducible assumption) | ((with_reducible refine keep_undrew ?_); (with_reducible assumption)) | (with_reducible refine keep_drew ?_) | (with_reducible refine keep_alloc _ ?_) | (with_reducible refine keep_set _ (by first | (with_reducible assumption) | omega) ?_)))))
           (fail)
         have Q1:=Lib.hid (L.out.env.sets (L.out.env.blocks (w.heap.size+1,#[.float .f64 0,.float .f64 0]) (by simp)) (.float .f64 yl) (.float .f64 yh) (by omega) [(w.heap.size+1,#[.float .f64 yl,.float .f64 yh]),(w.heap.size+1+1,#[.float .f64 0,.float .f64 0])] (by simp))
         have Q2:=Lib.hid (Q1.out.sets (Q1.out.nth 1 rfl) (.float .f64 zl) (.float .f64 zh) (by omega) [(w.heap.size+1,#[.float .f64 yl,.float .f64 yh]),(w.heap.size+1+1,#[.float .f64 zl,.float .f64 zh])] (by simp))
         go_wp2
         have Q3:=Lib.hid Q2.out.drew
         have f1:=(Q3.out.nth 0 rfl).2.1
         have g1:=(Q3.out.nth 1 rfl).2.1
         exact bodyPost_ret (v:=.tuple #[.agg #[.float .f64 yl,.float .f64 yh],.agg #[.float .f64 zl,.float .f64 zh],.int .i64 0]) (by simp [results,Tryz.results38,go_sem,f1,g1]) rfl ⟨rfl,Q3.out.base⟩
     · simp only [cond_true] at f
       obtain⟨rfl,rfl⟩:=f
       obtain⟨a0,b0⟩:=(L.out.env.nth 0 rfl).two
       go_wp2_with fail
       refine (c2.out _).mono ?_
       rintro r vw1 ⟨rfl,hb⟩
       replace L:=Lib.hid (L.out.below hb)
       clear hb a0 b0
       have k4:=(L.out.env.nth 0 rfl).2.1
       have k5:=(L.out.env.nth 0 rfl).2.2
       replace L:=Lib.hid (L.out.reset (.float .f64 yl) (.float .f64 yh))
       go_upto_region 10 with fail
       clear k4 k5
       obtain⟨k1,k2⟩:=(L.out.env.blocks (w.heap.size,#[.float .f64 al,.float .f64 ah]) (by simp)).two
       go_wp2_with fail
       refine (h3.out _).mono ?_
       rintro r vv2 ⟨rfl,hb⟩
       replace L:=Lib.hid (L.out.below hb)
       clear hb k1 k2 h3
       have f:=e3.out
       cases b3
       · simp only [cond_false] at f
         obtain⟨rfl,rfl⟩:=f
         obtain⟨a0,b0⟩:=(L.out.env.nth 0 rfl).two
         obtain⟨a1,b1⟩:=(L.out.env.nth 1 rfl).two
         have k5:=(L.out.env.blocks (w.heap.size+1,#[.float .f64 0,.float .f64 0]) (by simp)).2.1
         have k6:=(L.out.env.blocks (w.heap.size+1,#[.float .f64 0,.float .f64 0]) (by simp)).2.2
         have k7:=(L.out.env.blocks (w.heap.size+1+1,#[.float .f64 0,.float .f64 0]) (by simp)).2.1
         have k8:=(L.out.env.blocks (w.heap.size+1+1,#[.float .f64 0,.float .f64 0]) (by simp)).2.2
         have n1:w.heap.size+1≠j:=Ne.symm ((List.pairwise_cons.1 (List.pairwise_cons.1 L.out.apart).2).1 (w.heap.size+1,#[.float .f64 0,.float .f64 0]) (by simp))
         have n2:w.heap.size+1≠i:=Ne.symm ((List.pairwise_cons.1 L.out.apart).1 (w.heap.size+1,#[.float .f64 0,.float .f64 0]) (by simp))
         have n3:w.heap.size+1+1≠j:=Ne.symm ((List.pairwise_cons.1 (List.pairwise_cons.1 L.out.apart).2).1 (w.heap.size+1+1,#[.float .f64 0,.float .f64 0]) (by simp))
         have n4:w.heap.size+1+1≠i:=Ne.symm ((List.pairwise_cons.1 L.out.apart).1 (w.heap.size+1+1,#[.float .f64 0,.float .f64 0]) (by simp))
         go_upto_region 12 with fail
         go_region_held3 (fun w'=>(w'.cell? ⟨i,0,none⟩=some (.float .f64 yl)∧w'.cell? ⟨i,1,none⟩=some (.float .f64 yh))∧w'.cell? ⟨j,0,none⟩=some (.float .f64 zl)∧w'.cell? ⟨j,1,none⟩=some (.float .f64 zh)) (((try dsimp only); (repeat' apply And.intro); all_goals (repeat (first | (with_reducible assumption) | ((with_reducible refine keep_undrew ?_); (with_reducible assumption)) | (with_reducible refine keep_drew ?_) | (with_reducible refine keep_alloc _ ?_) | (with_reducible refine keep_set _ (by first | (with_reducible assumption) | omega) ?_)))))
           (fail)
         have Q1:=Lib.hid (L.out.env.sets (L.out.env.blocks (w.heap.size+1,#[.float .f64 0,.float .f64 0]) (by simp)) (.float .f64 yl) (.float .f64 yh) (by omega) [(w.heap.size+1,#[.float .f64 yl,.float .f64 yh]),(w.heap.size+1+1,#[.float .f64 0,.float .f64 0])] (by simp))
         have Q2:=Lib.hid (Q1.out.sets (Q1.out.nth 1 rfl) (.float .f64 zl) (.float .f64 zh) (by omega) [(w.heap.size+1,#[.float .f64 yl,.float .f64 yh]),(w.heap.size+1+1,#[.float .f64 zl,.float .f64 zh])] (by simp))
         go_wp2
         have Q3:=Lib.hid Q2.out.drew
         have f1:=(Q3.out.nth 0 rfl).2.1
         have g1:=(Q3.out.nth 1 rfl).2.1
         exact bodyPost_ret (v:=.tuple #[.agg #[.float .f64 yl,.float .f64 yh],.agg #[.float .f64 zl,.float .f64 zh],.int .i64 0]) (by simp [results,Tryz.results38,go_sem,f1,g1]) rfl ⟨rfl,Q3.out.base⟩
       · simp only [cond_true] at f
         obtain⟨rfl,rfl⟩:=f
         obtain⟨a0,b0⟩:=(L.out.env.nth 1 rfl).two
         go_wp2_with fail
         refine (c3.out _).mono ?_
         rintro r vw2 ⟨rfl,hb⟩
         replace L:=Lib.hid (L.out.below hb)
         clear hb a0 b0
         have k4:=(L.out.env.nth 1 rfl).2.1
         have k5:=(L.out.env.nth 1 rfl).2.2
         replace L:=Lib.hid (L.out.swap.reset (.float .f64 zl) (.float .f64 zh)).swap
         go_upto_region 12 with fail
         clear k4 k5
         obtain⟨a0,b0⟩:=(L.out.env.nth 0 rfl).two
         obtain⟨a1,b1⟩:=(L.out.env.nth 1 rfl).two
         have k5:=(L.out.env.blocks (w.heap.size+1,#[.float .f64 0,.float .f64 0]) (by simp)).2.1
         have k6:=(L.out.env.blocks (w.heap.size+1,#[.float .f64 0,.float .f64 0]) (by simp)).2.2
         have k7:=(L.out.env.blocks (w.heap.size+1+1,#[.float .f64 0,.float .f64 0]) (by simp)).2.1
         have k8:=(L.out.env.blocks (w.heap.size+1+1,#[.float .f64 0,.float .f64 0]) (by simp)).2.2
         have n1:w.heap.size+1≠j:=Ne.symm ((List.pairwise_cons.1 (List.pairwise_cons.1 L.out.apart).2).1 (w.heap.size+1,#[.float .f64 0,.float .f64 0]) (by simp))
         have n2:w.heap.size+1≠i:=Ne.symm ((List.pairwise_cons.1 L.out.apart).1 (w.heap.size+1,#[.float .f64 0,.float .f64 0]) (by simp))
         have n3:w.heap.size+1+1≠j:=Ne.symm ((List.pairwise_cons.1 (List.pairwise_cons.1 L.out.apart).2).1 (w.heap.size+1+1,#[.float .f64 0,.float .f64 0]) (by simp))
         have n4:w.heap.size+1+1≠i:=Ne.symm ((List.pairwise_cons.1 L.out.apart).1 (w.heap.size+1+1,#[.float .f64 0,.float .f64 0]) (by simp))
         go_upto_region 12 with fail
         go_region_held3 (fun w'=>(w'.cell? ⟨i,0,none⟩=some (.float .f64 yl)∧w'.cell? ⟨i,1,none⟩=some (.float .f64 yh))∧w'.cell? ⟨j,0,none⟩=some (.float .f64 zl)∧w'.cell? ⟨j,1,none⟩=some (.float .f64 zh)) (((try dsimp only); (repeat' apply And.intro); all_goals (repeat (first | (with_reducible assumption) | ((with_reducible refine keep_undrew ?_); (with_reducible assumption)) | (with_reducible refine keep_drew ?_) | (with_reducible refine keep_alloc _ ?_) | (with_reducible refine keep_set _ (by first | (with_reducible assumption) | omega) ?_)))))
           (fail)
         have Q1:=Lib.hid (L.out.env.sets (L.out.env.blocks (w.heap.size+1,#[.float .f64 0,.float .f64 0]) (by simp)) (.float .f64 yl) (.float .f64 yh) (by omega) [(w.heap.size+1,#[.float .f64 yl,.float .f64 yh]),(w.heap.size+1+1,#[.float .f64 0,.float .f64 0])] (by simp))
         have Q2:=Lib.hid (Q1.out.sets (Q1.out.nth 1 rfl) (.float .f64 zl) (.float .f64 zh) (by omega) [(w.heap.size+1,#[.float .f64 yl,.float .f64 yh]),(w.heap.size+1+1,#[.float .f64 zl,.float .f64 zh])] (by simp))
         go_wp2
         have Q3:=Lib.hid Q2.out.drew
         have f1:=(Q3.out.nth 0 rfl).2.1
         have g1:=(Q3.out.nth 1 rfl).2.1
         exact bodyPost_ret (v:=.tuple #[.agg #[.float .f64 yl,.float .f64 yh],.agg #[.float .f64 zl,.float .f64 zh],.int .i64 0]) (by simp [results,Tryz.results38,go_sem,f1,g1]) rfl ⟨rfl,Q3.out.base⟩
   · simp only [cond_true] at f
     obtain⟨rfl,rfl⟩:=f
     obtain⟨a0,b0⟩:=(L.out.env.nth 0 rfl).two
     go_wp2_with fail
     refine (c1.out _).mono ?_
     rintro r vw0 ⟨rfl,hb⟩
     replace L:=Lib.hid (L.out.below hb)
     clear hb a0 b0
     have k4:=(L.out.env.nth 0 rfl).2.1
     have k5:=(L.out.env.nth 0 rfl).2.2
     replace L:=Lib.hid (L.out.reset (.float .f64 xl) (.float .f64 xh))
     go_upto_region 8 with fail
     clear k4 k5
     obtain⟨k1,k2⟩:=(L.out.env.blocks (w.heap.size,#[.float .f64 al,.float .f64 ah]) (by simp)).two
     go_wp2_with fail
     refine (h2.out _).mono ?_
     rintro r vv1 ⟨rfl,hb⟩
     replace L:=Lib.hid (L.out.below hb)
     clear hb k1 k2 h2
     have f:=e2.out
     cases b2
     · simp only [cond_false] at f
       obtain⟨rfl,rfl⟩:=f
       obtain⟨k1,k2⟩:=(L.out.env.blocks (w.heap.size,#[.float .f64 al,.float .f64 ah]) (by simp)).two
       go_wp2_with fail
       refine (h3.out _).mono ?_
       rintro r vv2 ⟨rfl,hb⟩
       replace L:=Lib.hid (L.out.below hb)
       clear hb k1 k2 h3
       have f:=e3.out
       cases b3
       · simp only [cond_false] at f
         obtain⟨rfl,rfl⟩:=f
         obtain⟨a0,b0⟩:=(L.out.env.nth 0 rfl).two
         obtain⟨a1,b1⟩:=(L.out.env.nth 1 rfl).two
         have k5:=(L.out.env.blocks (w.heap.size+1,#[.float .f64 0,.float .f64 0]) (by simp)).2.1
         have k6:=(L.out.env.blocks (w.heap.size+1,#[.float .f64 0,.float .f64 0]) (by simp)).2.2
         have k7:=(L.out.env.blocks (w.heap.size+1+1,#[.float .f64 0,.float .f64 0]) (by simp)).2.1
         have k8:=(L.out.env.blocks (w.heap.size+1+1,#[.float .f64 0,.float .f64 0]) (by simp)).2.2
         have n1:w.heap.size+1≠j:=Ne.symm ((List.pairwise_cons.1 (List.pairwise_cons.1 L.out.apart).2).1 (w.heap.size+1,#[.float .f64 0,.float .f64 0]) (by simp))
         have n2:w.heap.size+1≠i:=Ne.symm ((List.pairwise_cons.1 L.out.apart).1 (w.heap.size+1,#[.float .f64 0,.float .f64 0]) (by simp))
         have n3:w.heap.size+1+1≠j:=Ne.symm ((List.pairwise_cons.1 (List.pairwise_cons.1 L.out.apart).2).1 (w.heap.size+1+1,#[.float .f64 0,.float .f64 0]) (by simp))
         have n4:w.heap.size+1+1≠i:=Ne.symm ((List.pairwise_cons.1 L.out.apart).1 (w.heap.size+1+1,#[.float .f64 0,.float .f64 0]) (by simp))
         go_upto_region 12 with fail
         go_region_held3 (fun w'=>(w'.cell? ⟨i,0,none⟩=some (.float .f64 yl)∧w'.cell? ⟨i,1,none⟩=some (.float .f64 yh))∧w'.cell? ⟨j,0,none⟩=some (.float .f64 zl)∧w'.cell? ⟨j,1,none⟩=some (.float .f64 zh)) (((try dsimp only); (repeat' apply And.intro); all_goals (repeat (first | (with_reducible assumption) | ((with_reducible refine keep_undrew ?_); (with_reducible assumption)) | (with_reducible refine keep_drew ?_) | (with_reducible refine keep_alloc _ ?_) | (with_reducible refine keep_set _ (by first | (with_reducible assumption) | omega) ?_)))))
           (fail)
         have Q1:=Lib.hid (L.out.env.sets (L.out.env.blocks (w.heap.size+1,#[.float .f64 0,.float .f64 0]) (by simp)) (.float .f64 yl) (.float .f64 yh) (by omega) [(w.heap.size+1,#[.float .f64 yl,.float .f64 yh]),(w.heap.size+1+1,#[.float .f64 0,.float .f64 0])] (by simp))
         have Q2:=Lib.hid (Q1.out.sets (Q1.out.nth 1 rfl) (.float .f64 zl) (.float .f64 zh) (by omega) [(w.heap.size+1,#[.float .f64 yl,.float .f64 yh]),(w.heap.size+1+1,#[.float .f64 zl,.float .f64 zh])] (by simp))
         go_wp2
         have Q3:=Lib.hid Q2.out.drew
         have f1:=(Q3.out.nth 0 rfl).2.1
         have g1:=(Q3.out.nth 1 rfl).2.1
         exact bodyPost_ret (v:=.tuple #[.agg #[.float .f64 yl,.float .f64 yh],.agg #[.float .f64 zl,.float .f64 zh],.int .i64 0]) (by simp [results,Tryz.results38,go_sem,f1,g1]) rfl ⟨rfl,Q3.out.base⟩
       · simp only [cond_true] at f
         obtain⟨rfl,rfl⟩:=f
         obtain⟨a0,b0⟩:=(L.out.env.nth 1 rfl).two
         go_wp2_with fail
         refine (c3.out _).mono ?_
         rintro r vw2 ⟨rfl,hb⟩
         replace L:=Lib.hid (L.out.below hb)
         clear hb a0 b0
         have k4:=(L.out.env.nth 1 rfl).2.1
         have k5:=(L.out.env.nth 1 rfl).2.2
         replace L:=Lib.hid (L.out.swap.reset (.float .f64 zl) (.float .f64 zh)).swap
         go_upto_region 12 with fail
         clear k4 k5
         obtain⟨a0,b0⟩:=(L.out.env.nth 0 rfl).two
         obtain⟨a1,b1⟩:=(L.out.env.nth 1 rfl).two
         have k5:=(L.out.env.blocks (w.heap.size+1,#[.float .f64 0,.float .f64 0]) (by simp)).2.1
         have k6:=(L.out.env.blocks (w.heap.size+1,#[.float .f64 0,.float .f64 0]) (by simp)).2.2
         have k7:=(L.out.env.blocks (w.heap.size+1+1,#[.float .f64 0,.float .f64 0]) (by simp)).2.1
         have k8:=(L.out.env.blocks (w.heap.size+1+1,#[.float .f64 0,.float .f64 0]) (by simp)).2.2
         have n1:w.heap.size+1≠j:=Ne.symm ((List.pairwise_cons.1 (List.pairwise_cons.1 L.out.apart).2).1 (w.heap.size+1,#[.float .f64 0,.float .f64 0]) (by simp))
         have n2:w.heap.size+1≠i:=Ne.symm ((List.pairwise_cons.1 L.out.apart).1 (w.heap.size+1,#[.float .f64 0,.float .f64 0]) (by simp))
         have n3:w.heap.size+1+1≠j:=Ne.symm ((List.pairwise_cons.1 (List.pairwise_cons.1 L.out.apart).2).1 (w.heap.size+1+1,#[.float .f64 0,.float .f64 0]) (by simp))
         have n4:w.heap.size+1+1≠i:=Ne.symm ((List.pairwise_cons.1 L.out.apart).1 (w.heap.size+1+1,#[.float .f64 0,.float .f64 0]) (by simp))
         go_upto_region 12 with fail
         go_region_held3 (fun w'=>(w'.cell? ⟨i,0,none⟩=some (.float .f64 yl)∧w'.cell? ⟨i,1,none⟩=some (.float .f64 yh))∧w'.cell? ⟨j,0,none⟩=some (.float .f64 zl)∧w'.cell? ⟨j,1,none⟩=some (.float .f64 zh)) (((try dsimp only); (repeat' apply And.intro); all_goals (repeat (first | (with_reducible assumption) | ((with_reducible refine keep_undrew ?_); (with_reducible assumption)) | (with_reducible refine keep_drew ?_) | (with_reducible refine keep_alloc _ ?_) | (with_reducible refine keep_set _ (by first | (with_reducible assumption) | omega) ?_)))))
           (fail)
         have Q1:=Lib.hid (L.out.env.sets (L.out.env.blocks (w.heap.size+1,#[.float .f64 0,.float .f64 0]) (by simp)) (.float .f64 yl) (.float .f64 yh) (by omega) [(w.heap.size+1,#[.float .f64 yl,.float .f64 yh]),(w.heap.size+1+1,#[.float .f64 0,.float .f64 0])] (by simp))
         have Q2:=Lib.hid (Q1.out.sets (Q1.out.nth 1 rfl) (.float .f64 zl) (.float .f64 zh) (by omega) [(w.heap.size+1,#[.float .f64 yl,.float .f64 yh]),(w.heap.size+1+1,#[.float .f64 zl,.float .f64 zh])] (by simp))
         go_wp2
         have Q3:=Lib.hid Q2.out.drew
         have f1:=(Q3.out.nth 0 rfl).2.1
         have g1:=(Q3.out.nth 1 rfl).2.1
         exact bodyPost_ret (v:=.tuple #[.agg #[.float .f64 yl,.float .f64 yh],.agg #[.float .f64 zl,.float .f64 zh],.int .i64 0]) (by simp [results,Tryz.results38,go_sem,f1,g1]) rfl ⟨rfl,Q3.out.base⟩
     · simp only [cond_true] at f
       obtain⟨rfl,rfl⟩:=f
       obtain⟨a0,b0⟩:=(L.out.env.nth 0 rfl).two
       go_wp2_with fail
       refine (c2.out _).mono ?_
       rintro r vw1 ⟨rfl,hb⟩
       replace L:=Lib.hid (L.out.below hb)
       clear hb a0 b0
       have k4:=(L.out.env.nth 0 rfl).2.1
       have k5:=(L.out.env.nth 0 rfl).2.2
       replace L:=Lib.hid (L.out.reset (.float .f64 yl) (.float .f64 yh))
       go_upto_region 10 with fail
       clear k4 k5
       obtain⟨k1,k2⟩:=(L.out.env.blocks (w.heap.size,#[.float .f64 al,.float .f64 ah]) (by simp)).two
       go_wp2_with fail
       refine (h3.out _).mono ?_
       rintro r vv2 ⟨rfl,hb⟩
       replace L:=Lib.hid (L.out.below hb)
       clear hb k1 k2 h3
       have f:=e3.out
       cases b3
       · simp only [cond_false] at f
         obtain⟨rfl,rfl⟩:=f
         obtain⟨a0,b0⟩:=(L.out.env.nth 0 rfl).two
         obtain⟨a1,b1⟩:=(L.out.env.nth 1 rfl).two
         have k5:=(L.out.env.blocks (w.heap.size+1,#[.float .f64 0,.float .f64 0]) (by simp)).2.1
         have k6:=(L.out.env.blocks (w.heap.size+1,#[.float .f64 0,.float .f64 0]) (by simp)).2.2
         have k7:=(L.out.env.blocks (w.heap.size+1+1,#[.float .f64 0,.float .f64 0]) (by simp)).2.1
         have k8:=(L.out.env.blocks (w.heap.size+1+1,#[.float .f64 0,.float .f64 0]) (by simp)).2.2
         have n1:w.heap.size+1≠j:=Ne.symm ((List.pairwise_cons.1 (List.pairwise_cons.1 L.out.apart).2).1 (w.heap.size+1,#[.float .f64 0,.float .f64 0]) (by simp))
         have n2:w.heap.size+1≠i:=Ne.symm ((List.pairwise_cons.1 L.out.apart).1 (w.heap.size+1,#[.float .f64 0,.float .f64 0]) (by simp))
         have n3:w.heap.size+1+1≠j:=Ne.symm ((List.pairwise_cons.1 (List.pairwise_cons.1 L.out.apart).2).1 (w.heap.size+1+1,#[.float .f64 0,.float .f64 0]) (by simp))
         have n4:w.heap.size+1+1≠i:=Ne.symm ((List.pairwise_cons.1 L.out.apart).1 (w.heap.size+1+1,#[.float .f64 0,.float .f64 0]) (by simp))
         go_upto_region 12 with fail
         go_region_held3 (fun w'=>(w'.cell? ⟨i,0,none⟩=some (.float .f64 yl)∧w'.cell? ⟨i,1,none⟩=some (.float .f64 yh))∧w'.cell? ⟨j,0,none⟩=some (.float .f64 zl)∧w'.cell? ⟨j,1,none⟩=some (.float .f64 zh)) (((try dsimp only); (repeat' apply And.intro); all_goals (repeat (first | (with_reducible assumption) | ((with_reducible refine keep_undrew ?_); (with_reducible assumption)) | (with_reducible refine keep_drew ?_) | (with_reducible refine keep_alloc _ ?_) | (with_reducible refine keep_set _ (by first | (with_reducible assumption) | omega) ?_)))))
           (fail)
         have Q1:=Lib.hid (L.out.env.sets (L.out.env.blocks (w.heap.size+1,#[.float .f64 0,.float .f64 0]) (by simp)) (.float .f64 yl) (.float .f64 yh) (by omega) [(w.heap.size+1,#[.float .f64 yl,.float .f64 yh]),(w.heap.size+1+1,#[.float .f64 0,.float .f64 0])] (by simp))
         have Q2:=Lib.hid (Q1.out.sets (Q1.out.nth 1 rfl) (.float .f64 zl) (.float .f64 zh) (by omega) [(w.heap.size+1,#[.float .f64 yl,.float .f64 yh]),(w.heap.size+1+1,#[.float .f64 zl,.float .f64 zh])] (by simp))
         go_wp2
         have Q3:=Lib.hid Q2.out.drew
         have f1:=(Q3.out.nth 0 rfl).2.1
         have g1:=(Q3.out.nth 1 rfl).2.1
         exact bodyPost_ret (v:=.tuple #[.agg #[.float .f64 yl,.float .f64 yh],.agg #[.float .f64 zl,.float .f64 zh],.int .i64 0]) (by simp [results,Tryz.results38,go_sem,f1,g1]) rfl ⟨rfl,Q3.out.base⟩
       · simp only [cond_true] at f
         obtain⟨rfl,rfl⟩:=f
         obtain⟨a0,b0⟩:=(L.out.env.nth 1 rfl).two
         go_wp2_with fail
         refine (c3.out _).mono ?_
         rintro r vw2 ⟨rfl,hb⟩
         replace L:=Lib.hid (L.out.below hb)
         clear hb a0 b0
         have k4:=(L.out.env.nth 1 rfl).2.1
         have k5:=(L.out.env.nth 1 rfl).2.2
         replace L:=Lib.hid (L.out.swap.reset (.float .f64 zl) (.float .f64 zh)).swap
         go_upto_region 12 with fail
         clear k4 k5
         obtain⟨a0,b0⟩:=(L.out.env.nth 0 rfl).two
         obtain⟨a1,b1⟩:=(L.out.env.nth 1 rfl).two
         have k5:=(L.out.env.blocks (w.heap.size+1,#[.float .f64 0,.float .f64 0]) (by simp)).2.1
         have k6:=(L.out.env.blocks (w.heap.size+1,#[.float .f64 0,.float .f64 0]) (by simp)).2.2
         have k7:=(L.out.env.blocks (w.heap.size+1+1,#[.float .f64 0,.float .f64 0]) (by simp)).2.1
         have k8:=(L.out.env.blocks (w.heap.size+1+1,#[.float .f64 0,.float .f64 0]) (by simp)).2.2
         have n1:w.heap.size+1≠j:=Ne.symm ((List.pairwise_cons.1 (List.pairwise_cons.1 L.out.apart).2).1 (w.heap.size+1,#[.float .f64 0,.float .f64 0]) (by simp))
         have n2:w.heap.size+1≠i:=Ne.symm ((List.pairwise_cons.1 L.out.apart).1 (w.heap.size+1,#[.float .f64 0,.float .f64 0]) (by simp))
         have n3:w.heap.size+1+1≠j:=Ne.symm ((List.pairwise_cons.1 (List.pairwise_cons.1 L.out.apart).2).1 (w.heap.size+1+1,#[.float .f64 0,.float .f64 0]) (by simp))
         have n4:w.heap.size+1+1≠i:=Ne.symm ((List.pairwise_cons.1 L.out.apart).1 (w.heap.size+1+1,#[.float .f64 0,.float .f64 0]) (by simp))
         go_upto_region 12 with fail
         go_region_held3 (fun w'=>(w'.cell? ⟨i,0,none⟩=some (.float .f64 yl)∧w'.cell? ⟨i,1,none⟩=some (.float .f64 yh))∧w'.cell? ⟨j,0,none⟩=some (.float .f64 zl)∧w'.cell? ⟨j,1,none⟩=some (.float .f64 zh)) (((try dsimp only); (repeat' apply And.intro); all_goals (repeat (first | (with_reducible assumption) | ((with_reducible refine keep_undrew ?_); (with_reducible assumption)) | (with_reducible refine keep_drew ?_) | (with_reducible refine keep_alloc _ ?_) | (with_reducible refine keep_set _ (by first | (with_reducible assumption) | omega) ?_)))))
           (fail)
         have Q1:=Lib.hid (L.out.env.sets (L.out.env.blocks (w.heap.size+1,#[.float .f64 0,.float .f64 0]) (by simp)) (.float .f64 yl) (.float .f64 yh) (by omega) [(w.heap.size+1,#[.float .f64 yl,.float .f64 yh]),(w.heap.size+1+1,#[.float .f64 0,.float .f64 0])] (by simp))
         have Q2:=Lib.hid (Q1.out.sets (Q1.out.nth 1 rfl) (.float .f64 zl) (.float .f64 zh) (by omega) [(w.heap.size+1,#[.float .f64 yl,.float .f64 yh]),(w.heap.size+1+1,#[.float .f64 zl,.float .f64 zh])] (by simp))
         go_wp2
         have Q3:=Lib.hid Q2.out.drew
         have f1:=(Q3.out.nth 0 rfl).2.1
         have g1:=(Q3.out.nth 1 rfl).2.1
         exact bodyPost_ret (v:=.tuple #[.agg #[.float .f64 yl,.float .f64 yh],.agg #[.float .f64 zl,.float .f64 zh],.int .i64 0]) (by simp [results,Tryz.results38,go_sem,f1,g1]) rfl ⟨rfl,Q3.out.base⟩
end
end Go.Proofs.YtnaomilkgfkegaaGreat
