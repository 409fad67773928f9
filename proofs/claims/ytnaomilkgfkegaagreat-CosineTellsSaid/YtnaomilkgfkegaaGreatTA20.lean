/- What the claim stands on, part 21: QTN. -/
import Derived.Test.YtnaomilkgfkegaaGreatTA17
set_option maxHeartbeats 8000000
set_option maxRecDepth 100000
namespace Go.Proofs.YtnaomilkgfkegaaGreat
section
open Go.RowKit
attribute [local go_sem] run_store_float
theorem run_store_fn (P:Program) (w:World) (a:Addr) (m:Mode) (f:Fn) (t c:Array Value):(store a (.func f t c) m).run P w=stored P w a (.func f t c) m:=run_store P w a _ m rfl
attribute [local go_sem] run_store_fn
structure EnvL (B:World) (pb:Nat) (l:List (Nat×Array Value)) (v:World):Prop where
 env:Env B pb l v
 apart:l.Pairwise fun p q=>p.1≠q.1
 low:∀ p,p∈l→B.heap.size≤p.1
section
variable {B v v':World} {pb:Nat} {l:List (Nat×Array Value)}
theorem EnvL.drew (h:EnvL B pb l v):EnvL B pb l v.drew:=⟨h.env.drew,h.apart,h.low⟩
theorem EnvL.putc (h:EnvL B pb l v) (hp:Put ⟨pb,0,none⟩ (.int .i64 0) v v'):EnvL B pb l v':=⟨h.env.putc hp,h.apart,h.low⟩
theorem EnvL.cal (h:EnvL B pb l v):Has1 v (pb,#[.int .i64 0]):=h.env.cal
theorem EnvL.made (h:EnvL B pb l v) (c:Array Value) (t:TypeId):EnvL B pb ((v.heap.size,c) :: l) (v.alloc (.cells c t)):=
 ⟨h.env.made c t,List.pairwise_cons.2 ⟨h.env.fresh.2,h.apart⟩,fun p hp=>by
   rcases List.mem_cons.1 hp with e | e
   · rw [e]; exact h.env.fresh.1
   · exact h.low p e⟩
theorem EnvL.start (h:Has1 B (pb,#[.int .i64 0])):EnvL B pb [] B:=⟨Env.start h,List.Pairwise.nil,fun p hp=>by cases hp⟩
theorem EnvL.twoA {p q:Nat×Array Value} (h:EnvL B pb (p :: q :: l) v):p.1≠q.1∧q.1≠p.1:=
 ⟨(List.pairwise_cons.1 h.apart).1 q (List.mem_cons_self ..),Ne.symm ((List.pairwise_cons.1 h.apart).1 q (List.mem_cons_self ..))⟩
theorem EnvL.swap {p q:Nat×Array Value} (h:EnvL B pb (p :: q :: l) v):EnvL B pb (q :: p :: l) v:=by
 refine ⟨h.env.sub (fun r hr=>?_),?_,fun r hr=>h.low r ?_⟩
 · simp only [List.mem_cons] at hr ⊢
   rcases hr with e | e | e <;> simp [e]
 · have h1:=List.pairwise_cons.1 h.apart
   have h2:=List.pairwise_cons.1 h1.2
   refine List.pairwise_cons.2 ⟨fun r hr=>?_,List.pairwise_cons.2 ⟨fun r hr=>h1.1 r (List.mem_cons_of_mem _ hr),h2.2⟩⟩
   rcases List.mem_cons.1 hr with e | e
   · rw [e]; exact Ne.symm (h1.1 q (List.mem_cons_self ..))
   · exact h2.1 r e
 · simp only [List.mem_cons] at hr ⊢
   rcases hr with e | e | e <;> simp [e]
theorem EnvL.reset {q:Nat} {a b:Value} (h:EnvL B pb ((q,#[a,b]) :: l) v) (x y:Value):EnvL B pb ((q,#[x,y]) :: l) ((v.setCell ⟨q,0,none⟩ x).setCell ⟨q,1,none⟩ y):=
 ⟨h.env.reset (h.low _ (List.mem_cons_self ..)) (List.pairwise_cons.1 h.apart).1 x y,List.pairwise_cons.2 ⟨(List.pairwise_cons.1 h.apart).1,(List.pairwise_cons.1 h.apart).2⟩,fun p hp=>by
   rcases List.mem_cons.1 hp with e | e
   · rw [e]; exact h.low (q,#[a,b]) (List.mem_cons_self ..)
   · exact h.low p (List.mem_cons_of_mem _ e)⟩
def KeptTwo (w:World) (pb:Nat) (l:List (Nat×Array Value)) (a b x y:Nat) (p q:Value) (wx:World):Prop:=
 ∃ i j,p = .pointer (some ⟨i,0,none⟩)∧q = .pointer (some ⟨j,0,none⟩)∧EnvL w pb ((i,#[.float .f64 a,.float .f64 b]) :: (j,#[.float .f64 x,.float .f64 y]) :: l) wx
variable {a b x y q r:Nat} {z0 z1 z2 z3:Value} {t u:TypeId}
theorem KeptTwo.both (h:EnvL B pb l v):KeptTwo B pb l a b x y (.pointer (some ⟨v.heap.size,0,none⟩)) (.pointer (some ⟨v.heap.size+1,0,none⟩)) ((v.alloc (.cells #[.float .f64 a,.float .f64 b] t)).alloc (.cells #[.float .f64 x,.float .f64 y] u)):=by
 have k:=((h.made #[.float .f64 a,.float .f64 b] t).made #[.float .f64 x,.float .f64 y] u).swap
 rw [World.size_alloc] at k
 exact ⟨_,_,rfl,rfl,k⟩
theorem KeptTwo.both' (h:EnvL B pb l v):KeptTwo B pb l a b x y (.pointer (some ⟨v.heap.size+1,0,none⟩)) (.pointer (some ⟨v.heap.size,0,none⟩)) ((v.alloc (.cells #[.float .f64 x,.float .f64 y] t)).alloc (.cells #[.float .f64 a,.float .f64 b] u)):=by
 have k:=(h.made #[.float .f64 x,.float .f64 y] t).made #[.float .f64 a,.float .f64 b] u
 rw [World.size_alloc] at k
 exact ⟨_,_,rfl,rfl,k⟩
theorem KeptTwo.one (h:EnvL B pb ((q,#[z0,z1]) :: l) v):KeptTwo B pb l a b x y (.pointer (some ⟨q,0,none⟩)) (.pointer (some ⟨v.heap.size,0,none⟩)) (((v.setCell ⟨q,0,none⟩ (.float .f64 a)).setCell ⟨q,1,none⟩ (.float .f64 b)).alloc (.cells #[.float .f64 x,.float .f64 y] u)):=by
 have k:=((h.reset (.float .f64 a) (.float .f64 b)).made #[.float .f64 x,.float .f64 y] u).swap
 rw [size_two] at k
 exact ⟨_,_,rfl,rfl,k⟩
theorem KeptTwo.one' (h:EnvL B pb ((q,#[z0,z1]) :: l) v):KeptTwo B pb l a b x y (.pointer (some ⟨v.heap.size,0,none⟩)) (.pointer (some ⟨q,0,none⟩)) (((v.setCell ⟨q,0,none⟩ (.float .f64 x)).setCell ⟨q,1,none⟩ (.float .f64 y)).alloc (.cells #[.float .f64 a,.float .f64 b] u)):=by
 have k:=(h.reset (.float .f64 x) (.float .f64 y)).made #[.float .f64 a,.float .f64 b] u
 rw [size_two] at k
 exact ⟨_,_,rfl,rfl,k⟩
theorem KeptTwo.two (h:EnvL B pb ((r,#[z2,z3]) :: (q,#[z0,z1]) :: l) v):KeptTwo B pb l a b x y (.pointer (some ⟨q,0,none⟩)) (.pointer (some ⟨r,0,none⟩)) ((((v.setCell ⟨q,0,none⟩ (.float .f64 a)).setCell ⟨q,1,none⟩ (.float .f64 b)).setCell ⟨r,0,none⟩ (.float .f64 x)).setCell ⟨r,1,none⟩ (.float .f64 y)):=
 ⟨_,_,rfl,rfl,((h.swap.reset (.float .f64 a) (.float .f64 b)).swap.reset (.float .f64 x) (.float .f64 y)).swap⟩
theorem KeptTwo.two' (h:EnvL B pb ((q,#[z0,z1]) :: (r,#[z2,z3]) :: l) v):KeptTwo B pb l a b x y (.pointer (some ⟨q,0,none⟩)) (.pointer (some ⟨r,0,none⟩)) ((((v.setCell ⟨q,0,none⟩ (.float .f64 a)).setCell ⟨q,1,none⟩ (.float .f64 b)).setCell ⟨r,0,none⟩ (.float .f64 x)).setCell ⟨r,1,none⟩ (.float .f64 y)):=
 ⟨_,_,rfl,rfl,((h.reset (.float .f64 a) (.float .f64 b)).swap.reset (.float .f64 x) (.float .f64 y)).swap⟩
end
abbrev CalcS (pb:Nat) (m:Int) (tl th rl rh:Nat):Prop:=∀ v:World,Has1 v (pb,#[.int .i64 0])→Calls Tryz.prog 110 #[.pointer (some ⟨pb,0,none⟩),.agg #[.float .f64 tl,.float .f64 th],.int .i64 m] v fun r w'=>r = .returned (.agg #[.float .f64 rl,.float .f64 rh])∧Put ⟨pb,0,none⟩ (.int .i64 0) v w'
abbrev CalcB (xl xh yl yh:Nat):Prop:=∀ w:World,Calls Tryz.prog 116 #[.agg #[.float .f64 xl,.float .f64 xh]] w fun r w'=>r = .returned (.agg #[.float .f64 yl,.float .f64 yh])∧Below w.heap.size w w'
theorem of_walk (x j tl th s0l s0h sl sh kl kh xl xh yl yh sml smh kml kmh xml xmh yml ymh al ah bl bh pb:Nat) (w:World) (hC:Has1 w (pb,#[.int .i64 0])) (hj:j≤4)
   (cJ:Hid (∀ w,Calls Tryz.prog 108 #[.float .f64 x] w fun r w'=>r = .returned (.int .i64 j)∧w=w'))
   (cA:Hid (∀ v,Has1 v (pb,#[.int .i64 0])→Calls Tryz.prog 109 #[.pointer (some ⟨pb,0,none⟩),.float .f64 x,.int .i64 j] v fun r w'=>r = .returned (.agg #[.float .f64 tl,.float .f64 th])∧Put ⟨pb,0,none⟩ (.int .i64 0) v w'))
   (c20:Hid (CalcS pb 20 tl th s0l s0h)) (cM:Hid (Calc2 32 pb tl th s0l s0h sl sh)) (c19:Hid (CalcS pb 19 tl th kl kh))
   (cNs:Hid (Calc1 113 pb sl sh xl xh)) (cNk:Hid (Calc1 113 pb kl kh yl yh))
   (bS:Hid (CalcB sl sh sml smh)) (bK:Hid (CalcB kl kh kml kmh)) (bX:Hid (CalcB xl xh xml xmh)) (bY:Hid (CalcB yl yh yml ymh))
   (hR:Hid ((j=0∨j=4)∧al=sml∧ah=smh∧bl=kml∧bh=kmh∨j=1∧al=kml∧ah=kmh∧bl=xml∧bh=xmh∨j=2∧al=xml∧ah=xmh∧bl=yml∧bh=ymh∨j=3∧al=yml∧ah=ymh∧bl=sml∧bh=smh)) :
   Calls Tryz.prog 64 #[.pointer (some ⟨pb,0,none⟩),.float .f64 x] w fun r w'=>r = .returned (.tuple #[.agg #[.float .f64 al,.float .f64 ah],.agg #[.float .f64 bl,.float .f64 bh]])∧Put ⟨pb,0,none⟩ (.int .i64 0) w w':=by
 have n1:pb≠w.heap.size:=Nat.ne_of_lt hC.1
 have E:Hid (EnvL w pb [(w.heap.size+1+1,#[.float .f64 0,.float .f64 0]),(w.heap.size+1,#[.float .f64 0,.float .f64 0]),(w.heap.size,#[.pointer (some ⟨pb,0,none⟩)])] (((w.alloc (.cells #[.pointer (some ⟨pb,0,none⟩)] 91)).alloc (.cells #[.float .f64 0,.float .f64 0] 31)).alloc (.cells #[.float .f64 0,.float .f64 0] 31))):=by
   have h:=(((EnvL.start hC).made #[.pointer (some ⟨pb,0,none⟩)] 91).made #[.float .f64 0,.float .f64 0] 31).made #[.float .f64 0,.float .f64 0] 31
   simp only [World.size_alloc] at h
   exact Lib.hid h
 have k1:=(E.out.env.nth 2 rfl).pc
 clear hC
 go_enter Tryz.func64,Tryz.ntmps64
 go_wp2_with fail
 refine (cJ.out _).mono ?_
 rintro r w1 ⟨rfl,rfl⟩
 go_wp2_with fail
 refine (cA.out _ E.out.cal).mono ?_
 rintro r w2 ⟨rfl,hp⟩
 replace E:Hid (EnvL w pb [(w2.heap.size,#[.float .f64 tl,.float .f64 th]),(w.heap.size+1+1,#[.float .f64 0,.float .f64 0]),(w.heap.size+1,#[.float .f64 0,.float .f64 0]),(w.heap.size,#[.pointer (some ⟨pb,0,none⟩)])] (w2.alloc (.cells #[.float .f64 tl,.float .f64 th] 31))):=Lib.hid ((E.out.putc hp).made #[.float .f64 tl,.float .f64 th] 31)
 clear hp k1 cJ cA
 go_upto_region 3 with fail
 revert E
 generalize w2.alloc (.cells #[.float .f64 tl,.float .f64 th] 31)=W
 intro E
 have k1:=(E.out.env.blocks (w.heap.size,#[.pointer (some ⟨pb,0,none⟩)]) (by simp)).1.pc
 obtain⟨k2,k3⟩:=(E.out.env.blocks (w2.heap.size,#[.float .f64 tl,.float .f64 th]) (by simp)).1.two
 have z1:=(E.out.env.blocks (w.heap.size,#[.pointer (some ⟨pb,0,none⟩)]) (by simp)).1.1
 have z2:=(E.out.env.blocks (w2.heap.size,#[.float .f64 tl,.float .f64 th]) (by simp)).1.1
 have k4:=(E.out.env.nth 0 rfl).2.1
 have k5:=(E.out.env.nth 0 rfl).2.2
 have k6:=(E.out.env.nth 1 rfl).2.1
 have k7:=(E.out.env.nth 1 rfl).2.2
 have y0:=(E.out.env.nth 0 rfl).1
 have y1:=(E.out.env.nth 1 rfl).1
 have y2:=E.out.twoA.1
 have y3:=E.out.twoA.2
 go_cut [8,9] (KeptTwo w pb [(w2.heap.size,#[.float .f64 tl,.float .f64 th]),(w.heap.size+1+1,#[.float .f64 0,.float .f64 0]),(w.heap.size+1,#[.float .f64 0,.float .f64 0]),(w.heap.size,#[.pointer (some ⟨pb,0,none⟩)])] sl sh kl kh)
 case first =>
   go_region_held3 (fun w'=>w'.cell? ⟨w.heap.size,0,none⟩=some (.pointer (some ⟨pb,0,none⟩))∧w'.cell? ⟨w2.heap.size,0,none⟩=some (.float .f64 tl)∧w'.cell? ⟨w2.heap.size,1,none⟩=some (.float .f64 th)) (((try dsimp only); (repeat' apply And.intro); all_goals (repeat (first | (with_reducible assumption) | ((with_reducible refine keep_undrew ?_); (with_reducible assumption)) | (with_reducible refine keep_drew ?_) | (with_reducible refine keep_alloc _ ?_) | (with_reducible refine keep_set _ (by first | (with_reducible assumption) | omega) ?_)))))
     (first
       | (go_at_call 110; (with_reducible refine (c20.out _ (E.out).cal).mono ?_); rintro rr w5 ⟨rfl,hp⟩; have E':=Lib.hid ((E.out).putc hp); clear E hp; clear k1 k2 k3 z1 z2 k4 k5 k6 k7 y0 y1 y2 y3; have E:=E'; clear E'; have k1:=(E.out.env.blocks (w.heap.size,#[.pointer (some ⟨pb,0,none⟩)]) (by simp)).1.pc; obtain⟨k2,k3⟩:=(E.out.env.blocks (w2.heap.size,#[.float .f64 tl,.float .f64 th]) (by simp)).1.two; have z1:=(E.out.env.blocks (w.heap.size,#[.pointer (some ⟨pb,0,none⟩)]) (by simp)).1.1; have z2:=(E.out.env.blocks (w2.heap.size,#[.float .f64 tl,.float .f64 th]) (by simp)).1.1; have k4:=(E.out.env.nth 0 rfl).2.1; have k5:=(E.out.env.nth 0 rfl).2.2; have k6:=(E.out.env.nth 1 rfl).2.1; have k7:=(E.out.env.nth 1 rfl).2.2; have y0:=(E.out.env.nth 0 rfl).1; have y1:=(E.out.env.nth 1 rfl).1; have y2:=E.out.twoA.1; have y3:=E.out.twoA.2)
       | (go_at_call 110; (with_reducible refine (c20.out _ (E.out.drew).cal).mono ?_); rintro rr w5 ⟨rfl,hp⟩; have E':=Lib.hid ((E.out.drew).putc hp); clear E hp; clear k1 k2 k3 z1 z2 k4 k5 k6 k7 y0 y1 y2 y3; have E:=E'; clear E'; have k1:=(E.out.env.blocks (w.heap.size,#[.pointer (some ⟨pb,0,none⟩)]) (by simp)).1.pc; obtain⟨k2,k3⟩:=(E.out.env.blocks (w2.heap.size,#[.float .f64 tl,.float .f64 th]) (by simp)).1.two; have z1:=(E.out.env.blocks (w.heap.size,#[.pointer (some ⟨pb,0,none⟩)]) (by simp)).1.1; have z2:=(E.out.env.blocks (w2.heap.size,#[.float .f64 tl,.float .f64 th]) (by simp)).1.1; have k4:=(E.out.env.nth 0 rfl).2.1; have k5:=(E.out.env.nth 0 rfl).2.2; have k6:=(E.out.env.nth 1 rfl).2.1; have k7:=(E.out.env.nth 1 rfl).2.2; have y0:=(E.out.env.nth 0 rfl).1; have y1:=(E.out.env.nth 1 rfl).1; have y2:=E.out.twoA.1; have y3:=E.out.twoA.2)
       | (go_at_call 110; (with_reducible refine (c20.out _ ((E.out.made _ _)).cal).mono ?_); rintro rr w5 ⟨rfl,hp⟩; have zp:=z1; have zq:=z2; have E':=Lib.hid (((E.out.made _ _)).putc hp); clear E hp; clear k1 k2 k3 z1 z2 k4 k5 k6 k7 y0 y1 y2 y3; have E:=E'; clear E'; have k1:=(E.out.env.blocks (w.heap.size,#[.pointer (some ⟨pb,0,none⟩)]) (by simp)).1.pc; obtain⟨k2,k3⟩:=(E.out.env.blocks (w2.heap.size,#[.float .f64 tl,.float .f64 th]) (by simp)).1.two; have z1:=(E.out.env.blocks (w.heap.size,#[.pointer (some ⟨pb,0,none⟩)]) (by simp)).1.1; have z2:=(E.out.env.blocks (w2.heap.size,#[.float .f64 tl,.float .f64 th]) (by simp)).1.1; have k4:=(E.out.env.nth 0 rfl).2.1; have k5:=(E.out.env.nth 0 rfl).2.2; have k6:=(E.out.env.nth 1 rfl).2.1; have k7:=(E.out.env.nth 1 rfl).2.2; have y0:=(E.out.env.nth 0 rfl).1; have y1:=(E.out.env.nth 1 rfl).1; have y2:=E.out.twoA.1; have y3:=E.out.twoA.2)
       | (go_at_call 110; (with_reducible refine (c20.out _ ((E.out.made _ _).drew).cal).mono ?_); rintro rr w5 ⟨rfl,hp⟩; have zp:=z1; have zq:=z2; have E':=Lib.hid (((E.out.made _ _).drew).putc hp); clear E hp; clear k1 k2 k3 z1 z2 k4 k5 k6 k7 y0 y1 y2 y3; have E:=E'; clear E'; have k1:=(E.out.env.blocks (w.heap.size,#[.pointer (some ⟨pb,0,none⟩)]) (by simp)).1.pc; obtain⟨k2,k3⟩:=(E.out.env.blocks (w2.heap.size,#[.float .f64 tl,.float .f64 th]) (by simp)).1.two; have z1:=(E.out.env.blocks (w.heap.size,#[.pointer (some ⟨pb,0,none⟩)]) (by simp)).1.1; have z2:=(E.out.env.blocks (w2.heap.size,#[.float .f64 tl,.float .f64 th]) (by simp)).1.1; have k4:=(E.out.env.nth 0 rfl).2.1; have k5:=(E.out.env.nth 0 rfl).2.2; have k6:=(E.out.env.nth 1 rfl).2.1; have k7:=(E.out.env.nth 1 rfl).2.2; have y0:=(E.out.env.nth 0 rfl).1; have y1:=(E.out.env.nth 1 rfl).1; have y2:=E.out.twoA.1; have y3:=E.out.twoA.2)
       | (go_at_call 110; (with_reducible refine (c20.out _ (((E.out.made _ _).made _ _)).cal).mono ?_); rintro rr w5 ⟨rfl,hp⟩; have zp:=z1; have zq:=z2; have E':=Lib.hid ((((E.out.made _ _).made _ _)).putc hp); (try simp only [World.size_alloc] at E' zp zq); clear E hp; clear k1 k2 k3 z1 z2 k4 k5 k6 k7 y0 y1 y2 y3; have E:=E'; clear E'; have k1:=(E.out.env.blocks (w.heap.size,#[.pointer (some ⟨pb,0,none⟩)]) (by simp)).1.pc; obtain⟨k2,k3⟩:=(E.out.env.blocks (w2.heap.size,#[.float .f64 tl,.float .f64 th]) (by simp)).1.two; have z1:=(E.out.env.blocks (w.heap.size,#[.pointer (some ⟨pb,0,none⟩)]) (by simp)).1.1; have z2:=(E.out.env.blocks (w2.heap.size,#[.float .f64 tl,.float .f64 th]) (by simp)).1.1; have k4:=(E.out.env.nth 0 rfl).2.1; have k5:=(E.out.env.nth 0 rfl).2.2; have k6:=(E.out.env.nth 1 rfl).2.1; have k7:=(E.out.env.nth 1 rfl).2.2; have y0:=(E.out.env.nth 0 rfl).1; have y1:=(E.out.env.nth 1 rfl).1; have y2:=E.out.twoA.1; have y3:=E.out.twoA.2)
       | (go_at_call 110; (with_reducible refine (c20.out _ (((E.out.made _ _).made _ _).drew).cal).mono ?_); rintro rr w5 ⟨rfl,hp⟩; have zp:=z1; have zq:=z2; have E':=Lib.hid ((((E.out.made _ _).made _ _).drew).putc hp); (try simp only [World.size_alloc] at E' zp zq); clear E hp; clear k1 k2 k3 z1 z2 k4 k5 k6 k7 y0 y1 y2 y3; have E:=E'; clear E'; have k1:=(E.out.env.blocks (w.heap.size,#[.pointer (some ⟨pb,0,none⟩)]) (by simp)).1.pc; obtain⟨k2,k3⟩:=(E.out.env.blocks (w2.heap.size,#[.float .f64 tl,.float .f64 th]) (by simp)).1.two; have z1:=(E.out.env.blocks (w.heap.size,#[.pointer (some ⟨pb,0,none⟩)]) (by simp)).1.1; have z2:=(E.out.env.blocks (w2.heap.size,#[.float .f64 tl,.float .f64 th]) (by simp)).1.1; have k4:=(E.out.env.nth 0 rfl).2.1; have k5:=(E.out.env.nth 0 rfl).2.2; have k6:=(E.out.env.nth 1 rfl).2.1; have k7:=(E.out.env.nth 1 rfl).2.2; have y0:=(E.out.env.nth 0 rfl).1; have y1:=(E.out.env.nth 1 rfl).1; have y2:=E.out.twoA.1; have y3:=E.out.twoA.2)
       | (go_at_call 32; (with_reducible refine (cM.out _ (E.out).cal).mono ?_); rintro rr w5 ⟨rfl,hp⟩; have E':=Lib.hid ((E.out).putc hp); clear E hp; clear k1 k2 k3 z1 z2 k4 k5 k6 k7 y0 y1 y2 y3; have E:=E'; clear E'; have k1:=(E.out.env.blocks (w.heap.size,#[.pointer (some ⟨pb,0,none⟩)]) (by simp)).1.pc; obtain⟨k2,k3⟩:=(E.out.env.blocks (w2.heap.size,#[.float .f64 tl,.float .f64 th]) (by simp)).1.two; have z1:=(E.out.env.blocks (w.heap.size,#[.pointer (some ⟨pb,0,none⟩)]) (by simp)).1.1; have z2:=(E.out.env.blocks (w2.heap.size,#[.float .f64 tl,.float .f64 th]) (by simp)).1.1; have k4:=(E.out.env.nth 0 rfl).2.1; have k5:=(E.out.env.nth 0 rfl).2.2; have k6:=(E.out.env.nth 1 rfl).2.1; have k7:=(E.out.env.nth 1 rfl).2.2; have y0:=(E.out.env.nth 0 rfl).1; have y1:=(E.out.env.nth 1 rfl).1; have y2:=E.out.twoA.1; have y3:=E.out.twoA.2)
       | (go_at_call 32; (with_reducible refine (cM.out _ (E.out.drew).cal).mono ?_); rintro rr w5 ⟨rfl,hp⟩; have E':=Lib.hid ((E.out.drew).putc hp); clear E hp; clear k1 k2 k3 z1 z2 k4 k5 k6 k7 y0 y1 y2 y3; have E:=E'; clear E'; have k1:=(E.out.env.blocks (w.heap.size,#[.pointer (some ⟨pb,0,none⟩)]) (by simp)).1.pc; obtain⟨k2,k3⟩:=(E.out.env.blocks (w2.heap.size,#[.float .f64 tl,.float .f64 th]) (by simp)).1.two; have z1:=(E.out.env.blocks (w.heap.size,#[.pointer (some ⟨pb,0,none⟩)]) (by simp)).1.1; have z2:=(E.out.env.blocks (w2.heap.size,#[.float .f64 tl,.float .f64 th]) (by simp)).1.1; have k4:=(E.out.env.nth 0 rfl).2.1; have k5:=(E.out.env.nth 0 rfl).2.2; have k6:=(E.out.env.nth 1 rfl).2.1; have k7:=(E.out.env.nth 1 rfl).2.2; have y0:=(E.out.env.nth 0 rfl).1; have y1:=(E.out.env.nth 1 rfl).1; have y2:=E.out.twoA.1; have y3:=E.out.twoA.2)
       | (go_at_call 32; (with_reducible refine (cM.out _ ((E.out.made _ _)).cal).mono ?_); rintro rr w5 ⟨rfl,hp⟩; have zp:=z1; have zq:=z2; have E':=Lib.hid (((E.out.made _ _)).putc hp); clear E hp; clear k1 k2 k3 z1 z2 k4 k5 k6 k7 y0 y1 y2 y3; have E:=E'; clear E'; have k1:=(E.out.env.blocks (w.heap.size,#[.pointer (some ⟨pb,0,none⟩)]) (by simp)).1.pc; obtain⟨k2,k3⟩:=(E.out.env.blocks (w2.heap.size,#[.float .f64 tl,.float .f64 th]) (by simp)).1.two; have z1:=(E.out.env.blocks (w.heap.size,#[.pointer (some ⟨pb,0,none⟩)]) (by simp)).1.1; have z2:=(E.out.env.blocks (w2.heap.size,#[.float .f64 tl,.float .f64 th]) (by simp)).1.1; have k4:=(E.out.env.nth 0 rfl).2.1; have k5:=(E.out.env.nth 0 rfl).2.2; have k6:=(E.out.env.nth 1 rfl).2.1; have k7:=(E.out.env.nth 1 rfl).2.2; have y0:=(E.out.env.nth 0 rfl).1; have y1:=(E.out.env.nth 1 rfl).1; have y2:=E.out.twoA.1; have y3:=E.out.twoA.2)
       | (go_at_call 32; (with_reducible refine (cM.out _ ((E.out.made _ _).drew).cal).mono ?_); rintro rr w5 ⟨rfl,hp⟩; have zp:=z1; have zq:=z2; have E':=Lib.hid (((E.out.made _ _).drew).putc hp); clear E hp; clear k1 k2 k3 z1 z2 k4 k5 k6 k7 y0 y1 y2 y3; have E:=E'; clear E'; have k1:=(E.out.env.blocks (w.heap.size,#[.pointer (some ⟨pb,0,none⟩)]) (by simp)).1.pc; obtain⟨k2,k3⟩:=(E.out.env.blocks (w2.heap.size,#[.float .f64 tl,.float .f64 th]) (by simp)).1.two; have z1:=(E.out.env.blocks (w.heap.size,#[.pointer (some ⟨pb,0,none⟩)]) (by simp)).1.1; have z2:=(E.out.env.blocks (w2.heap.size,#[.float .f64 tl,.float .f64 th]) (by simp)).1.1; have k4:=(E.out.env.nth 0 rfl).2.1; have k5:=(E.out.env.nth 0 rfl).2.2; have k6:=(E.out.env.nth 1 rfl).2.1; have k7:=(E.out.env.nth 1 rfl).2.2; have y0:=(E.out.env.nth 0 rfl).1; have y1:=(E.out.env.nth 1 rfl).1; have y2:=E.out.twoA.1; have y3:=E.out.twoA.2)
       | (go_at_call 32; (with_reducible refine (cM.out _ (((E.out.made _ _).made _ _)).cal).mono ?_); rintro rr w5 ⟨rfl,hp⟩; have zp:=z1; have zq:=z2; have E':=Lib.hid ((((E.out.made _ _).made _ _)).putc hp); (try simp only [World.size_alloc] at E' zp zq); clear E hp; clear k1 k2 k3 z1 z2 k4 k5 k6 k7 y0 y1 y2 y3; have E:=E'; clear E'; have k1:=(E.out.env.blocks (w.heap.size,#[.pointer (some ⟨pb,0,none⟩)]) (by simp)).1.pc; obtain⟨k2,k3⟩:=(E.out.env.blocks (w2.heap.size,#[.float .f64 tl,.float .f64 th]) (by simp)).1.two; have z1:=(E.out.env.blocks (w.heap.size,#[.pointer (some ⟨pb,0,none⟩)]) (by simp)).1.1; have z2:=(E.out.env.blocks (w2.heap.size,#[.float .f64 tl,.float .f64 th]) (by simp)).1.1; have k4:=(E.out.env.nth 0 rfl).2.1; have k5:=(E.out.env.nth 0 rfl).2.2; have k6:=(E.out.env.nth 1 rfl).2.1; have k7:=(E.out.env.nth 1 rfl).2.2; have y0:=(E.out.env.nth 0 rfl).1; have y1:=(E.out.env.nth 1 rfl).1; have y2:=E.out.twoA.1; have y3:=E.out.twoA.2)
       | (go_at_call 32; (with_reducible refine (cM.out _ (((E.out.made _ _).made _ _).drew).cal).mono ?_); rintro rr w5 ⟨rfl,hp⟩; have zp:=z1; have zq:=z2; have E':=Lib.hid ((((E.out.made _ _).made _ _).drew).putc hp); (try simp only [World.size_alloc] at E' zp zq); clear E hp; clear k1 k2 k3 z1 z2 k4 k5 k6 k7 y0 y1 y2 y3; have E:=E'; clear E'; have k1:=(E.out.env.blocks (w.heap.size,#[.pointer (some ⟨pb,0,none⟩)]) (by simp)).1.pc; obtain⟨k2,k3⟩:=(E.out.env.blocks (w2.heap.size,#[.float .f64 tl,.float .f64 th]) (by simp)).1.two; have z1:=(E.out.env.blocks (w.heap.size,#[.pointer (some ⟨pb,0,none⟩)]) (by simp)).1.1; have z2:=(E.out.env.blocks (w2.heap.size,#[.float .f64 tl,.float .f64 th]) (by simp)).1.1; have k4:=(E.out.env.nth 0 rfl).2.1; have k5:=(E.out.env.nth 0 rfl).2.2; have k6:=(E.out.env.nth 1 rfl).2.1; have k7:=(E.out.env.nth 1 rfl).2.2; have y0:=(E.out.env.nth 0 rfl).1; have y1:=(E.out.env.nth 1 rfl).1; have y2:=E.out.twoA.1; have y3:=E.out.twoA.2)
       | (go_at_call 110; (with_reducible refine (c19.out _ (E.out).cal).mono ?_); rintro rr w5 ⟨rfl,hp⟩; have E':=Lib.hid ((E.out).putc hp); clear E hp; clear k1 k2 k3 z1 z2 k4 k5 k6 k7 y0 y1 y2 y3; have E:=E'; clear E'; have k1:=(E.out.env.blocks (w.heap.size,#[.pointer (some ⟨pb,0,none⟩)]) (by simp)).1.pc; obtain⟨k2,k3⟩:=(E.out.env.blocks (w2.heap.size,#[.float .f64 tl,.float .f64 th]) (by simp)).1.two; have z1:=(E.out.env.blocks (w.heap.size,#[.pointer (some ⟨pb,0,none⟩)]) (by simp)).1.1; have z2:=(E.out.env.blocks (w2.heap.size,#[.float .f64 tl,.float .f64 th]) (by simp)).1.1; have k4:=(E.out.env.nth 0 rfl).2.1; have k5:=(E.out.env.nth 0 rfl).2.2; have k6:=(E.out.env.nth 1 rfl).2.1; have k7:=(E.out.env.nth 1 rfl).2.2; have y0:=(E.out.env.nth 0 rfl).1; have y1:=(E.out.env.nth 1 rfl).1; have y2:=E.out.twoA.1; have y3:=E.out.twoA.2)
       | (go_at_call 110; (with_reducible refine (c19.out _ (E.out.drew).cal).mono ?_); rintro rr w5 ⟨rfl,hp⟩; have E':=Lib.hid ((E.out.drew).putc hp); clear E hp; clear k1 k2 k3 z1 z2 k4 k5 k6 k7 y0 y1 y2 y3; have E:=E'; clear E'; have k1:=(E.out.env.blocks (w.heap.size,#[.pointer (some ⟨pb,0,none⟩)]) (by simp)).1.pc; obtain⟨k2,k3⟩:=(E.out.env.blocks (w2.heap.size,#[.float .f64 tl,.float .f64 th]) (by simp)).1.two; have z1:=(E.out.env.blocks (w.heap.size,#[.pointer (some ⟨pb,0,none⟩)]) (by simp)).1.1; have z2:=(E.out.env.blocks (w2.heap.size,#[.float .f64 tl,.float .f64 th]) (by simp)).1.1; have k4:=(E.out.env.nth 0 rfl).2.1; have k5:=(E.out.env.nth 0 rfl).2.2; have k6:=(E.out.env.nth 1 rfl).2.1; have k7:=(E.out.env.nth 1 rfl).2.2; have y0:=(E.out.env.nth 0 rfl).1; have y1:=(E.out.env.nth 1 rfl).1; have y2:=E.out.twoA.1; have y3:=E.out.twoA.2)
       | (go_at_call 110; (with_reducible refine (c19.out _ ((E.out.made _ _)).cal).mono ?_); rintro rr w5 ⟨rfl,hp⟩; have zp:=z1; have zq:=z2; have E':=Lib.hid (((E.out.made _ _)).putc hp); clear E hp; clear k1 k2 k3 z1 z2 k4 k5 k6 k7 y0 y1 y2 y3; have E:=E'; clear E'; have k1:=(E.out.env.blocks (w.heap.size,#[.pointer (some ⟨pb,0,none⟩)]) (by simp)).1.pc; obtain⟨k2,k3⟩:=(E.out.env.blocks (w2.heap.size,#[.float .f64 tl,.float .f64 th]) (by simp)).1.two; have z1:=(E.out.env.blocks (w.heap.size,#[.pointer (some ⟨pb,0,none⟩)]) (by simp)).1.1; have z2:=(E.out.env.blocks (w2.heap.size,#[.float .f64 tl,.float .f64 th]) (by simp)).1.1; have k4:=(E.out.env.nth 0 rfl).2.1; have k5:=(E.out.env.nth 0 rfl).2.2; have k6:=(E.out.env.nth 1 rfl).2.1; have k7:=(E.out.env.nth 1 rfl).2.2; have y0:=(E.out.env.nth 0 rfl).1; have y1:=(E.out.env.nth 1 rfl).1; have y2:=E.out.twoA.1; have y3:=E.out.twoA.2)
       | (go_at_call 110; (with_reducible refine (c19.out _ ((E.out.made _ _).drew).cal).mono ?_); rintro rr w5 ⟨rfl,hp⟩; have zp:=z1; have zq:=z2; have E':=Lib.hid (((E.out.made _ _).drew).putc hp); clear E hp; clear k1 k2 k3 z1 z2 k4 k5 k6 k7 y0 y1 y2 y3; have E:=E'; clear E'; have k1:=(E.out.env.blocks (w.heap.size,#[.pointer (some ⟨pb,0,none⟩)]) (by simp)).1.pc; obtain⟨k2,k3⟩:=(E.out.env.blocks (w2.heap.size,#[.float .f64 tl,.float .f64 th]) (by simp)).1.two; have z1:=(E.out.env.blocks (w.heap.size,#[.pointer (some ⟨pb,0,none⟩)]) (by simp)).1.1; have z2:=(E.out.env.blocks (w2.heap.size,#[.float .f64 tl,.float .f64 th]) (by simp)).1.1; have k4:=(E.out.env.nth 0 rfl).2.1; have k5:=(E.out.env.nth 0 rfl).2.2; have k6:=(E.out.env.nth 1 rfl).2.1; have k7:=(E.out.env.nth 1 rfl).2.2; have y0:=(E.out.env.nth 0 rfl).1; have y1:=(E.out.env.nth 1 rfl).1; have y2:=E.out.twoA.1; have y3:=E.out.twoA.2)
       | (go_at_call 110; (with_reducible refine (c19.out _ (((E.out.made _ _).made _ _)).cal).mono ?_); rintro rr w5 ⟨rfl,hp⟩; have zp:=z1; have zq:=z2; have E':=Lib.hid ((((E.out.made _ _).made _ _)).putc hp); (try simp only [World.size_alloc] at E' zp zq); clear E hp; clear k1 k2 k3 z1 z2 k4 k5 k6 k7 y0 y1 y2 y3; have E:=E'; clear E'; have k1:=(E.out.env.blocks (w.heap.size,#[.pointer (some ⟨pb,0,none⟩)]) (by simp)).1.pc; obtain⟨k2,k3⟩:=(E.out.env.blocks (w2.heap.size,#[.float .f64 tl,.float .f64 th]) (by simp)).1.two; have z1:=(E.out.env.blocks (w.heap.size,#[.pointer (some ⟨pb,0,none⟩)]) (by simp)).1.1; have z2:=(E.out.env.blocks (w2.heap.size,#[.float .f64 tl,.float .f64 th]) (by simp)).1.1; have k4:=(E.out.env.nth 0 rfl).2.1; have k5:=(E.out.env.nth 0 rfl).2.2; have k6:=(E.out.env.nth 1 rfl).2.1; have k7:=(E.out.env.nth 1 rfl).2.2; have y0:=(E.out.env.nth 0 rfl).1; have y1:=(E.out.env.nth 1 rfl).1; have y2:=E.out.twoA.1; have y3:=E.out.twoA.2)
       | (go_at_call 110; (with_reducible refine (c19.out _ (((E.out.made _ _).made _ _).drew).cal).mono ?_); rintro rr w5 ⟨rfl,hp⟩; have zp:=z1; have zq:=z2; have E':=Lib.hid ((((E.out.made _ _).made _ _).drew).putc hp); (try simp only [World.size_alloc] at E' zp zq); clear E hp; clear k1 k2 k3 z1 z2 k4 k5 k6 k7 y0 y1 y2 y3; have E:=E'; clear E'; have k1:=(E.out.env.blocks (w.heap.size,#[.pointer (some ⟨pb,0,none⟩)]) (by simp)).1.pc; obtain⟨k2,k3⟩:=(E.out.env.blocks (w2.heap.size,#[.float .f64 tl,.float .f64 th]) (by simp)).1.two; have z1:=(E.out.env.blocks (w.heap.size,#[.pointer (some ⟨pb,0,none⟩)]) (by simp)).1.1; have z2:=(E.out.env.blocks (w2.heap.size,#[.float .f64 tl,.float .f64 th]) (by simp)).1.1; have k4:=(E.out.env.nth 0 rfl).2.1; have k5:=(E.out.env.nth 0 rfl).2.2; have k6:=(E.out.env.nth 1 rfl).2.1; have k7:=(E.out.env.nth 1 rfl).2.2; have y0:=(E.out.env.nth 0 rfl).1; have y1:=(E.out.env.nth 1 rfl).1; have y2:=E.out.twoA.1; have y3:=E.out.twoA.2))
   all_goals (go_wp2_with fail; go_meet)
   all_goals first | exact KeptTwo.both E.out | exact KeptTwo.both' E.out | exact KeptTwo.one E.out | exact KeptTwo.one' E.out | exact KeptTwo.two E.out | exact KeptTwo.two' E.out
 case rest =>
   obtain⟨w3,rfl⟩:∃ x:World,x=wc:=⟨_,rfl⟩
   obtain⟨sp,kp,rfl,rfl,hE⟩:=hcut
   clear k1 k2 k3 z1 z2 k4 k5 k6 k7 y0 y1 y2 y3
   clear E
   have E:=Lib.hid hE
   clear hE c20 cM c19
   have np:pb≠sp:=(E.out.env.blocks (sp,#[.float .f64 sl,.float .f64 sh]) (by simp)).2
   have nk:pb≠kp:=(E.out.env.blocks (kp,#[.float .f64 kl,.float .f64 kh]) (by simp)).2
   go_upto_region 5 with fail
   replace E:Hid (EnvL w pb [(w3.heap.size,#[.func (.func 111) #[] #[.pointer (some ⟨sp,0,none⟩),.pointer (some ⟨kp,0,none⟩)],.func (.func 112) #[] #[.pointer (some ⟨kp,0,none⟩),.pointer (some ⟨w.heap.size,0,none⟩),.pointer (some ⟨sp,0,none⟩)],.func (.func 114) #[] #[.pointer (some ⟨w.heap.size,0,none⟩),.pointer (some ⟨sp,0,none⟩),.pointer (some ⟨kp,0,none⟩)],.func (.func 115) #[] #[.pointer (some ⟨w.heap.size,0,none⟩),.pointer (some ⟨kp,0,none⟩),.pointer (some ⟨sp,0,none⟩)]]),(sp,#[.float .f64 sl,.float .f64 sh]),(kp,#[.float .f64 kl,.float .f64 kh]),(w2.heap.size,#[.float .f64 tl,.float .f64 th]),(w.heap.size+1+1,#[.float .f64 0,.float .f64 0]),(w.heap.size+1,#[.float .f64 0,.float .f64 0]),(w.heap.size,#[.pointer (some ⟨pb,0,none⟩)])] (w3.alloc (.cells #[.func (.func 111) #[] #[.pointer (some ⟨sp,0,none⟩),.pointer (some ⟨kp,0,none⟩)],.func (.func 112) #[] #[.pointer (some ⟨kp,0,none⟩),.pointer (some ⟨w.heap.size,0,none⟩),.pointer (some ⟨sp,0,none⟩)],.func (.func 114) #[] #[.pointer (some ⟨w.heap.size,0,none⟩),.pointer (some ⟨sp,0,none⟩),.pointer (some ⟨kp,0,none⟩)],.func (.func 115) #[] #[.pointer (some ⟨w.heap.size,0,none⟩),.pointer (some ⟨kp,0,none⟩),.pointer (some ⟨sp,0,none⟩)]] 142))):=Lib.hid (E.out.made #[.func (.func 111) #[] #[.pointer (some ⟨sp,0,none⟩),.pointer (some ⟨kp,0,none⟩)],.func (.func 112) #[] #[.pointer (some ⟨kp,0,none⟩),.pointer (some ⟨w.heap.size,0,none⟩),.pointer (some ⟨sp,0,none⟩)],.func (.func 114) #[] #[.pointer (some ⟨w.heap.size,0,none⟩),.pointer (some ⟨sp,0,none⟩),.pointer (some ⟨kp,0,none⟩)],.func (.func 115) #[] #[.pointer (some ⟨w.heap.size,0,none⟩),.pointer (some ⟨kp,0,none⟩),.pointer (some ⟨sp,0,none⟩)]] 142)
   rcases hR.out with ⟨hj',rfl,rfl,rfl,rfl⟩ | ⟨rfl,rfl,rfl,rfl,rfl⟩ | ⟨rfl,rfl,rfl,rfl,rfl⟩ | ⟨rfl,rfl,rfl,rfl,rfl⟩
   · clear hR
     rcases hj' with rfl | rfl
     · clear hj
       have ca:=(E.out.env.nth 0 rfl).2.1
       go_wp2_with fail
       clear ca
       ((with_reducible refine (lit1 sl sh kl kh pb w.heap.size sp kp _ E.out.cal (E.out.env.blocks (w.heap.size,#[.pointer (some ⟨pb,0,none⟩)]) (by simp)).1 (E.out.env.blocks (sp,#[.float .f64 sl,.float .f64 sh]) (by simp)).1 (E.out.env.blocks (kp,#[.float .f64 kl,.float .f64 kh]) (by simp)).1 n1 np nk).mono ?_); rintro rr w6 ⟨rfl,hp⟩; replace E:=Lib.hid (E.out.putc hp); clear hp)
       have q1:=(E.out.env.blocks (w.heap.size+1,#[.float .f64 0,.float .f64 0]) (by simp)).1.2.1
       have q2:=(E.out.env.blocks (w.heap.size+1,#[.float .f64 0,.float .f64 0]) (by simp)).1.2.2
       have q3:=(E.out.env.blocks (w.heap.size+1+1,#[.float .f64 0,.float .f64 0]) (by simp)).1.2.1
       have q4:=(E.out.env.blocks (w.heap.size+1+1,#[.float .f64 0,.float .f64 0]) (by simp)).1.2.2
       have E2:=Lib.hid (E.out.env.set2 (E.out.env.blocks (w.heap.size+1,#[.float .f64 0,.float .f64 0]) (by simp)).1 (E.out.env.blocks (w.heap.size+1,#[.float .f64 0,.float .f64 0]) (by simp)).2 (by omega) (.float .f64 sl) (.float .f64 sh) [(w.heap.size+1,#[.float .f64 sl,.float .f64 sh]),(w.heap.size+1+1,#[.float .f64 0,.float .f64 0])] (by simp))
       clear E
       have E:=Lib.hid (E2.out.set2 (E2.out.nth 1 rfl) (E2.out.ne 1 rfl) (by omega) (.float .f64 kl) (.float .f64 kh) [(w.heap.size+1,#[.float .f64 sl,.float .f64 sh]),(w.heap.size+1+1,#[.float .f64 kl,.float .f64 kh])] (by simp))
       clear E2
       go_upto_region 6 with fail
       clear q1 q2 q3 q4
       replace E:=Lib.hid E.out.drew
       obtain⟨k1,k2⟩:=(E.out.nth 0 rfl).two
       obtain⟨k3,k4⟩:=(E.out.nth 1 rfl).two
       refine wp_region_noPanic ?_
       refine tails_region (S:=fun w'=>w'.cell? ⟨w.heap.size+1,0,none⟩=some (.float .f64 sl)∧w'.cell? ⟨w.heap.size+1,1,none⟩=some (.float .f64 sh)∧w'.cell? ⟨w.heap.size+1+1,0,none⟩=some (.float .f64 kl)∧w'.cell? ⟨w.heap.size+1+1,1,none⟩=some (.float .f64 kh)) [4,5] (by kernel_rfl) ?_ (fun hS=>?_)
       · exact ⟨k1,k2,k3,k4⟩
       refine tails_take (T:=[4,5]) (i:=0) (o:=_) (x:=?_) rfl (by kernel_rfl) (by kernel_rfl) (by kernel_rfl) (by kernel_rfl) (fun _ _ _ h=>h) (Or.inl ⟨by rfl,?_⟩) (by assumption) ?_
       rotate_left; focus (intro w hSw; (try dsimp only at hSw); go_simp; first | done | with_reducible rfl)
       refine tails_take (T:=[4,5]) (i:=2) (o:=_) (x:=?_) rfl (by kernel_rfl) (by kernel_rfl) (by kernel_rfl) (by kernel_rfl) (fun _ _ _ h=>h) (Or.inl ⟨by rfl,?_⟩) (by assumption) ?_
       rotate_left; focus (intro w hSw; (try dsimp only at hSw); go_simp; first | done | with_reducible rfl)
       refine tails_one (T:=[4,5]) (i:=1) (o:=_) rfl (by kernel_rfl) (fun K hK=>?_)
       go_simp
       ((with_reducible refine (bS.out _).mono ?_); rintro rr w7 ⟨rfl,hb⟩; replace E:=Lib.hid (E.out.below hb); clear hb k1 k2 k3 k4; obtain⟨k1,k2⟩:=(E.out.nth 0 rfl).two; obtain⟨k3,k4⟩:=(E.out.nth 1 rfl).two)
       try go_wp2_with fail
       refine hK.out _ _ (Or.inr ⟨k1,k2,k3,k4⟩) (fun hHeld=>?_)
       clear hK K hS
       have hS:=hHeld.resolve_left (by decide)
       clear hHeld
       refine tails_one (T:=[4,5]) (i:=3) (o:=_) rfl (by kernel_rfl) (fun K hK=>?_)
       go_simp
       ((with_reducible refine (bK.out _).mono ?_); rintro rr w7 ⟨rfl,hb⟩; replace E:=Lib.hid (E.out.below hb); clear hb k1 k2 k3 k4; obtain⟨k1,k2⟩:=(E.out.nth 0 rfl).two; obtain⟨k3,k4⟩:=(E.out.nth 1 rfl).two)
       try go_wp2_with fail
       refine hK.out _ _ (Or.inr ⟨k1,k2,k3,k4⟩) (fun hHeld=>?_)
       clear hK K hS
       have hS:=hHeld.resolve_left (by decide)
       clear hHeld
       clear k1 k2 k3 k4 hS
       refine tails_one (T:=[4,5]) (i:=4) (o:=_) rfl (by kernel_rfl) (fun K hK=>?_)
       have kc:=(E.out.nth 0 rfl).2.1
       have kf:=(E.out.nth 0 rfl).2.2
       replace E:=Lib.hid (E.out.set2 (E.out.nth 0 rfl) (E.out.ne 0 rfl) (by omega) (.float .f64 al) (.float .f64 ah) [(w.heap.size+1,#[.float .f64 al,.float .f64 ah]),(w.heap.size+1+1,#[.float .f64 kl,.float .f64 kh])] (by simp))
       go_simp
       refine hK.out _ _ (Or.inl (by decide)) (fun hHeld=>?_)
       clear hK K hHeld kc kf
       refine tails_one (T:=[4,5]) (i:=5) (o:=_) rfl (by kernel_rfl) (fun K hK=>?_)
       have kc:=(E.out.nth 1 rfl).2.1
       have kf:=(E.out.nth 1 rfl).2.2
       replace E:=Lib.hid (E.out.set2 (E.out.nth 1 rfl) (E.out.ne 1 rfl) (by omega) (.float .f64 bl) (.float .f64 bh) [(w.heap.size+1,#[.float .f64 al,.float .f64 ah]),(w.heap.size+1+1,#[.float .f64 bl,.float .f64 bh])] (by simp))
       go_simp
       refine hK.out _ _ (Or.inl (by decide)) (fun hHeld=>?_)
       clear hK K hHeld kc kf
       refine tails_done (by kernel_rfl) ?_ _
       refine NoPanic.normal ?_
       go_wp2
       have f1:=(E.out.nth 0 rfl).2.1
       have g1:=(E.out.nth 1 rfl).2.1
       exact bodyPost_ret (v:=.tuple #[.agg #[.float .f64 al,.float .f64 ah],.agg #[.float .f64 bl,.float .f64 bh]]) (by simp [results,Tryz.results64,go_sem,f1,g1]) rfl ⟨rfl,E.out.put⟩
     · clear hj
       have ca:=(E.out.env.nth 0 rfl).2.1
       go_wp2_with fail
       clear ca
       ((with_reducible refine (lit1 sl sh kl kh pb w.heap.size sp kp _ E.out.cal (E.out.env.blocks (w.heap.size,#[.pointer (some ⟨pb,0,none⟩)]) (by simp)).1 (E.out.env.blocks (sp,#[.float .f64 sl,.float .f64 sh]) (by simp)).1 (E.out.env.blocks (kp,#[.float .f64 kl,.float .f64 kh]) (by simp)).1 n1 np nk).mono ?_); rintro rr w6 ⟨rfl,hp⟩; replace E:=Lib.hid (E.out.putc hp); clear hp)
       have q1:=(E.out.env.blocks (w.heap.size+1,#[.float .f64 0,.float .f64 0]) (by simp)).1.2.1
       have q2:=(E.out.env.blocks (w.heap.size+1,#[.float .f64 0,.float .f64 0]) (by simp)).1.2.2
       have q3:=(E.out.env.blocks (w.heap.size+1+1,#[.float .f64 0,.float .f64 0]) (by simp)).1.2.1
       have q4:=(E.out.env.blocks (w.heap.size+1+1,#[.float .f64 0,.float .f64 0]) (by simp)).1.2.2
       have E2:=Lib.hid (E.out.env.set2 (E.out.env.blocks (w.heap.size+1,#[.float .f64 0,.float .f64 0]) (by simp)).1 (E.out.env.blocks (w.heap.size+1,#[.float .f64 0,.float .f64 0]) (by simp)).2 (by omega) (.float .f64 sl) (.float .f64 sh) [(w.heap.size+1,#[.float .f64 sl,.float .f64 sh]),(w.heap.size+1+1,#[.float .f64 0,.float .f64 0])] (by simp))
       clear E
       have E:=Lib.hid (E2.out.set2 (E2.out.nth 1 rfl) (E2.out.ne 1 rfl) (by omega) (.float .f64 kl) (.float .f64 kh) [(w.heap.size+1,#[.float .f64 sl,.float .f64 sh]),(w.heap.size+1+1,#[.float .f64 kl,.float .f64 kh])] (by simp))
       clear E2
       go_upto_region 6 with fail
       clear q1 q2 q3 q4
       replace E:=Lib.hid E.out.drew
       obtain⟨k1,k2⟩:=(E.out.nth 0 rfl).two
       obtain⟨k3,k4⟩:=(E.out.nth 1 rfl).two
       refine wp_region_noPanic ?_
       refine tails_region (S:=fun w'=>w'.cell? ⟨w.heap.size+1,0,none⟩=some (.float .f64 sl)∧w'.cell? ⟨w.heap.size+1,1,none⟩=some (.float .f64 sh)∧w'.cell? ⟨w.heap.size+1+1,0,none⟩=some (.float .f64 kl)∧w'.cell? ⟨w.heap.size+1+1,1,none⟩=some (.float .f64 kh)) [4,5] (by kernel_rfl) ?_ (fun hS=>?_)
       · exact ⟨k1,k2,k3,k4⟩
       refine tails_take (T:=[4,5]) (i:=0) (o:=_) (x:=?_) rfl (by kernel_rfl) (by kernel_rfl) (by kernel_rfl) (by kernel_rfl) (fun _ _ _ h=>h) (Or.inl ⟨by rfl,?_⟩) (by assumption) ?_
       rotate_left; focus (intro w hSw; (try dsimp only at hSw); go_simp; first | done | with_reducible rfl)
       refine tails_take (T:=[4,5]) (i:=2) (o:=_) (x:=?_) rfl (by kernel_rfl) (by kernel_rfl) (by kernel_rfl) (by kernel_rfl) (fun _ _ _ h=>h) (Or.inl ⟨by rfl,?_⟩) (by assumption) ?_
       rotate_left; focus (intro w hSw; (try dsimp only at hSw); go_simp; first | done | with_reducible rfl)
       refine tails_one (T:=[4,5]) (i:=1) (o:=_) rfl (by kernel_rfl) (fun K hK=>?_)
       go_simp
       ((with_reducible refine (bS.out _).mono ?_); rintro rr w7 ⟨rfl,hb⟩; replace E:=Lib.hid (E.out.below hb); clear hb k1 k2 k3 k4; obtain⟨k1,k2⟩:=(E.out.nth 0 rfl).two; obtain⟨k3,k4⟩:=(E.out.nth 1 rfl).two)
       try go_wp2_with fail
       refine hK.out _ _ (Or.inr ⟨k1,k2,k3,k4⟩) (fun hHeld=>?_)
       clear hK K hS
       have hS:=hHeld.resolve_left (by decide)
       clear hHeld
       refine tails_one (T:=[4,5]) (i:=3) (o:=_) rfl (by kernel_rfl) (fun K hK=>?_)
       go_simp
       ((with_reducible refine (bK.out _).mono ?_); rintro rr w7 ⟨rfl,hb⟩; replace E:=Lib.hid (E.out.below hb); clear hb k1 k2 k3 k4; obtain⟨k1,k2⟩:=(E.out.nth 0 rfl).two; obtain⟨k3,k4⟩:=(E.out.nth 1 rfl).two)
       try go_wp2_with fail
       refine hK.out _ _ (Or.inr ⟨k1,k2,k3,k4⟩) (fun hHeld=>?_)
       clear hK K hS
       have hS:=hHeld.resolve_left (by decide)
       clear hHeld
       clear k1 k2 k3 k4 hS
       refine tails_one (T:=[4,5]) (i:=4) (o:=_) rfl (by kernel_rfl) (fun K hK=>?_)
       have kc:=(E.out.nth 0 rfl).2.1
       have kf:=(E.out.nth 0 rfl).2.2
       replace E:=Lib.hid (E.out.set2 (E.out.nth 0 rfl) (E.out.ne 0 rfl) (by omega) (.float .f64 al) (.float .f64 ah) [(w.heap.size+1,#[.float .f64 al,.float .f64 ah]),(w.heap.size+1+1,#[.float .f64 kl,.float .f64 kh])] (by simp))
       go_simp
       refine hK.out _ _ (Or.inl (by decide)) (fun hHeld=>?_)
       clear hK K hHeld kc kf
       refine tails_one (T:=[4,5]) (i:=5) (o:=_) rfl (by kernel_rfl) (fun K hK=>?_)
       have kc:=(E.out.nth 1 rfl).2.1
       have kf:=(E.out.nth 1 rfl).2.2
       replace E:=Lib.hid (E.out.set2 (E.out.nth 1 rfl) (E.out.ne 1 rfl) (by omega) (.float .f64 bl) (.float .f64 bh) [(w.heap.size+1,#[.float .f64 al,.float .f64 ah]),(w.heap.size+1+1,#[.float .f64 bl,.float .f64 bh])] (by simp))
       go_simp
       refine hK.out _ _ (Or.inl (by decide)) (fun hHeld=>?_)
       clear hK K hHeld kc kf
       refine tails_done (by kernel_rfl) ?_ _
       refine NoPanic.normal ?_
       go_wp2
       have f1:=(E.out.nth 0 rfl).2.1
       have g1:=(E.out.nth 1 rfl).2.1
       exact bodyPost_ret (v:=.tuple #[.agg #[.float .f64 al,.float .f64 ah],.agg #[.float .f64 bl,.float .f64 bh]]) (by simp [results,Tryz.results64,go_sem,f1,g1]) rfl ⟨rfl,E.out.put⟩
   · clear hR hj
     have ca:=(E.out.env.nth 0 rfl).2.1
     go_wp2_with fail
     clear ca
     ((with_reducible refine (lit2 sl sh kl kh xl xh pb w.heap.size sp kp _ E.out.cal (E.out.env.blocks (w.heap.size,#[.pointer (some ⟨pb,0,none⟩)]) (by simp)).1 (E.out.env.blocks (sp,#[.float .f64 sl,.float .f64 sh]) (by simp)).1 (E.out.env.blocks (kp,#[.float .f64 kl,.float .f64 kh]) (by simp)).1 n1 np nk cNs).mono ?_); rintro rr w6 ⟨rfl,hp⟩; replace E:=Lib.hid (E.out.putc hp); clear hp)
     have q1:=(E.out.env.blocks (w.heap.size+1,#[.float .f64 0,.float .f64 0]) (by simp)).1.2.1
     have q2:=(E.out.env.blocks (w.heap.size+1,#[.float .f64 0,.float .f64 0]) (by simp)).1.2.2
     have q3:=(E.out.env.blocks (w.heap.size+1+1,#[.float .f64 0,.float .f64 0]) (by simp)).1.2.1
     have q4:=(E.out.env.blocks (w.heap.size+1+1,#[.float .f64 0,.float .f64 0]) (by simp)).1.2.2
     have E2:=Lib.hid (E.out.env.set2 (E.out.env.blocks (w.heap.size+1,#[.float .f64 0,.float .f64 0]) (by simp)).1 (E.out.env.blocks (w.heap.size+1,#[.float .f64 0,.float .f64 0]) (by simp)).2 (by omega) (.float .f64 kl) (.float .f64 kh) [(w.heap.size+1,#[.float .f64 kl,.float .f64 kh]),(w.heap.size+1+1,#[.float .f64 0,.float .f64 0])] (by simp))
     clear E
     have E:=Lib.hid (E2.out.set2 (E2.out.nth 1 rfl) (E2.out.ne 1 rfl) (by omega) (.float .f64 xl) (.float .f64 xh) [(w.heap.size+1,#[.float .f64 kl,.float .f64 kh]),(w.heap.size+1+1,#[.float .f64 xl,.float .f64 xh])] (by simp))
     clear E2
     go_upto_region 6 with fail
     clear q1 q2 q3 q4
     replace E:=Lib.hid E.out.drew
     obtain⟨k1,k2⟩:=(E.out.nth 0 rfl).two
     obtain⟨k3,k4⟩:=(E.out.nth 1 rfl).two
     refine wp_region_noPanic ?_
     refine tails_region (S:=fun w'=>w'.cell? ⟨w.heap.size+1,0,none⟩=some (.float .f64 kl)∧w'.cell? ⟨w.heap.size+1,1,none⟩=some (.float .f64 kh)∧w'.cell? ⟨w.heap.size+1+1,0,none⟩=some (.float .f64 xl)∧w'.cell? ⟨w.heap.size+1+1,1,none⟩=some (.float .f64 xh)) [4,5] (by kernel_rfl) ?_ (fun hS=>?_)
     · exact ⟨k1,k2,k3,k4⟩
     refine tails_take (T:=[4,5]) (i:=0) (o:=_) (x:=?_) rfl (by kernel_rfl) (by kernel_rfl) (by kernel_rfl) (by kernel_rfl) (fun _ _ _ h=>h) (Or.inl ⟨by rfl,?_⟩) (by assumption) ?_
     rotate_left; focus (intro w hSw; (try dsimp only at hSw); go_simp; first | done | with_reducible rfl)
     refine tails_take (T:=[4,5]) (i:=2) (o:=_) (x:=?_) rfl (by kernel_rfl) (by kernel_rfl) (by kernel_rfl) (by kernel_rfl) (fun _ _ _ h=>h) (Or.inl ⟨by rfl,?_⟩) (by assumption) ?_
     rotate_left; focus (intro w hSw; (try dsimp only at hSw); go_simp; first | done | with_reducible rfl)
     refine tails_one (T:=[4,5]) (i:=1) (o:=_) rfl (by kernel_rfl) (fun K hK=>?_)
     go_simp
     ((with_reducible refine (bK.out _).mono ?_); rintro rr w7 ⟨rfl,hb⟩; replace E:=Lib.hid (E.out.below hb); clear hb k1 k2 k3 k4; obtain⟨k1,k2⟩:=(E.out.nth 0 rfl).two; obtain⟨k3,k4⟩:=(E.out.nth 1 rfl).two)
     try go_wp2_with fail
     refine hK.out _ _ (Or.inr ⟨k1,k2,k3,k4⟩) (fun hHeld=>?_)
     clear hK K hS
     have hS:=hHeld.resolve_left (by decide)
     clear hHeld
     refine tails_one (T:=[4,5]) (i:=3) (o:=_) rfl (by kernel_rfl) (fun K hK=>?_)
     go_simp
     ((with_reducible refine (bX.out _).mono ?_); rintro rr w7 ⟨rfl,hb⟩; replace E:=Lib.hid (E.out.below hb); clear hb k1 k2 k3 k4; obtain⟨k1,k2⟩:=(E.out.nth 0 rfl).two; obtain⟨k3,k4⟩:=(E.out.nth 1 rfl).two)
     try go_wp2_with fail
     refine hK.out _ _ (Or.inr ⟨k1,k2,k3,k4⟩) (fun hHeld=>?_)
     clear hK K hS
     have hS:=hHeld.resolve_left (by decide)
     clear hHeld
     clear k1 k2 k3 k4 hS
     refine tails_one (T:=[4,5]) (i:=4) (o:=_) rfl (by kernel_rfl) (fun K hK=>?_)
     have kc:=(E.out.nth 0 rfl).2.1
     have kf:=(E.out.nth 0 rfl).2.2
     replace E:=Lib.hid (E.out.set2 (E.out.nth 0 rfl) (E.out.ne 0 rfl) (by omega) (.float .f64 al) (.float .f64 ah) [(w.heap.size+1,#[.float .f64 al,.float .f64 ah]),(w.heap.size+1+1,#[.float .f64 xl,.float .f64 xh])] (by simp))
     go_simp
     refine hK.out _ _ (Or.inl (by decide)) (fun hHeld=>?_)
     clear hK K hHeld kc kf
     refine tails_one (T:=[4,5]) (i:=5) (o:=_) rfl (by kernel_rfl) (fun K hK=>?_)
     have kc:=(E.out.nth 1 rfl).2.1
     have kf:=(E.out.nth 1 rfl).2.2
     replace E:=Lib.hid (E.out.set2 (E.out.nth 1 rfl) (E.out.ne 1 rfl) (by omega) (.float .f64 bl) (.float .f64 bh) [(w.heap.size+1,#[.float .f64 al,.float .f64 ah]),(w.heap.size+1+1,#[.float .f64 bl,.float .f64 bh])] (by simp))
     go_simp
     refine hK.out _ _ (Or.inl (by decide)) (fun hHeld=>?_)
     clear hK K hHeld kc kf
     refine tails_done (by kernel_rfl) ?_ _
     refine NoPanic.normal ?_
     go_wp2
     have f1:=(E.out.nth 0 rfl).2.1
     have g1:=(E.out.nth 1 rfl).2.1
     exact bodyPost_ret (v:=.tuple #[.agg #[.float .f64 al,.float .f64 ah],.agg #[.float .f64 bl,.float .f64 bh]]) (by simp [results,Tryz.results64,go_sem,f1,g1]) rfl ⟨rfl,E.out.put⟩
   · clear hR hj
     have ca:=(E.out.env.nth 0 rfl).2.1
     go_wp2_with fail
     clear ca
     ((with_reducible refine (lit3 sl sh kl kh xl xh yl yh pb w.heap.size sp kp _ E.out.cal (E.out.env.blocks (w.heap.size,#[.pointer (some ⟨pb,0,none⟩)]) (by simp)).1 (E.out.env.blocks (sp,#[.float .f64 sl,.float .f64 sh]) (by simp)).1 (E.out.env.blocks (kp,#[.float .f64 kl,.float .f64 kh]) (by simp)).1 n1 np nk cNs cNk).mono ?_); rintro rr w6 ⟨rfl,hp⟩; replace E:=Lib.hid (E.out.putc hp); clear hp)
     have q1:=(E.out.env.blocks (w.heap.size+1,#[.float .f64 0,.float .f64 0]) (by simp)).1.2.1
     have q2:=(E.out.env.blocks (w.heap.size+1,#[.float .f64 0,.float .f64 0]) (by simp)).1.2.2
     have q3:=(E.out.env.blocks (w.heap.size+1+1,#[.float .f64 0,.float .f64 0]) (by simp)).1.2.1
     have q4:=(E.out.env.blocks (w.heap.size+1+1,#[.float .f64 0,.float .f64 0]) (by simp)).1.2.2
     have E2:=Lib.hid (E.out.env.set2 (E.out.env.blocks (w.heap.size+1,#[.float .f64 0,.float .f64 0]) (by simp)).1 (E.out.env.blocks (w.heap.size+1,#[.float .f64 0,.float .f64 0]) (by simp)).2 (by omega) (.float .f64 xl) (.float .f64 xh) [(w.heap.size+1,#[.float .f64 xl,.float .f64 xh]),(w.heap.size+1+1,#[.float .f64 0,.float .f64 0])] (by simp))
     clear E
     have E:=Lib.hid (E2.out.set2 (E2.out.nth 1 rfl) (E2.out.ne 1 rfl) (by omega) (.float .f64 yl) (.float .f64 yh) [(w.heap.size+1,#[.float .f64 xl,.float .f64 xh]),(w.heap.size+1+1,#[.float .f64 yl,.float .f64 yh])] (by simp))
     clear E2
     go_upto_region 6 with fail
     clear q1 q2 q3 q4
     replace E:=Lib.hid E.out.drew
     obtain⟨k1,k2⟩:=(E.out.nth 0 rfl).two
     obtain⟨k3,k4⟩:=(E.out.nth 1 rfl).two
     refine wp_region_noPanic ?_
     refine tails_region (S:=fun w'=>w'.cell? ⟨w.heap.size+1,0,none⟩=some (.float .f64 xl)∧w'.cell? ⟨w.heap.size+1,1,none⟩=some (.float .f64 xh)∧w'.cell? ⟨w.heap.size+1+1,0,none⟩=some (.float .f64 yl)∧w'.cell? ⟨w.heap.size+1+1,1,none⟩=some (.float .f64 yh)) [4,5] (by kernel_rfl) ?_ (fun hS=>?_)
     · exact ⟨k1,k2,k3,k4⟩
     refine tails_take (T:=[4,5]) (i:=0) (o:=_) (x:=?_) rfl (by kernel_rfl) (by kernel_rfl) (by kernel_rfl) (by kernel_rfl) (fun _ _ _ h=>h) (Or.inl ⟨by rfl,?_⟩) (by assumption) ?_
     rotate_left; focus (intro w hSw; (try dsimp only at hSw); go_simp; first | done | with_reducible rfl)
     refine tails_take (T:=[4,5]) (i:=2) (o:=_) (x:=?_) rfl (by kernel_rfl) (by kernel_rfl) (by kernel_rfl) (by kernel_rfl) (fun _ _ _ h=>h) (Or.inl ⟨by rfl,?_⟩) (by assumption) ?_
     rotate_left; focus (intro w hSw; (try dsimp only at hSw); go_simp; first | done | with_reducible rfl)
     refine tails_one (T:=[4,5]) (i:=1) (o:=_) rfl (by kernel_rfl) (fun K hK=>?_)
     go_simp
     ((with_reducible refine (bX.out _).mono ?_); rintro rr w7 ⟨rfl,hb⟩; replace E:=Lib.hid (E.out.below hb); clear hb k1 k2 k3 k4; obtain⟨k1,k2⟩:=(E.out.nth 0 rfl).two; obtain⟨k3,k4⟩:=(E.out.nth 1 rfl).two)
     try go_wp2_with fail
     refine hK.out _ _ (Or.inr ⟨k1,k2,k3,k4⟩) (fun hHeld=>?_)
     clear hK K hS
     have hS:=hHeld.resolve_left (by decide)
     clear hHeld
     refine tails_one (T:=[4,5]) (i:=3) (o:=_) rfl (by kernel_rfl) (fun K hK=>?_)
     go_simp
     ((with_reducible refine (bY.out _).mono ?_); rintro rr w7 ⟨rfl,hb⟩; replace E:=Lib.hid (E.out.below hb); clear hb k1 k2 k3 k4; obtain⟨k1,k2⟩:=(E.out.nth 0 rfl).two; obtain⟨k3,k4⟩:=(E.out.nth 1 rfl).two)
     try go_wp2_with fail
     refine hK.out _ _ (Or.inr ⟨k1,k2,k3,k4⟩) (fun hHeld=>?_)
     clear hK K hS
     have hS:=hHeld.resolve_left (by decide)
     clear hHeld
     clear k1 k2 k3 k4 hS
     refine tails_one (T:=[4,5]) (i:=4) (o:=_) rfl (by kernel_rfl) (fun K hK=>?_)
     have kc:=(E.out.nth 0 rfl).2.1
     have kf:=(E.out.nth 0 rfl).2.2
     replace E:=Lib.hid (E.out.set2 (E.out.nth 0 rfl) (E.out.ne 0 rfl) (by omega) (.float .f64 al) (.float .f64 ah) [(w.heap.size+1,#[.float .f64 al,.float .f64 ah]),(w.heap.size+1+1,#[.float .f64 yl,.float .f64 yh])] (by simp))
     go_simp
     refine hK.out _ _ (Or.inl (by decide)) (fun hHeld=>?_)
     clear hK K hHeld kc kf
     refine tails_one (T:=[4,5]) (i:=5) (o:=_) rfl (by kernel_rfl) (fun K hK=>?_)
     have kc:=(E.out.nth 1 rfl).2.1
     have kf:=(E.out.nth 1 rfl).2.2
     replace E:=Lib.hid (E.out.set2 (E.out.nth 1 rfl) (E.out.ne 1 rfl) (by omega) (.float .f64 bl) (.float .f64 bh) [(w.heap.size+1,#[.float .f64 al,.float .f64 ah]),(w.heap.size+1+1,#[.float .f64 bl,.float .f64 bh])] (by simp))
     go_simp
     refine hK.out _ _ (Or.inl (by decide)) (fun hHeld=>?_)
     clear hK K hHeld kc kf
     refine tails_done (by kernel_rfl) ?_ _
     refine NoPanic.normal ?_
     go_wp2
     have f1:=(E.out.nth 0 rfl).2.1
     have g1:=(E.out.nth 1 rfl).2.1
     exact bodyPost_ret (v:=.tuple #[.agg #[.float .f64 al,.float .f64 ah],.agg #[.float .f64 bl,.float .f64 bh]]) (by simp [results,Tryz.results64,go_sem,f1,g1]) rfl ⟨rfl,E.out.put⟩
   · clear hR hj
     have ca:=(E.out.env.nth 0 rfl).2.1
     go_wp2_with fail
     clear ca
     ((with_reducible refine (lit4 sl sh kl kh yl yh pb w.heap.size sp kp _ E.out.cal (E.out.env.blocks (w.heap.size,#[.pointer (some ⟨pb,0,none⟩)]) (by simp)).1 (E.out.env.blocks (sp,#[.float .f64 sl,.float .f64 sh]) (by simp)).1 (E.out.env.blocks (kp,#[.float .f64 kl,.float .f64 kh]) (by simp)).1 n1 np nk cNk).mono ?_); rintro rr w6 ⟨rfl,hp⟩; replace E:=Lib.hid (E.out.putc hp); clear hp)
     have q1:=(E.out.env.blocks (w.heap.size+1,#[.float .f64 0,.float .f64 0]) (by simp)).1.2.1
     have q2:=(E.out.env.blocks (w.heap.size+1,#[.float .f64 0,.float .f64 0]) (by simp)).1.2.2
     have q3:=(E.out.env.blocks (w.heap.size+1+1,#[.float .f64 0,.float .f64 0]) (by simp)).1.2.1
     have q4:=(E.out.env.blocks (w.heap.size+1+1,#[.float .f64 0,.float .f64 0]) (by simp)).1.2.2
     have E2:=Lib.hid (E.out.env.set2 (E.out.env.blocks (w.heap.size+1,#[.float .f64 0,.float .f64 0]) (by simp)).1 (E.out.env.blocks (w.heap.size+1,#[.float .f64 0,.float .f64 0]) (by simp)).2 (by omega) (.float .f64 yl) (.float .f64 yh) [(w.heap.size+1,#[.float .f64 yl,.float .f64 yh]),(w.heap.size+1+1,#[.float .f64 0,.float .f64 0])] (by simp))
     clear E
     have E:=Lib.hid (E2.out.set2 (E2.out.nth 1 rfl) (E2.out.ne 1 rfl) (by omega) (.float .f64 sl) (.float .f64 sh) [(w.heap.size+1,#[.float .f64 yl,.float .f64 yh]),(w.heap.size+1+1,#[.float .f64 sl,.float .f64 sh])] (by simp))
     clear E2
     go_upto_region 6 with fail
     clear q1 q2 q3 q4
     replace E:=Lib.hid E.out.drew
     obtain⟨k1,k2⟩:=(E.out.nth 0 rfl).two
     obtain⟨k3,k4⟩:=(E.out.nth 1 rfl).two
     refine wp_region_noPanic ?_
     refine tails_region (S:=fun w'=>w'.cell? ⟨w.heap.size+1,0,none⟩=some (.float .f64 yl)∧w'.cell? ⟨w.heap.size+1,1,none⟩=some (.float .f64 yh)∧w'.cell? ⟨w.heap.size+1+1,0,none⟩=some (.float .f64 sl)∧w'.cell? ⟨w.heap.size+1+1,1,none⟩=some (.float .f64 sh)) [4,5] (by kernel_rfl) ?_ (fun hS=>?_)
     · exact ⟨k1,k2,k3,k4⟩
     refine tails_take (T:=[4,5]) (i:=0) (o:=_) (x:=?_) rfl (by kernel_rfl) (by kernel_rfl) (by kernel_rfl) (by kernel_rfl) (fun _ _ _ h=>h) (Or.inl ⟨by rfl,?_⟩) (by assumption) ?_
     rotate_left; focus (intro w hSw; (try dsimp only at hSw); go_simp; first | done | with_reducible rfl)
     refine tails_take (T:=[4,5]) (i:=2) (o:=_) (x:=?_) rfl (by kernel_rfl) (by kernel_rfl) (by kernel_rfl) (by kernel_rfl) (fun _ _ _ h=>h) (Or.inl ⟨by rfl,?_⟩) (by assumption) ?_
     rotate_left; focus (intro w hSw; (try dsimp only at hSw); go_simp; first | done | with_reducible rfl)
     refine tails_one (T:=[4,5]) (i:=1) (o:=_) rfl (by kernel_rfl) (fun K hK=>?_)
     go_simp
     ((with_reducible refine (bY.out _).mono ?_); rintro rr w7 ⟨rfl,hb⟩; replace E:=Lib.hid (E.out.below hb); clear hb k1 k2 k3 k4; obtain⟨k1,k2⟩:=(E.out.nth 0 rfl).two; obtain⟨k3,k4⟩:=(E.out.nth 1 rfl).two)
     try go_wp2_with fail
     refine hK.out _ _ (Or.inr ⟨k1,k2,k3,k4⟩) (fun hHeld=>?_)
     clear hK K hS
     have hS:=hHeld.resolve_left (by decide)
     clear hHeld
     refine tails_one (T:=[4,5]) (i:=3) (o:=_) rfl (by kernel_rfl) (fun K hK=>?_)
     go_simp
     ((with_reducible refine (bS.out _).mono ?_); rintro rr w7 ⟨rfl,hb⟩; replace E:=Lib.hid (E.out.below hb); clear hb k1 k2 k3 k4; obtain⟨k1,k2⟩:=(E.out.nth 0 rfl).two; obtain⟨k3,k4⟩:=(E.out.nth 1 rfl).two)
     try go_wp2_with fail
     refine hK.out _ _ (Or.inr ⟨k1,k2,k3,k4⟩) (fun hHeld=>?_)
     clear hK K hS
     have hS:=hHeld.resolve_left (by decide)
     clear hHeld
     clear k1 k2 k3 k4 hS
     refine tails_one (T:=[4,5]) (i:=4) (o:=_) rfl (by kernel_rfl) (fun K hK=>?_)
     have kc:=(E.out.nth 0 rfl).2.1
     have kf:=(E.out.nth 0 rfl).2.2
     replace E:=Lib.hid (E.out.set2 (E.out.nth 0 rfl) (E.out.ne 0 rfl) (by omega) (.float .f64 al) (.float .f64 ah) [(w.heap.size+1,#[.float .f64 al,.float .f64 ah]),(w.heap.size+1+1,#[.float .f64 sl,.float .f64 sh])] (by simp))
     go_simp
     refine hK.out _ _ (Or.inl (by decide)) (fun hHeld=>?_)
     clear hK K hHeld kc kf
     refine tails_one (T:=[4,5]) (i:=5) (o:=_) rfl (by kernel_rfl) (fun K hK=>?_)
     have kc:=(E.out.nth 1 rfl).2.1
     have kf:=(E.out.nth 1 rfl).2.2
     replace E:=Lib.hid (E.out.set2 (E.out.nth 1 rfl) (E.out.ne 1 rfl) (by omega) (.float .f64 bl) (.float .f64 bh) [(w.heap.size+1,#[.float .f64 al,.float .f64 ah]),(w.heap.size+1+1,#[.float .f64 bl,.float .f64 bh])] (by simp))
     go_simp
     refine hK.out _ _ (Or.inl (by decide)) (fun hHeld=>?_)
     clear hK K hHeld kc kf
     refine tails_done (by kernel_rfl) ?_ _
     refine NoPanic.normal ?_
     go_wp2
     have f1:=(E.out.nth 0 rfl).2.1
     have g1:=(E.out.nth 1 rfl).2.1
     exact bodyPost_ret (v:=.tuple #[.agg #[.float .f64 al,.float .f64 ah],.agg #[.float .f64 bl,.float .f64 bh]]) (by simp [results,Tryz.results64,go_sem,f1,g1]) rfl ⟨rfl,E.out.put⟩
end
end Go.Proofs.YtnaomilkgfkegaaGreat
