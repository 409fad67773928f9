/- What the claim stands on, part 24: QO1, CtR, QVt, CoTL, CsN, CsO, CsP, CsQ, TpN, CsR, QVu, CapM, CsU, Btw. -/
import Derived.Test.YtnaomilkgfkegaaGreatTA22
import Derived.Deep.RegionHeld3
import Derived.Test.YtnaomilkgfkegaaGreatTA16
import Derived.Test.YtnaomilkgfkegaaGreatTA19
import Derived.Test.YtnaomilkgfkegaaGreatTA21
set_option maxHeartbeats 16000000
set_option maxRecDepth 100000
namespace Go.Proofs.YtnaomilkgfkegaaGreat
section
open Go.RowKit
section
variable {P:Program} {ops:Array Oper} {Q:Exit→Act→World→Prop} {md:Region.Mode} {S:World→Prop}
def latAtP (pl:List Bool) (md:Region.Mode) (ops:Array Oper) (L0:Array Bool) (cs ms:List Nat) (k:Nat) (p:List Bool):Bool:=
 if pl.getD k false&&decide (k < cs.length) then
   (match cs[k]? with
     | some i=>Region.noSelect ops&&Region.free md ops (lstOf L0 cs ms k p) i&&(Region.ready md ops (lstOf L0 cs ms k p)).contains i&&closedB md ops (lstOf L0 cs ms k p)&&((lstOf L0 cs ms k p).setIfInBounds i true == lstOf L0 cs ms (k+1) p)
     | none=>false)
 else latAt md ops L0 cs ms k p
def latOkP (pl:List Bool) (md:Region.Mode) (ops:Array Oper) (L0:Array Bool) (cs ms:List Nat):Bool:=
 (List.range (cs.length+1)).all fun k=>(boolLists ms.length).all fun p=>latAtP pl md ops L0 cs ms k p
theorem latP_any {pl:List Bool} {L0:Array Bool} {cs ms:List Nat} {N:Nat} (J:Nat→List (Option Nat)→Act→World→Prop) (hok:latOkP pl md ops L0 cs ms=true)
   (hS:∀ k p a w,J k p a w→S w)
   (call:∀ k i p a w,cs[k]? = some i→pl.getD k false=false→J k p a w→wpOp P ops Q i (fun b v=>J (k+1) p b v) a w)
   (take:∀ k i p a w,cs[k]? = some i→pl.getD k false=true→J k p a w→∃ o x,ops[i]? = some o∧YieldsIf P ops S o x a∧(∀ c a w,Q (.panic c) (a.put o.dst x) w→Q (.panic c) a w)∧J (k+1) p (a.put o.dst x) w)
   (alloc:∀ k m i p a w,ms[m]? = some i→p[m]? = some none→J k p a w→wpOp P ops Q i (fun b v=>∃ q,J k (p.set m (some q)) b v) a w)
   (fin:∀ p a w,p.length=ms.length→(∀ x∈p,x.isSome=true)→J cs.length p a w→wpAnyV P md ops Q S [] N (lstOf L0 cs ms cs.length (p.map Option.isSome)) a w) :
   ∀ (f k:Nat) (p:List (Option Nat)) (a:Act) (w:World),p.length=ms.length→k≤cs.length→f=(cs.length - k)+p.count none→J k p a w →
     wpAnyV P md ops Q S [] (N+f) (lstOf L0 cs ms k (p.map Option.isSome)) a w
 | 0,k,p,a,w,hp,hk,hf,hJ=>by
   obtain rfl:k=cs.length:=by omega
   exact fin p a w hp (count_nil p (by omega)) hJ
 | f+1,k,p,a,w,hp,hk,hf,hJ=>by
   have hat:latAtP pl md ops L0 cs ms k (p.map Option.isSome)=true:=by
     unfold latOkP at hok
     rw [List.all_eq_true] at hok
     have h1:=hok k (by simp; omega)
     rw [List.all_eq_true] at h1
     refine h1 _ ?_
     have:=mem_bools (p.map Option.isSome)
     rw [List.length_map,hp] at this
     exact this
   have hnot:(decide (k=cs.length)&&(p.map Option.isSome).all id)=false:=by
     rw [Bool.eq_false_iff]
     intro h
     rw [Bool.and_eq_true,decide_eq_true_eq,List.all_eq_true] at h
     have hc:p.count none=0:=by
       rw [List.count_eq_zero]
       intro hm
       have:=h.2 false (by rw [List.mem_map]; exact ⟨none,hm,rfl⟩)
       simp at this
     omega
   unfold latAtP at hat
   by_cases g:pl.getD k false=true∧k < cs.length
   · rw [g.1,decide_eq_true g.2,Bool.and_true,if_pos rfl] at hat
     cases hck:cs[k]? with
     | none=>rw [hck] at hat; cases hat
     | some i =>
       rw [hck] at hat
       simp only [Bool.and_eq_true,beq_iff_eq] at hat
       obtain⟨⟨⟨⟨h1,h2⟩,h3⟩,h4⟩,hl⟩:=hat
       obtain⟨o,x,ho,hy,hQ,hJ'⟩:=take k i p a w hck g.1 hJ
       refine tails_take (T:=[]) ho h1 h2 h3 (by rw [h4]; rfl) hQ hy (hS _ _ _ _ hJ) ?_
       rw [hl]
       exact latP_any J hok hS call take alloc fin f (k+1) p _ w hp (by omega) (by omega) hJ'
   have g':(pl.getD k false&&decide (k < cs.length))=false:=by
     rw [Bool.eq_false_iff]; intro e
     rw [Bool.and_eq_true,decide_eq_true_eq] at e
     exact g e
   rw [g',if_neg Bool.false_ne_true] at hat
   unfold latAt at hat
   rw [hnot,Bool.false_or,Bool.and_eq_true,List.all_eq_true] at hat
   obtain⟨hne,hall⟩:=hat
   refine ⟨fun h0=>by rw [h0] at hne; simp at hne,fun i hi=>?_⟩
   have hi':=hall i hi
   rw [Bool.or_eq_true] at hi'
   rcases hi' with h | h
   · cases hck:cs[k]? with
     | none=>rw [hck] at h; simp at h
     | some j =>
       rw [hck] at h
       simp only [Bool.and_eq_true,beq_iff_eq] at h
       obtain⟨rfl,hl⟩:=h
       have hk':k < cs.length:=by
         rcases Nat.lt_or_ge k cs.length with g | g
         · exact g
         · rw [List.getElem?_eq_none g] at hck; cases hck
       refine wpOp_mono (fun b v hb=>⟨Or.inr (hS _ _ _ _ hb),?_⟩) (call k i p a w hck (by cases e:pl.getD k false; rfl; exact absurd ⟨e,hk'⟩ g) hJ)
       rw [hl]
       exact latP_any J hok hS call take alloc fin f (k+1) p b v hp (by omega) (by omega) hb
   · rw [List.any_eq_true] at h
     obtain⟨m,hm,h⟩:=h
     simp only [Bool.and_eq_true,beq_iff_eq] at h
     obtain⟨⟨h1,h2⟩,hl⟩:=h
     have h3:p[m]? = some none:=by
       rw [List.getElem?_map] at h2
       cases hpm:p[m]? with
       | none=>rw [hpm] at h2; simp at h2
       | some x =>
         rw [hpm] at h2
         cases x
         · rfl
         · simp at h2
     refine wpOp_mono (fun b v hb=>?_) (alloc k m i p a w h1 h3 hJ)
     obtain⟨q,hb⟩:=hb
     refine ⟨Or.inr (hS _ _ _ _ hb),?_⟩
     have e:(p.map Option.isSome).set m true=(p.set m (some q)).map Option.isSome:=by
       rw [List.map_set]; rfl
     rw [hl,e]
     exact latP_any J hok hS call take alloc fin f k (p.set m (some q)) b v (by rw [List.length_set]; exact hp) hk (by have:=count_set p m q h3; omega) hb
theorem latP_from {pl:List Bool} {a0:Act} {w0:World} {L0:Array Bool} (cs ms slots:List Nat) (N f:Nat) (J:Act→Nat→List (Option Nat)→Act→World→Prop) (hok:latOkP pl md ops L0 cs ms=true) (hf:f=cs.length+ms.length)
   (hsl:(slots.all fun s=>decide (s < a0.tmps.size))=true) (h0:∀ A:Act,(∀ s,s∈slots→s < A.tmps.size)→J A 0 (List.replicate ms.length none) A w0)
   (hS:∀ k p a w,J a0 k p a w→S w)
   (call:∀ k i p a w,cs[k]? = some i→pl.getD k false=false→J a0 k p a w→wpOp P ops Q i (fun b v=>J a0 (k+1) p b v) a w)
   (take:∀ k i p a w,cs[k]? = some i→pl.getD k false=true→J a0 k p a w→∃ o x,ops[i]? = some o∧YieldsIf P ops S o x a∧(∀ c a w,Q (.panic c) (a.put o.dst x) w→Q (.panic c) a w)∧J a0 (k+1) p (a.put o.dst x) w)
   (alloc:∀ k m i p a w,ms[m]? = some i→p[m]? = some none→J a0 k p a w→wpOp P ops Q i (fun b v=>∃ q,J a0 k (p.set m (some q)) b v) a w)
   (fin:∀ p a w,p.length=ms.length→(∀ x∈p,x.isSome=true)→J a0 cs.length p a w→wpAnyV P md ops Q S [] N (lstOf L0 cs ms cs.length (p.map Option.isSome)) a w) :
   wpAnyV P md ops Q S [] (N+f) L0 a0 w0:=by
 have h:=latP_any (J a0) hok hS call take alloc fin f 0 (List.replicate ms.length none) a0 w0 (by simp) (Nat.zero_le _) (by rw [hf]; simp) (h0 a0 (fun s hs=>by rw [List.all_eq_true] at hsl; exact of_decide_eq_true (hsl s hs)))
 have e:lstOf L0 cs ms 0 ((List.replicate ms.length none).map (Option.isSome (α:=Nat)))=L0:=by
   unfold lstOf
   rw [List.take_zero,List.foldl_nil]
   have:∀ (ms:List Nat) (L:Array Bool),(ms.zip ((List.replicate ms.length none).map (Option.isSome (α:=Nat)))).foldl (fun l x=>if x.2 then l.setIfInBounds x.1 true else l) L=L:=by
     intro ms
     induction ms with
     | nil=>intro L; rfl
     | cons m ms ih=>intro L; simpa [List.replicate_succ] using ih L
   exact this ms L0
 rw [e] at h
 exact h
end
end
section
open Go.RowKit
section
variable {B v v':World} {l:List (Nat×Array Value)}
theorem Own.setIn (h:Own B l v) (i:Nat) {q:Nat} {c:Array Value} (hi:l[i]? = some (q,c)) (k:Nat) (y:Value):Own B (l.set i (q,c.setIfInBounds k y)) (v.setCell ⟨q,k,none⟩ y):=
 h.at i hi (h.base.setCell (h.lowest i hi) _) ((h.nth i hi).setIn k y) (fun _ hx hne=>hx.set hne)
theorem Own.to {l':List (Nat×Array Value)} (h:Own B l v) (e:l=l'):Own B l' v:=e ▸ h
end
end
section
open Go.RowKit
attribute [local go_sem] run_store_float
theorem eq_floats (x y:Nat) (w:World):(Op.equalIn 9999 25 (.float .f64 x) (.float .f64 y)).run Tryz.prog w = .ok (Op.floatEq .f64 x y) w:=by
 have hf:=run_underlying Tryz.underlying25 (w:=w)
 show (Op.equalIn (9998+1) 25 _ _).run Tryz.prog w=_
 rw [Op.equalIn]
 simp only [Sem.run_bind,hf,Result.andThen]
 simp [go_sem]
end
section
open Go.RowKit
attribute [local go_sem] run_store_float
theorem end_e (x:Nat) (w:World) (hx:x < 18446744073709551616) (rx:rightB x=true) :
   Calls Tryz.prog 91 #[.float .f64 x,.float .f64 13830554455654793216,.float .f64 4607182418800017408] w fun r w'=>r = .returned (.float .f64 (edgeW x))∧Below w.heap.size w w':=by
 have o1:(FloatKind.f64.format.order x 13830554455654793216 == some Ordering.lt)=decide (val x < val m1):=order_lt x m1 hx (by decide) rx (by decide)
 have o2:(FloatKind.f64.format.order x 4607182418800017408 == some Ordering.gt)=decide (val u1 < val x):=order_gt x u1 hx (by decide) rx (by decide)
 have e:edgeW x=if val x < val m1 then m1 else if val u1 < val x then u1 else x:=by
   have hz:¬ val u1 < val m1:=by decide +kernel
   unfold edgeW maxW minW
   by_cases g:val x < val m1
   · rw [if_pos g,if_pos g,if_neg hz]
   · rw [if_neg g,if_neg g]
 rw [e]
 clear e
 by_cases g1:val x < val m1
 · rw [if_pos g1]
   rw [decide_eq_true g1] at o1
   clear o2 g1
   go_enter Tryz.func91,Tryz.ntmps91
   go_wp2
   go_ret
   exact ⟨rfl,Below.refl _ _⟩
 · rw [if_neg g1]
   rw [decide_eq_false g1] at o1
   by_cases g2:val u1 < val x
   · rw [if_pos g2]
     rw [decide_eq_true g2] at o2
     clear g1 g2
     go_enter Tryz.func91,Tryz.ntmps91
     go_wp2
     go_ret
     exact ⟨rfl,Below.refl _ _⟩
   · rw [if_neg g2]
     rw [decide_eq_false g2] at o2
     clear g1 g2
     go_enter Tryz.func91,Tryz.ntmps91
     go_wp2
     go_ret
     exact ⟨rfl,Below.refl _ _⟩
theorem kept_ewalk (a b x y:Nat) (w:World) (c1:Hid (∀ w,Calls Tryz.prog 91 #[.float .f64 a,.float .f64 13830554455654793216,.float .f64 4607182418800017408] w fun r w'=>r = .returned (.float .f64 x)∧Below w.heap.size w w'))
   (c2:Hid (∀ w,Calls Tryz.prog 91 #[.float .f64 b,.float .f64 13830554455654793216,.float .f64 4607182418800017408] w fun r w'=>r = .returned (.float .f64 y)∧Below w.heap.size w w')) :
   Calls Tryz.prog 44 #[.agg #[.float .f64 a,.float .f64 b],.float .f64 13830554455654793216,.float .f64 4607182418800017408] w fun r w'=>r = .returned (.agg #[.float .f64 x,.float .f64 y])∧Below w.heap.size w w':=by
 have M:=Lib.hid (((Own.nil w).made #[.float .f64 a,.float .f64 b] 31).made #[.float .f64 0,.float .f64 0] 31)
 simp only [World.size_alloc] at M
 go_enter Tryz.func44,Tryz.ntmps44
 go_upto_region 1 with fail
 replace M:=Lib.hid M.out.drew
 revert M
 generalize ((w.alloc (.cells #[.float .f64 a,.float .f64 b] 31)).alloc (.cells #[.float .f64 0,.float .f64 0] 31))=W
 intro M
 obtain⟨k1,k2⟩:=(M.out.nth 1 rfl).two
 have kc:=(M.out.nth 0 rfl).2.1
 have kf:=(M.out.nth 0 rfl).2.2
 go_region_held3 (fun w'=>w'.cell? ⟨w.heap.size,0,none⟩=some (.float .f64 a)∧w'.cell? ⟨w.heap.size,1,none⟩=some (.float .f64 b)) (((try dsimp only); (repeat' apply And.intro); all_goals (repeat (first | (with_reducible assumption) | ((with_reducible refine keep_undrew ?_); (with_reducible assumption)) | (with_reducible refine keep_drew ?_) | (with_reducible refine keep_set _ (by first | (with_reducible assumption) | omega) ?_)))))
   (first
     | (go_at_call 91; (with_reducible refine (c1.out _).mono ?_); rintro rr w5 ⟨rfl,hb⟩; replace M:=Lib.hid (M.out.below hb); clear hb k1 k2 kc kf; obtain⟨k1,k2⟩:=(M.out.nth 1 rfl).two; have kc:=(M.out.nth 0 rfl).2.1; have kf:=(M.out.nth 0 rfl).2.2)
     | (go_at_call 91; (with_reducible refine (c2.out _).mono ?_); rintro rr w5 ⟨rfl,hb⟩; replace M:=Lib.hid (M.out.below hb); clear hb k1 k2 kc kf; obtain⟨k1,k2⟩:=(M.out.nth 1 rfl).two; have kc:=(M.out.nth 0 rfl).2.1; have kf:=(M.out.nth 0 rfl).2.2))
 replace M:=Lib.hid (M.out.set2 0 rfl (.float .f64 x) (.float .f64 y))
 go_wp2
 obtain⟨f1,f2⟩:=(M.out.nth 0 rfl).two
 exact bodyPost_ret (v:=.agg #[.float .f64 x,.float .f64 y]) (by simp [results,Tryz.results44,go_sem,f1,f2]) rfl ⟨rfl,M.out.base⟩
theorem kept_e (a b:Nat) (w:World) (ha:a < 18446744073709551616) (hb:b < 18446744073709551616) (ra:rightB a=true) (rb:rightB b=true) :
   Calls Tryz.prog 44 #[.agg #[.float .f64 a,.float .f64 b],.float .f64 13830554455654793216,.float .f64 4607182418800017408] w fun r w'=>r = .returned (.agg #[.float .f64 (edgeW a),.float .f64 (edgeW b)])∧Below w.heap.size w w':=
 kept_ewalk a b _ _ w (Lib.hid fun w=>end_e a w ha ra) (Lib.hid fun w=>end_e b w hb rb)
theorem told_put {R:Res} {e1:Int} {l h:Nat} {f:FuncId} {args:Array Value} {pb:Nat} {w:World} (k:Calls Tryz.prog f args w (Told R pb 0 w)) (he:R.e=e1) (hl:R.lo=l) (hh:R.hi=h) :
   Calls Tryz.prog f args w fun r w'=>r = .returned (.agg #[.float .f64 l,.float .f64 h])∧Put ⟨pb,0,none⟩ (.int .i64 e1) w w':=by
 subst he hl hh
 exact k.mono fun _ _ ⟨h1,h2⟩=>⟨h1,h2⟩
theorem step_fit {R:Res} (b:Bool) (hb:b=true):stepI 0 b R=R:=by subst hb; rfl
section
variable {a b:Res}
theorem rsub_is (fa:Fit a) (fb:Fit b) (f:Fit (subR a b)) (pb:Nat) (v:World) (hC:Has1 v (pb,#[.int .i64 0])) :
   Calls Tryz.prog 42 #[.pointer (some ⟨pb,0,none⟩),.agg #[.float .f64 a.lo,.float .f64 a.hi],.agg #[.float .f64 b.lo,.float .f64 b.hi]] v fun r w'=>r = .returned (.agg #[.float .f64 (subR a b).lo,.float .f64 (subR a b).hi])∧Put ⟨pb,0,none⟩ (.int .i64 0) v w':=by
 have k:=rSub_any 0 a.lo a.hi b.lo b.hi pb v fa.lo fa.hi fb.lo fb.hi hC
 rw [step_fit _ (by rw [fa.iv,fb.iv]; rfl)] at k
 exact told_put k f.e rfl rfl
theorem rmul_is (fa:Fit a) (fb:Fit b) (f:Fit (mulR a b)) (pb:Nat) (v:World) (hC:Has1 v (pb,#[.int .i64 0])) :
   Calls Tryz.prog 45 #[.pointer (some ⟨pb,0,none⟩),.agg #[.float .f64 a.lo,.float .f64 a.hi],.agg #[.float .f64 b.lo,.float .f64 b.hi]] v fun r w'=>r = .returned (.agg #[.float .f64 (mulR a b).lo,.float .f64 (mulR a b).hi])∧Put ⟨pb,0,none⟩ (.int .i64 0) v w':=by
 have k:=rMul_any 0 a.lo a.hi b.lo b.hi pb v fa.lo fa.hi fb.lo fb.hi hC
 rw [step_fit _ (by rw [fa.iv,fb.iv]; rfl)] at k
 exact told_put k f.e rfl rfl
theorem rmax_is (fa:Fit a) (fb:Fit b) (f:Fit (maxR a b)) (pb:Nat) (v:World) (hC:Has1 v (pb,#[.int .i64 0])) :
   Calls Tryz.prog 41 #[.pointer (some ⟨pb,0,none⟩),.agg #[.float .f64 a.lo,.float .f64 a.hi],.agg #[.float .f64 b.lo,.float .f64 b.hi]] v fun r w'=>r = .returned (.agg #[.float .f64 (maxR a b).lo,.float .f64 (maxR a b).hi])∧Put ⟨pb,0,none⟩ (.int .i64 0) v w':=by
 have k:=rMax_any 0 a.lo a.hi b.lo b.hi pb v fa.lo fa.hi fb.lo fb.hi hC
 rw [step_fit _ (by rw [fa.iv,fb.iv]; rfl)] at k
 exact told_put k f.e rfl rfl
theorem rnum_is (x:Nat) (h:(decide (x < 18446744073709551616)&&rightB x)=true) (pb:Nat) (v:World) (hC:Has1 v (pb,#[.int .i64 0])) :
   Calls Tryz.prog 43 #[.pointer (some ⟨pb,0,none⟩),.float .f64 x] v fun r w'=>r = .returned (.agg #[.float .f64 x,.float .f64 x])∧Put ⟨pb,0,none⟩ (.int .i64 0) v w':=by
 simp only [Bool.and_eq_true,decide_eq_true_eq] at h
 have k:=rNum_any 0 x pb v h.1 hC
 rw [step_fit _ rfl] at k
 have e:ofI x=⟨0,x,x⟩:=by unfold ofI; rw [h.2]; rfl
 rw [e] at k
 exact told_put k rfl rfl rfl
theorem rsqrt_is (fa:Fit a) (f:Fit (sqrtR a)) (pb:Nat) (v:World) (hC:Has1 v (pb,#[.int .i64 0])) :
   Calls Tryz.prog 40 #[.pointer (some ⟨pb,0,none⟩),.agg #[.float .f64 a.lo,.float .f64 a.hi]] v fun r w'=>r = .returned (.agg #[.float .f64 (sqrtR a).lo,.float .f64 (sqrtR a).hi])∧Put ⟨pb,0,none⟩ (.int .i64 0) v w':=by
 have k:=rSqrt_any 0 a.lo a.hi pb v fa.lo fa.hi hC
 rw [step_fit _ (by exact fa.iv)] at k
 exact told_put k f.e rfl rfl
end
theorem rat4_any {x:Nat} (h:Turn x) (w:World):Calls Tryz.prog 79 #[.float .f64 x] w fun r w'=>r = .returned (.tuple #[.agg #[.float .f64 (sinR x).lo,.float .f64 (sinR x).hi],.agg #[.float .f64 (cosR x).lo,.float .f64 (cosR x).hi]])∧Below w.heap.size w w':=by
 have ft:=(angle_in h).fit
 have fs:=(sinS_in h).fit
 have fk:=(cosS_in h).fit
 have f20:Fit (serR (sqrR (angleR x (qN x))) 20):=(ser_in ok20.1 ok20.2 (square_in h) 9 (by decide)).fit
 have hx:=one_fit h.lt h.right
 have hq:Fit (oneR (quartW (qN x))):=by
   have k:=ends_ok4 (qN x) (qN_le x)
   simp only [Bool.and_eq_true] at k
   exact .of k.1.1.1.2
 have hb:=(beyond_in h).fit
 refine at_walk x (qN x) (quartW (qN x)) (beyondR x (qN x)).lo (beyondR x (qN x)).hi (addR piR piR).lo (addR piR piR).hi (angleR x (qN x)).lo (angleR x (qN x)).hi (serR (sqrR (angleR x (qN x))) 20).lo (serR (sqrR (angleR x (qN x))) 20).hi (sinS (angleR x (qN x))).lo (sinS (angleR x (qN x))).hi (cosS (angleR x (qN x))).lo (cosS (angleR x (qN x))).hi
   (negR (sinS (angleR x (qN x)))).lo (negR (sinS (angleR x (qN x)))).hi (negR (cosS (angleR x (qN x)))).lo (negR (cosS (angleR x (qN x)))).hi
   (boundR (sinS (angleR x (qN x)))).lo (boundR (sinS (angleR x (qN x)))).hi (boundR (cosS (angleR x (qN x)))).lo (boundR (cosS (angleR x (qN x)))).hi
   (boundR (negR (sinS (angleR x (qN x))))).lo (boundR (negR (sinS (angleR x (qN x))))).hi (boundR (negR (cosS (angleR x (qN x))))).lo (boundR (negR (cosS (angleR x (qN x))))).hi
   (sinR x).lo (sinR x).hi (cosR x).lo (cosR x).hi w (qN_le x) (Lib.hid fun k hk=>qN_test x k hk h.lt h.right)
   (Lib.hid fun w=>run_float_arith (P:=Tryz.prog) (w:=w) .quo _ .f64 _ _ _ (run_quarter (qN x) (qN_le x)))
   (Lib.hid (rc_num hx _)) (Lib.hid (rc_num hq _)) (Lib.hid (rc_sub hx hq hb _)) (Lib.hid rPi_any) (Lib.hid (rc_add big_fit.1 big_fit.1 big_fit.2.1 _)) (Lib.hid (rc_mul big_fit.2.1 hb ft _))
   (Lib.hid fun v hv=>row_any (m:=20) (Or.inr rfl) ft (square_in h) _ v hv) (Lib.hid (rc_mul ft f20 fs _)) (Lib.hid fun v hv=>row_any (m:=19) (Or.inl rfl) ft (square_in h) _ v hv)
   (Lib.hid (rc_neg fs _)) (Lib.hid (rc_neg fk _)) (Lib.hid (within_call fs)) (Lib.hid (within_call fk)) (Lib.hid (within_call (neg_fit fs))) (Lib.hid (within_call (neg_fit fk))) (Lib.hid ?_)
 have hq:=qN_le x
 rcases (show qN x=0∨qN x=1∨qN x=2∨qN x=3∨qN x=4 by omega) with g | g | g | g | g
 · exact Or.inl ⟨Or.inl g,(at_sin g (sinT0 _ _)).1,(at_sin g (sinT0 _ _)).2,(at_cos g (cosT0 _ _)).1,(at_cos g (cosT0 _ _)).2⟩
 · exact Or.inr (Or.inl ⟨g,(at_sin g (sinT1 _ _)).1,(at_sin g (sinT1 _ _)).2,(at_cos g (cosT1 _ _)).1,(at_cos g (cosT1 _ _)).2⟩)
 · exact Or.inr (Or.inr (Or.inl ⟨g,(at_sin g (sinT2 _ _)).1,(at_sin g (sinT2 _ _)).2,(at_cos g (cosT2 _ _)).1,(at_cos g (cosT2 _ _)).2⟩))
 · exact Or.inr (Or.inr (Or.inr ⟨g,(at_sin g (sinT3 _ _)).1,(at_sin g (sinT3 _ _)).2,(at_cos g (cosT3 _ _)).1,(at_cos g (cosT3 _ _)).2⟩))
 · exact Or.inl ⟨Or.inr g,(at_sin g (sinT4 _ _)).1,(at_sin g (sinT4 _ _)).2,(at_cos g (cosT4 _ _)).1,(at_cos g (cosT4 _ _)).2⟩
theorem rhull_call {a b:Res} (fa:Fit a) (fb:Fit b):RCalcH a.lo a.hi b.lo b.hi (hullR a b).lo (hullR a b).hi:=fun w=>rHull_any a.lo a.hi b.lo b.hi w fa.lo fa.hi fb.lo fb.hi fa.rlo fa.rhi fb.rlo fb.rhi
theorem rsin_any (al ah:Nat) (w:World) (la:al < 18446744073709551616) (ha:ah < 18446744073709551616) (h:fineB al ah=true) :
   Calls Tryz.prog 38 #[.agg #[.float .f64 al,.float .f64 ah]] w fun r w'=>r = .returned (.tuple #[.agg #[.float .f64 (sinU al ah).lo,.float .f64 (sinU al ah).hi],.agg #[.float .f64 (cosU al ah).lo,.float .f64 (cosU al ah).hi],.int .i64 0])∧Below w.heap.size w w':=by
 obtain⟨t1,t2,hr,hle⟩:=fine_turn la ha h
 obtain⟨f2,f3,g2⟩:=sin_fits t1 t2
 have cR:=fun w=>rRight_any al ah w la ha
 rw [hr] at cR
 have o1:(FloatKind.f64.format.order al 0 == some Ordering.lt)=false:=by
   rw [lt_zero al la t1.right]; unfold ltB; rw [val_nil]; have:=t1.lo; exact decide_eq_false (by omega)
 have o2:(FloatKind.f64.format.order ah 4607182418800017408 == some Ordering.gt)=false:=by
   rw [order_gt ah _ ha (by decide) t2.right (by decide)]; have:=t2.hi; exact decide_eq_false (by show ¬ val u1 < val ah; omega)
 exact rsin_walk al ah (sinR al).lo (sinR al).hi (cosR al).lo (cosR al).hi (sinR ah).lo (sinR ah).hi (cosR ah).lo (cosR ah).hi (sin2 al ah).lo (sin2 al ah).hi (cos2 al ah).lo (cos2 al ah).hi (sin3 al ah).lo (sin3 al ah).hi (sinU al ah).lo (sinU al ah).hi
   (hullR (sin2 al ah) (oneR u1)).lo (hullR (sin2 al ah) (oneR u1)).hi (hullR (sin3 al ah) (oneR m1)).lo (hullR (sin3 al ah) (oneR m1)).hi (hullR (cos2 al ah) (oneR m1)).lo (hullR (cos2 al ah) (oneR m1)).hi
   (hasB al ah 4598175219545276416) (hasB al ah 4604930618986332160) (hasB al ah 4602678819172646912) w (Lib.hid cR) o1 o2 (Lib.hid (rat4_any t1)) (Lib.hid (rat4_any t2))
   (Lib.hid (rhull_call (sinR_facts t1).1 (sinR_facts t2).1)) (Lib.hid (rhull_call (cosR_facts t1).1 (cosR_facts t2).1))
   (Lib.hid fun w=>rHas_any al ah _ w la ha) (Lib.hid fun w=>rHas_any al ah _ w la ha) (Lib.hid fun w=>rHas_any al ah _ w la ha)
   (Lib.hid (rhull_call f2 u1_fit)) (Lib.hid (rhull_call f3 m1_fit)) (Lib.hid (rhull_call g2 m1_fit))
   (Lib.hid (cond_lo _ _ _)) (Lib.hid (cond_lo _ _ _)) (cosU al ah).lo (cosU al ah).hi (Lib.hid (cond_lo _ _ _))
end
section
open Go.RowKit
section
variable {a b p q r s k:Res} (e:Int) (ha:Wd a) (hb:Wd b)
end
structure WdV (a:V3):Prop where
 x:Wd a.x
 y:Wd a.y
 z:Wd a.z
section
variable {a b:V3} {k:Res} (e:Int) (ha:WdV a) (hb:WdV b) (hk:Wd k)
end
end
section
open Go.RowKit
attribute [local go_sem] run_store_float
section
variable {a:V3} {k:Res} (e:Int) (ha:WdV a) (hk:Wd k)
end
end
section
open Go.RowKit
attribute [local go_sem] run_store_float
theorem Has1.three {v:World} {b:Nat} {x y z:Value} (h:Has1 v (b,#[x,y,z])):v.cell? ⟨b,0,none⟩=some x∧v.cell? ⟨b,1,none⟩=some y∧v.cell? ⟨b,2,none⟩=some z:=⟨h.2.1 0,h.2.1 1,h.2.1 2⟩
end
section
open Go.RowKit
attribute [local go_sem] run_store_float
end
section
open Go.RowKit
attribute [local go_sem] run_store_float
end
section
open Go.RowKit
attribute [local go_sem] run_store_float
end
section
open Go.RowKit
attribute [local go_sem] run_store_float
theorem eq_ivs (a b c d:Nat) (w:World):(Op.equalIn 9999 31 (.agg #[.float .f64 a,.float .f64 b]) (.agg #[.float .f64 c,.float .f64 d])).run Tryz.prog w = .ok (Op.floatEq .f64 a c&&Op.floatEq .f64 b d) w:=by
 have hu:=run_underlying Tryz.underlying31 (w:=w)
 show (Op.equalIn (9998+1) 31 _ _).run Tryz.prog w=_
 rw [Op.equalIn]
 simp only [Sem.run_bind,hu,Result.andThen]
 have hf:=run_underlying Tryz.underlying25 (w:=w)
 have e:∀ (x y:Nat),(Op.equalIn 9998 25 (.float .f64 x) (.float .f64 y)).run Tryz.prog w = .ok (Op.floatEq .f64 x y) w:=fun x y=>by
   show (Op.equalIn (9997+1) 25 _ _).run Tryz.prog w=_
   rw [Op.equalIn]
   simp only [Sem.run_bind,hf,Result.andThen]
   simp [go_sem]
 have hs:Tryz.prog.stoodInHeld 31=false:=by kernel_rfl
 simp [hs,Result.andThen,go_sem,e,part]
 cases Op.floatEq .f64 a c <;> simp [go_sem,e]
 cases Op.floatEq .f64 b d <;> simp [go_sem]
theorem tells12_0 {u o a0 a1 a2 a3 a4 a5 x0 x1 x2 x3 x4 x5:Nat} (w:World)
   (c1:Hid (∀ w,Calls Tryz.prog 13 #[.int .u64 u,.int .u64 o] w fun r w'=>r = .returned (.tuple #[.agg #[.float .f64 x0,.float .f64 x1,.float .f64 x2,.float .f64 x3,.float .f64 x4,.float .f64 x5],.int .i64 0])∧Below w.heap.size w w'))
   (c2:Hid (∀ w,Calls Tryz.prog 14 #[.int .u64 u,.int .u64 o] w fun r w'=>r = .returned (.tuple #[.agg #[.float .f64 x0,.float .f64 x1,.float .f64 x2,.float .f64 x3,.float .f64 x4,.float .f64 x5],.int .i64 0])∧Below w.heap.size w w'))
   (c3:Hid (∀ w,Calls Tryz.prog 15 #[.agg #[.float .f64 a0,.float .f64 a1,.float .f64 a2,.float .f64 a3,.float .f64 a4,.float .f64 a5]] w fun r w'=>r = .returned (.tuple #[.agg #[.float .f64 0,.float .f64 0,.float .f64 0],.int .i64 20])∧Below w.heap.size w w'))
   (c4:Hid (∀ w,Calls Tryz.prog 16 #[.agg #[.float .f64 a0,.float .f64 a1,.float .f64 a2,.float .f64 a3,.float .f64 a4,.float .f64 a5]] w fun r w'=>r = .returned (.tuple #[.agg #[.float .f64 0,.float .f64 0,.float .f64 0],.int .i64 20])∧Below w.heap.size w w'))
   (e_x0_x0:(Op.floatEq .f64 x0 x0=true))
   (e_x1_x1:(Op.floatEq .f64 x1 x1=true))
   (e_x2_x2:(Op.floatEq .f64 x2 x2=true))
   (e_x3_x3:(Op.floatEq .f64 x3 x3=true))
   (e_x4_x4:(Op.floatEq .f64 x4 x4=true))
   (e_x5_x5:(Op.floatEq .f64 x5 x5=true))
   (e_0_0:(Op.floatEq .f64 0 0=true))
   (c5:Hid (∀ w,Calls Tryz.prog 17 #[] w fun r w'=>r = .returned (.bool true)∧Below w.heap.size w w')) :
   Calls Tryz.prog 4 #[.int .u64 u,.int .u64 o,.agg #[.float .f64 a0,.float .f64 a1,.float .f64 a2,.float .f64 a3,.float .f64 a4,.float .f64 a5]] w fun r w'=>r = .returned (.bool true)∧Below w.heap.size w w':=by
 have M:=Lib.hid ((Own.nil w).made #[.float .f64 a0,.float .f64 a1,.float .f64 a2,.float .f64 a3,.float .f64 a4,.float .f64 a5] 33)
 have eqF:=eq_floats
 have eqI:=eq_ivs
 go_enter Tryz.func4,Tryz.ntmps4
 go_wp2_with fail
 refine (c1.out _).mono ?_
 rintro r w1_ ⟨rfl,hb⟩
 replace M:=Lib.hid (M.out.below hb)
 clear hb
 replace M:=Lib.hid (M.out.made #[.float .f64 x0,.float .f64 x1,.float .f64 x2,.float .f64 x3,.float .f64 x4,.float .f64 x5] 33)
 go_wp2_with fail
 refine (c2.out _).mono ?_
 rintro r w2_ ⟨rfl,hb⟩
 replace M:=Lib.hid (M.out.below hb)
 clear hb
 replace M:=Lib.hid (M.out.made #[.float .f64 x0,.float .f64 x1,.float .f64 x2,.float .f64 x3,.float .f64 x4,.float .f64 x5] 33)
 obtain⟨k1,k2,k3,k4,k5,k6⟩:=(M.out.nth 2 rfl).six
 go_wp2_with fail
 refine (c3.out _).mono ?_
 rintro r w3_ ⟨rfl,hb⟩
 replace M:=Lib.hid (M.out.below hb)
 clear hb
 clear k1 k2 k3 k4 k5 k6
 replace M:=Lib.hid (M.out.made #[.float .f64 0,.float .f64 0,.float .f64 0] 49)
 obtain⟨k1,k2,k3,k4,k5,k6⟩:=(M.out.nth 3 rfl).six
 go_wp2_with fail
 refine (c4.out _).mono ?_
 rintro r w4_ ⟨rfl,hb⟩
 replace M:=Lib.hid (M.out.below hb)
 clear hb
 clear k1 k2 k3 k4 k5 k6
 replace M:=Lib.hid (M.out.made #[.float .f64 0,.float .f64 0,.float .f64 0] 49)
 obtain⟨k1,k2,k3,k4,k5,k6⟩:=(M.out.nth 3 rfl).six
 obtain⟨k7,k8,k9,k10,k11,k12⟩:=(M.out.nth 2 rfl).six
 obtain⟨k13,k14,k15⟩:=(M.out.nth 1 rfl).three
 go_wp2_with fail
 refine (c5.out _).mono ?_
 rintro r w5_ ⟨rfl,hb⟩
 replace M:=Lib.hid (M.out.below hb)
 clear hb
 clear k1 k2 k3 k4 k5 k6 k7 k8 k9 k10 k11 k12 k13 k14 k15
 go_wp2
 go_ret
 exact ⟨rfl,M.out.base⟩
theorem tells12_1 {u o a0 a1 a2 a3 a4 a5 x0 x1 x2 x3 x4 x5 m0 m1 m2:Nat} (w:World)
   (c1:Hid (∀ w,Calls Tryz.prog 13 #[.int .u64 u,.int .u64 o] w fun r w'=>r = .returned (.tuple #[.agg #[.float .f64 x0,.float .f64 x1,.float .f64 x2,.float .f64 x3,.float .f64 x4,.float .f64 x5],.int .i64 0])∧Below w.heap.size w w'))
   (c2:Hid (∀ w,Calls Tryz.prog 14 #[.int .u64 u,.int .u64 o] w fun r w'=>r = .returned (.tuple #[.agg #[.float .f64 x0,.float .f64 x1,.float .f64 x2,.float .f64 x3,.float .f64 x4,.float .f64 x5],.int .i64 0])∧Below w.heap.size w w'))
   (c3:Hid (∀ w,Calls Tryz.prog 15 #[.agg #[.float .f64 a0,.float .f64 a1,.float .f64 a2,.float .f64 a3,.float .f64 a4,.float .f64 a5]] w fun r w'=>r = .returned (.tuple #[.agg #[.float .f64 m0,.float .f64 m1,.float .f64 m2],.int .i64 0])∧Below w.heap.size w w'))
   (c4:Hid (∀ w,Calls Tryz.prog 16 #[.agg #[.float .f64 a0,.float .f64 a1,.float .f64 a2,.float .f64 a3,.float .f64 a4,.float .f64 a5]] w fun r w'=>r = .returned (.tuple #[.agg #[.float .f64 m0,.float .f64 m1,.float .f64 m2],.int .i64 0])∧Below w.heap.size w w'))
   (e_x0_x0:(Op.floatEq .f64 x0 x0=true))
   (e_x1_x1:(Op.floatEq .f64 x1 x1=true))
   (e_x2_x2:(Op.floatEq .f64 x2 x2=true))
   (e_x3_x3:(Op.floatEq .f64 x3 x3=true))
   (e_x4_x4:(Op.floatEq .f64 x4 x4=true))
   (e_x5_x5:(Op.floatEq .f64 x5 x5=true))
   (e_m0_m0:(Op.floatEq .f64 m0 m0=true))
   (e_m1_m1:(Op.floatEq .f64 m1 m1=true))
   (e_m2_m2:(Op.floatEq .f64 m2 m2=true))
   (c5:Hid (∀ w,Calls Tryz.prog 17 #[] w fun r w'=>r = .returned (.bool true)∧Below w.heap.size w w')) :
   Calls Tryz.prog 4 #[.int .u64 u,.int .u64 o,.agg #[.float .f64 a0,.float .f64 a1,.float .f64 a2,.float .f64 a3,.float .f64 a4,.float .f64 a5]] w fun r w'=>r = .returned (.bool true)∧Below w.heap.size w w':=by
 have M:=Lib.hid ((Own.nil w).made #[.float .f64 a0,.float .f64 a1,.float .f64 a2,.float .f64 a3,.float .f64 a4,.float .f64 a5] 33)
 have eqF:=eq_floats
 have eqI:=eq_ivs
 go_enter Tryz.func4,Tryz.ntmps4
 go_wp2_with fail
 refine (c1.out _).mono ?_
 rintro r w1_ ⟨rfl,hb⟩
 replace M:=Lib.hid (M.out.below hb)
 clear hb
 replace M:=Lib.hid (M.out.made #[.float .f64 x0,.float .f64 x1,.float .f64 x2,.float .f64 x3,.float .f64 x4,.float .f64 x5] 33)
 go_wp2_with fail
 refine (c2.out _).mono ?_
 rintro r w2_ ⟨rfl,hb⟩
 replace M:=Lib.hid (M.out.below hb)
 clear hb
 replace M:=Lib.hid (M.out.made #[.float .f64 x0,.float .f64 x1,.float .f64 x2,.float .f64 x3,.float .f64 x4,.float .f64 x5] 33)
 obtain⟨k1,k2,k3,k4,k5,k6⟩:=(M.out.nth 2 rfl).six
 go_wp2_with fail
 refine (c3.out _).mono ?_
 rintro r w3_ ⟨rfl,hb⟩
 replace M:=Lib.hid (M.out.below hb)
 clear hb
 clear k1 k2 k3 k4 k5 k6
 replace M:=Lib.hid (M.out.made #[.float .f64 m0,.float .f64 m1,.float .f64 m2] 49)
 obtain⟨k1,k2,k3,k4,k5,k6⟩:=(M.out.nth 3 rfl).six
 go_wp2_with fail
 refine (c4.out _).mono ?_
 rintro r w4_ ⟨rfl,hb⟩
 replace M:=Lib.hid (M.out.below hb)
 clear hb
 clear k1 k2 k3 k4 k5 k6
 replace M:=Lib.hid (M.out.made #[.float .f64 m0,.float .f64 m1,.float .f64 m2] 49)
 obtain⟨k1,k2,k3,k4,k5,k6⟩:=(M.out.nth 3 rfl).six
 obtain⟨k7,k8,k9,k10,k11,k12⟩:=(M.out.nth 2 rfl).six
 obtain⟨k13,k14,k15⟩:=(M.out.nth 1 rfl).three
 go_wp2_with fail
 refine (c5.out _).mono ?_
 rintro r w5_ ⟨rfl,hb⟩
 replace M:=Lib.hid (M.out.below hb)
 clear hb
 clear k1 k2 k3 k4 k5 k6 k7 k8 k9 k10 k11 k12 k13 k14 k15
 go_wp2
 go_ret
 exact ⟨rfl,M.out.base⟩
end
section
open Go.RowKit
def cuI:Res:=⟨0,0,u1⟩
theorem cu_fit:Fit cuI:=.of (by decide +kernel)
theorem cu_ends:val cuI.lo=0∧val cuI.hi=SS:=by decide +kernel
theorem cn0_fit:Fit (oneR 0):=one_fit (by decide) (by decide)
theorem cv0:val 0=0:=by decide +kernel
structure Pt (S C:Res) (s c:Rat):Prop where
 hs:HasQ S s
 hc:HasQ C c
 l:-(1 / 1208925819614629174706176)≤s*s+c*c - 1
 g:s*s+c*c - 1≤1 / 1208925819614629174706176
def Cn.r (a:Res):Res:=sqrtR a
def Cn.p (a c:Res):Res:=mulR (Cn.r a) c
def Cn.x (a c:Res):Res:=boundR (Cn.p a c)
def Cn.q (a c:Res):Res:=sqrR (Cn.x a c)
def Cn.flat (a C S:Res):Res:=addR (Cn.q a C) (Cn.q a S)
theorem cn_boxes:Fit (Cn.r cuI)∧Fit (Cn.p cuI wideR)∧Fit (Cn.x cuI wideR)∧Fit (Cn.q cuI wideR)∧Fit (Cn.flat cuI wideR wideR)∧val (Cn.r cuI).hi=SS∧val (Cn.r cuI).lo=0:=⟨.of (by decide +kernel),.of (by decide +kernel),.of (by decide +kernel),.of (by decide +kernel),.of (by decide +kernel),by decide +kernel,by decide +kernel⟩
theorem wide1_fit:Fit wideR:=wide_fits.1
section
variable {a c:Res} (ha:In a cuI) (hc:In c wideR)
include ha
theorem cn_r:In (Cn.r a) (Cn.r cuI):=sqrt_in' ha
where sqrt_in' (h:In a cuI):In (Cn.r a) (Cn.r cuI):=ask_in a cuI a cuI 7 (by decide) h cu_fit h cu_fit cn_boxes.1.e
include hc
theorem cn_p:In (Cn.p a c) (Cn.p cuI wideR):=mul_in (cn_r ha) cn_boxes.1 hc wide1_fit cn_boxes.2.1.e
theorem cn_xf:Fit (Cn.x a c)∧val m1≤val (Cn.x a c).lo∧val (Cn.x a c).hi≤val u1:=bound_facts (cn_p ha hc).fit
end
section
variable {a S C:Res} (ha:In a cuI) (hS:In S wideR) (hC:In C wideR)
include ha hS hC
end
end
section
open Go.RowKit
def Cn.d (a:Res):Res:=subR (oneR u1) a
def Cn.m (a:Res):Res:=maxR (Cn.d a) (oneR 0)
def Cn.s (a:Res):Res:=sqrtR (Cn.m a)
def Cn.z (a:Res):Res:=clampR (Cn.s a)
theorem ch_boxes:Fit (Cn.d cuI)∧Fit (Cn.m cuI)∧Fit (Cn.s cuI)∧Fit (sqrR unitR)∧val (Cn.d cuI).hi≤SS∧0≤val (Cn.d cuI).lo:=⟨.of (by decide +kernel),.of (by decide +kernel),.of (by decide +kernel),.of (by decide +kernel),by decide +kernel,by decide +kernel⟩
structure ChI (a A:Res):Prop where
 d:In (Cn.d a) (Cn.d A)
 m:In (Cn.m a) (Cn.m A)
 s:In (Cn.s a) (Cn.s A)
theorem ch_in {a:Res} (h:In a cuI):ChI a cuI:=by
 obtain⟨b1,b2,b3,_⟩:=ch_boxes
 have d:In (Cn.d a) (Cn.d cuI):=sub_in (.refl u1_fit) u1_fit h cu_fit b1.e
 have m:In (Cn.m a) (Cn.m cuI):=max_in d b1 (.refl cn0_fit) cn0_fit b2.e
 exact ⟨d,m,ask_in (Cn.m a) (Cn.m cuI) (Cn.m a) (Cn.m cuI) 7 (by decide) m b2 m b2 b3.e⟩
theorem max_ends0 {r:Res} (f:Fit r):val (maxR r (oneR 0)).lo=max (val r.lo) 0∧val (maxR r (oneR 0)).hi=max (val r.hi) 0:=by
 have v0:=cv0
 have h1:=(max_facts r.lo 0 f.lo (by decide) f.rlo (by decide)).2.2
 have h2:=(max_facts r.hi 0 f.hi (by decide) f.rhi (by decide)).2.2
 rw [v0] at h1 h2
 exact ⟨h1,h2⟩
theorem clamp_ends0 {r:Res} (f:Fit r):val (clampR r).lo=min (max (val r.lo) 0) SS∧val (clampR r).hi=min (max (val r.hi) 0) SS:=by
 have us:val u1=SS:=by decide +kernel
 have h1:=(clamp_facts f.lo f.rlo).2.2
 have h2:=(clamp_facts f.hi f.rhi).2.2
 rw [us] at h1 h2
 refine ⟨?_,?_⟩
 · rw [show (clampR r).lo=clampW r.lo by simp only [clampR]]; exact h1
 · rw [show (clampR r).hi=clampW r.hi by simp only [clampR]]; exact h2
section
variable {a:Res} (ha:In a cuI)
include ha
theorem up_ends:(0≤val (Cn.d a).lo∧val (Cn.m a).lo=val (Cn.d a).lo∧val (Cn.m a).hi=val (Cn.d a).hi)∧(0≤val (Cn.s a).lo∧val (Cn.s a).hi≤SS)∧(val (Cn.z a).lo=val (Cn.s a).lo∧val (Cn.z a).hi=val (Cn.s a).hi)∧In (Cn.z a) unitR:=by
 have I:=ch_in ha
 obtain⟨_,_,_,_,b5,b6⟩:=ch_boxes
 have d1:=I.d.lo
 have d2:=I.d.hi
 have dl:=I.d.fit.le
 obtain⟨m1',m2'⟩:=max_ends0 I.d.fit
 obtain⟨z1,z2⟩:=clamp_ends0 I.s.fit
 obtain⟨_,⟨s0,_,_⟩,t0,_,t2⟩:=sqrt_parts I.m.fit I.s.fit.e
 have us:val u1=SS:=by decide +kernel
 have s0':=SS0
 have e1:val (Cn.m a).lo=val (Cn.d a).lo:=by show val (maxR (Cn.d a) (oneR 0)).lo=_; omega
 have e2:val (Cn.m a).hi=val (Cn.d a).hi:=by show val (maxR (Cn.d a) (oneR 0)).hi=_; omega
 have g:val (Cn.s a).hi≤SS:=by
   have k:=t2 u1 (by decide) (by decide) (by omega) (by rw [us]; exact Int.mul_le_mul_of_nonneg_right (by omega) (by omega))
   rw [us] at k; exact k
 have l:0≤val (Cn.s a).lo:=s0
 have sl:=I.s.fit.le
 refine ⟨⟨by omega,e1,e2⟩,⟨l,g⟩,⟨?_,?_⟩,clamp_unit I.s.fit⟩
 · show val (clampR (Cn.s a)).lo=_; omega
 · show val (clampR (Cn.s a)).hi=_; omega
end
section
variable {a S C:Res} (ha:In a cuI) (hS:In S wideR) (hC:In C wideR) {s c:Rat} (P:Pt S C s c)
include ha hS hC P
end
end
section
open Go.RowKit
theorem mid_in {lo hi w h m:Nat} (l1:lo < 18446744073709551616) (r1:rightB lo=true) (le:val lo≤val hi) (hw:Down 1 (val hi - val lo) w 0) (hh:Down (2 ^ sq) (val 4602678819172646912*val w) h 0) (hm:Down 1 (val lo+val h) m 0) :
   val lo≤val m∧val m≤val hi∧(val lo=val hi→val m=val lo):=by
 have v0:=cv0
 have e:2*val 4602678819172646912=SS:=by decide +kernel
 have es:((2 ^ sq:Nat):Int)=SS:=rfl
 have s0:=SS0
 obtain⟨_,_,w3,w4⟩:=hw.ok
 obtain⟨_,_,h3,h4⟩:=hh.ok
 obtain⟨_,_,m3,m4⟩:=hm.ok
 rw [es] at h3 h4
 have w0:0≤val w:=by have:=w4 0 (by decide) (by decide) (by rw [v0]; omega); omega
 have h0:0≤val h:=by
   have:=h4 0 (by decide) (by decide) (by rw [v0,Int.zero_mul]; exact Int.mul_nonneg (by omega) w0)
   omega
 have h5:2*val h≤val w:=by
   refine Int.le_of_mul_le_mul_right (a:=SS) ?_ s0
   have k:2*(val 4602678819172646912*val w)=val w*SS:=by rw [←e]; grind
   have k2:2*val h*SS=2*(val h*SS):=by grind
   omega
 have m5:=m4 lo l1 r1 (by omega)
 refine ⟨m5,by omega,fun q=>by omega⟩
end
section
open Go.RowKit
def EE:Int:=((2 ^ 1021:Nat):Int)
theorem ee_pos:0 < EE:=Int.natCast_pos.2 (Nat.two_pow_pos 1021)
theorem pw_ee {k j:Nat} (h:j+1021=k):((2 ^ k:Nat):Int)=((2 ^ j:Nat):Int)*EE:=by
 unfold EE
 rw [←h,Nat.pow_add,Int.natCast_mul]
theorem ss_ee:SS=9007199254740992*EE:=pw_ee (k:=sq) (j:=53) (by rw [sq_eq])
theorem of_near {u:Nat} (hu:u < 18446744073709551616) (h1:val (ofHi u)≤SS) (h2:val (ofLo u) < SS) (h0:0≤val (ofLo u)) (h3:0≤val (ofHi u)):val (ofHi u) - val (ofLo u) < 2*EE:=by
 obtain⟨d,g,_⟩:=of_tight u hu
 have p:=ee_pos
 have e:=ss_ee
 have k1:=down_gap (k:=1021) (by decide) (by decide) (by decide) d (by show -9007199254740992*EE≤_; omega) (by show _ < 9007199254740992*EE; omega)
 have k2:=up_gap (k:=1021) (by decide) (by decide) (by decide) g (by show -9007199254740992*EE < _; omega) (by show _≤9007199254740992*EE; omega)
 have k1:((u*2 ^ dr:Nat):Int) < (val (ofLo u)+EE)*1:=k1
 have k2:(val (ofHi u) - EE)*1 < ((u*2 ^ dr:Nat):Int):=k2
 omega
end
section
open Go.RowKit
def hh:Rat:=hq / 4
def hP (t:Rat):Nat→Rat
 | 0=>hC t
 | 1 => -hS t
 | _ => -hC t
structure Vh (k:Nat) (t:Rat):Prop where
 lo:-hh≤t
 hi:t≤hh
 pos:k=0→0≤t
 neg:k=2→t≤0
structure Ph (x j:Nat) (t:Rat):Prop where
 ej:qN x=j
 et:hT x j=t
 le:j≤4
 lo:-hh≤t
 hi:t≤hh
 pos:(j:Int)*SS≤4*val x→0≤t
 neg:4*val x≤(j:Int)*SS→t≤0
 a:(2*(j:Int) - 1)*SS≤8*val x
 b:8*val x < (2*(j:Int)+1)*SS
section
variable {s c:Rat}
end
section
variable {x y:Nat}
end
section
variable {a b x:Nat}
end
structure Ends (a b:Nat):Prop where
 slo:val (sinU a b).lo=if hasB a b 4604930618986332160=true then -SS else min (val (sinR a).lo) (val (sinR b).lo)
 shi:val (sinU a b).hi=if hasB a b 4598175219545276416=true then SS else max (val (sinR a).hi) (val (sinR b).hi)
 olo:val (cosU a b).lo=if hasB a b 4602678819172646912=true then -SS else min (val (cosR a).lo) (val (cosR b).lo)
 ohi:val (cosU a b).hi=max (val (cosR a).hi) (val (cosR b).hi)
end
section
open Go.RowKit
theorem lo_less {u:Nat} (hu:u < 18446744073709551616):val (ofLo u) < SS:=by
 obtain⟨d,_,_⟩:=of_tight u hu
 have e:SS=((18446744073709551616*2 ^ dr:Nat):Int):=by decide +kernel
 have k:((u*2 ^ dr:Nat):Int) < ((18446744073709551616*2 ^ dr:Nat):Int):=Int.ofNat_lt.2 (Nat.mul_lt_mul_of_pos_right hu (Nat.two_pow_pos dr))
 rcases d with ⟨_,_,_,c,_⟩ | ⟨c,_,_⟩
 · rw [e]
   rw [show ((1:Nat):Int)=1 from rfl,Int.mul_one] at c
   exact Int.lt_of_le_of_lt c k
 · exact absurd c (by decide)
end
section
open Go.RowKit
end
section
open Go.RowKit
end
section
open Go.RowKit
def DD:Int:=((2 ^ 1022:Nat):Int)
theorem ones:val u1=SS∧val m1=-SS∧val 4611686018427387904=2*SS∧val 13835058055282163712=-(2*SS):=by decide +kernel
structure PartOf (x:Nat) (n p:Res) (m M:Int):Prop where
 low:0≤m
 le:m≤M
 top:M≤SS
 under:∃ a:Int,(a=val x∨a=-val x)∧0≤a∧m*val n.hi≤a*SS∧(M=SS∨a*SS≤M*val n.lo)
 wide:M - m≤16*DD
 side:(0≤val x∧val p.lo=m∧val p.hi=M)∨(val x≤0∧val p.lo=-M∧val p.hi=-m)
 nil:val x=0→M=0
theorem bound_ends {r:Res} (f:Fit r) (h1:val r.lo≤SS) (h2:-SS≤val r.hi):val (boundR r).lo=max (val r.lo) (-SS)∧val (boundR r).hi=min (val r.hi) SS:=by
 obtain⟨x1,x2,x3⟩:=max_facts r.lo m1 f.lo (by decide) f.rlo (by decide)
 obtain⟨y1,y2,y3⟩:=min_facts r.hi u1 f.hi (by decide) f.rhi (by decide)
 obtain⟨o1,o2,_,_⟩:=ones
 have l:=f.le
 have s0:0≤SS:=ss_pos
 have hb:bothB r.lo r.hi m1 u1=true:=by
   unfold bothB leB
   refine decide_eq_true ?_
   rw [x3,y3,o1,o2]; omega
 have e1:(boundR r).lo=maxW r.lo m1:=by
   show (if bothB r.lo r.hi m1 u1 then maxW r.lo m1 else 0)=_
   rw [if_pos hb]
 have e2:(boundR r).hi=minW r.hi u1:=by
   show (if bothB r.lo r.hi m1 u1 then minW r.hi u1 else 0)=_
   rw [if_pos hb]
 rw [e1,e2,x3,y3,o1,o2]
 exact ⟨rfl,rfl⟩
end
section
open Go.RowKit
end
section
open Go.RowKit
theorem res_of {r s:Res} (f:Fit r) (g:Fit s) (h:r.lo=s.lo∧r.hi=s.hi):r=s:=by
 obtain⟨e,l,u⟩:=r
 obtain⟨e',l',u'⟩:=s
 have a:e=0:=f.e
 have b:e'=0:=g.e
 obtain⟨h1,h2⟩:=h
 simp only at h1 h2
 rw [a,b,h1,h2]
theorem edge_bound {r:Res} (f:Fit r) (l:val r.lo≤SS) (g:-SS≤val r.hi):edgeR r=boundR r:=by
 obtain⟨e1,e2⟩:=bound_ends f l g
 obtain⟨a1,a2,a3⟩:=edge_facts f.lo f.rlo
 obtain⟨b1,b2,b3⟩:=edge_facts f.hi f.rhi
 have s0:=SS0
 have k:=(bound_facts f).1
 refine res_of (edge_fit f) k ⟨?_,?_⟩
 · rw [edgeR_lo]; exact val_inj a1 k.lo a2 k.rlo (by rw [a3,e1]; omega)
 · rw [edgeR_hi]; exact val_inj b1 k.hi b2 k.rhi (by rw [b3,e2]; omega)
end
section
open Go.RowKit
theorem cp_ends:val (Cn.p cuI wideR).hi≤SS ∧ -SS≤val (Cn.p cuI wideR).lo:=by decide +kernel
theorem x_edge {a c:Res} (ha:In a cuI) (hc:In c wideR):edgeR (Cn.p a c)=Cn.x a c:=by
 have i:=cn_p ha hc
 obtain⟨e1,e2⟩:=cp_ends
 have l:=i.lo
 have u:=i.hi
 have le:=i.fit.le
 exact edge_bound i.fit (by omega) (by omega)
theorem draw_in {u:Nat} (hu:u < 18446744073709551616) (f:Fit ⟨0,ofLo u,ofHi u⟩) (l:0≤val (ofLo u)) (h:val (ofHi u)≤SS):In ⟨0,ofLo u,ofHi u⟩ cuI∧Turn (ofLo u)∧Turn (ofHi u)∧val (ofLo u)≤val (ofHi u)∧val (ofHi u) - val (ofLo u)≤2*EE:=by
 have us:val u1=SS:=by decide +kernel
 have le:val (ofLo u)≤val (ofHi u):=f.le
 refine ⟨⟨f,by rw [cu_ends.1]; exact l,by rw [cu_ends.2]; exact h⟩,⟨f.lo,f.rlo,l,by rw [us]; omega⟩,⟨f.hi,f.rhi,by omega,by rw [us]; exact h⟩,le,?_⟩
 have:=of_near hu h (lo_less hu) l (by omega)
 omega
end
section
open Go.RowKit
end
section
open Go.RowKit
attribute [local go_sem] run_store_float
end
section
open Go.RowKit
attribute [local go_sem] run_store_float
end
section
open Go.RowKit
attribute [local go_sem] run_store_float
theorem word_neg {r:Nat} (h:val r≠0) (hr:rung r < 9218868437227405312):rightB r=true:=by
 have hn:r≠9223372036854775808:=by
   intro e
   subst e
   exact h (by decide +kernel)
 unfold rightB
 unfold rung at hr
 rw [decide_eq_true hr,decide_eq_false hn]; rfl
theorem add_all {a b y0:Nat} (ha:a < 18446744073709551616) (hb:b < 18446744073709551616) (ra:rightB a=true) (rb:rightB b=true) (pb:0≤val b) (ly:y0 < 18446744073709551616) (ry:rightB y0=true) (hy:val a+val b≤val y0) :
   ∃ r,floatBits .add .f64 a b=some r∧r < 18446744073709551616∧rightB r=true∧val a≤val r∧val r≤val y0:=by
 have sb:=plain_sgn hb rb pb
 obtain⟨r,h1,h2⟩:=add_beside a b ha hb ra rb
 obtain⟨n1,n2,n3,n4⟩:=near_between (x0:=a) (y0:=y0) (by decide) (add_down a b ra rb) (add_up a b ra rb) h2 ha ra (by omega) ly ry (by omega)
 by_cases g:0≤val a+val b
 · have h3:((Ieee.double.read a).sum (Ieee.double.read b)).map Ieee.double.write=some r:=h1
   rw [read_num a ha (right_rung a ra),read_num b hb (right_rung b rb)] at h3
   exact ⟨r,h1,n1,word_right (sum_plain _ _ a b (expo_in a ra).1 (expo_in b rb).1 (by rw [sb,Bool.and_false]) (by rw [←val_sg,←val_sg]; omega) r h3) n2,n3,n4⟩
 · have e1:val 9223372036854775809=-1:=by decide +kernel
   obtain⟨_,_,_,k4⟩:=near_between (x0:=a) (y0:=9223372036854775809) (by decide) (add_down a b ra rb) (add_up a b ra rb) h2 ha ra (by omega) (by decide) (by decide) (by rw [e1]; omega)
   exact ⟨r,h1,n1,word_neg (by rw [e1] at k4; omega) n2,n3,n4⟩
theorem add_self0 {x:Nat} (lx:x < 18446744073709551616) (rx:rightB x=true):floatBits .add .f64 x 0=some x:=by
 have z0:val 0=0:=by decide +kernel
 obtain⟨r,h1,h2,h3,h4,h5⟩:=add_all lx (by decide:(0:Nat) < 18446744073709551616) rx (by decide) (by rw [z0]; exact Int.le_refl _) (y0:=x) lx rx (by rw [z0]; omega)
 rw [h1,val_inj h2 lx h3 rx (Int.le_antisymm h5 h4)]
theorem eq_of_val8 {x y:Nat} (lx:x < 18446744073709551616) (ly:y < 18446744073709551616) (rx:rightB x=true) (ry:rightB y=true) (h:val x=val y):Op.floatEq .f64 x y=true:=
 (order_eq x y lx ly rx ry).trans (decide_eq_true h)
theorem lIn8_any (al ah bl bh:Nat) (w:World) (o1:((FloatKind.f64.format.order bl al == some Ordering.lt) || (FloatKind.f64.format.order bl al == some Ordering.eq))=true) (o2:((FloatKind.f64.format.order ah bh == some Ordering.lt) || (FloatKind.f64.format.order ah bh == some Ordering.eq))=true) :
   Calls Tryz.prog 11 #[.agg #[al,ah],.agg #[bl,bh]] w fun r w'=>r = .returned (.bool true)∧Below w.heap.size w w':=by
 have M:=Lib.hid (((Own.nil w).made #[al,ah] 31).made #[bl,bh] 31)
 simp only [World.size_alloc] at M
 obtain⟨k1,k2⟩:=(M.out.nth 1 rfl).two
 obtain⟨k3,k4⟩:=(M.out.nth 0 rfl).two
 go_enter Tryz.func11,Tryz.ntmps11
 go_wp2
 go_ret
 exact ⟨by rw [←o2]; rfl,M.out.base⟩
end
end Go.Proofs.YtnaomilkgfkegaaGreat
