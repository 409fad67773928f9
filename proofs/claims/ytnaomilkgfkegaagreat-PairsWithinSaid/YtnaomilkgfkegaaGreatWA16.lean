/- What the claim stands on, part 17: QO1, LanS. -/
import Derived.Test.YtnaomilkgfkegaaGreatWA13
import Derived.Test.YtnaomilkgfkegaaGreatWA15
import Derived.Deep.RegionHeld3
set_option maxHeartbeats 4000000
set_option maxRecDepth 100000
namespace Go.Proofs.YtnaomilkgfkegaaGreat
section
open Go.RowKit
section
variable {P:Program} {ops:Array Oper} {Q:Exit→Act→World→Prop} {md:Region.Mode} {S:World→Prop}
def latAtP (pl:List Bool) (md:Region.Mode) (ops:Array Oper) (L0:Array Bool) (cs ms:List Nat) (k:Nat) (p:List Bool):Bool:=
 if pl.getD k false&&decide (k < cs.length) then
   (match cs[k]? with
     | some i=>Region.noSelect ops&&Region.free md ops (lstOf L0 cs ms k p) i&&(Region.ready md ops (lstOf L0 cs ms k p)).contains i&&closedB md ops (lstOf L0 cs ms k p)&&((lstOf L0 cs ms k p).setIfInBounds i true == lstOf L0 cs ms (k+1) p)
     | none=>false)
 else latAt md ops L0 cs ms k p
def latOkP (pl:List Bool) (md:Region.Mode) (ops:Array Oper) (L0:Array Bool) (cs ms:List Nat):Bool:=
 (List.range (cs.length+1)).all fun k=>(boolLists ms.length).all fun p=>latAtP pl md ops L0 cs ms k p
theorem latP_any {pl:List Bool} {L0:Array Bool} {cs ms:List Nat} {N:Nat} (J:Nat→List (Option Nat)→Act→World→Prop) (hok:latOkP pl md ops L0 cs ms=true)
   (hS:∀ k p a w,J k p a w→S w)
   (call:∀ k i p a w,cs[k]? = some i→pl.getD k false=false→J k p a w→wpOp P ops Q i (fun b v=>J (k+1) p b v) a w)
   (take:∀ k i p a w,cs[k]? = some i→pl.getD k false=true→J k p a w→∃ o x,ops[i]? = some o∧YieldsIf P ops S o x a∧(∀ c a w,Q (.panic c) (a.put o.dst x) w→Q (.panic c) a w)∧J (k+1) p (a.put o.dst x) w)
   (alloc:∀ k m i p a w,ms[m]? = some i→p[m]? = some none→J k p a w→wpOp P ops Q i (fun b v=>∃ q,J k (p.set m (some q)) b v) a w)
   (fin:∀ p a w,p.length=ms.length→(∀ x∈p,x.isSome=true)→J cs.length p a w→wpAnyV P md ops Q S [] N (lstOf L0 cs ms cs.length (p.map Option.isSome)) a w) :
   ∀ (f k:Nat) (p:List (Option Nat)) (a:Act) (w:World),p.length=ms.length→k≤cs.length→f=(cs.length - k)+p.count none→J k p a w →
     wpAnyV P md ops Q S [] (N+f) (lstOf L0 cs ms k (p.map Option.isSome)) a w
 | 0,k,p,a,w,hp,hk,hf,hJ=>by
   obtain rfl:k=cs.length:=by omega
   exact fin p a w hp (count_nil p (by omega)) hJ
 | f+1,k,p,a,w,hp,hk,hf,hJ=>by
   have hat:latAtP pl md ops L0 cs ms k (p.map Option.isSome)=true:=by
     unfold latOkP at hok
     rw [List.all_eq_true] at hok
     have h1:=hok k (by simp; omega)
     rw [List.all_eq_true] at h1
     refine h1 _ ?_
     have:=mem_bools (p.map Option.isSome)
     rw [List.length_map,hp] at this
     exact this
   have hnot:(decide (k=cs.length)&&(p.map Option.isSome).all id)=false:=by
     rw [Bool.eq_false_iff]
     intro h
     rw [Bool.and_eq_true,decide_eq_true_eq,List.all_eq_true] at h
     have hc:p.count none=0:=by
       rw [List.count_eq_zero]
       intro hm
       have:=h.2 false (by rw [List.mem_map]; exact ⟨none,hm,rfl⟩)
       simp at this
     omega
   unfold latAtP at hat
   by_cases g:pl.getD k false=true∧k < cs.length
   · rw [g.1,decide_eq_true g.2,Bool.and_true,if_pos rfl] at hat
     cases hck:cs[k]? with
     | none=>rw [hck] at hat; cases hat
     | some i =>
       rw [hck] at hat
       simp only [Bool.and_eq_true,beq_iff_eq] at hat
       obtain⟨⟨⟨⟨h1,h2⟩,h3⟩,h4⟩,hl⟩:=hat
       obtain⟨o,x,ho,hy,hQ,hJ'⟩:=take k i p a w hck g.1 hJ
       refine tails_take (T:=[]) ho h1 h2 h3 (by rw [h4]; rfl) hQ hy (hS _ _ _ _ hJ) ?_
       rw [hl]
       exact latP_any J hok hS call take alloc fin f (k+1) p _ w hp (by omega) (by omega) hJ'
   have g':(pl.getD k false&&decide (k < cs.length))=false:=by
     rw [Bool.eq_false_iff]; intro e
     rw [Bool.and_eq_true,decide_eq_true_eq] at e
     exact g e
   rw [g',if_neg Bool.false_ne_true] at hat
   unfold latAt at hat
   rw [hnot,Bool.false_or,Bool.and_eq_true,List.all_eq_true] at hat
   obtain⟨hne,hall⟩:=hat
   refine ⟨fun h0=>by rw [h0] at hne; simp at hne,fun i hi=>?_⟩
   have hi':=hall i hi
   rw [Bool.or_eq_true] at hi'
   rcases hi' with h | h
   · cases hck:cs[k]? with
     | none=>rw [hck] at h; simp at h
     | some j =>
       rw [hck] at h
       simp only [Bool.and_eq_true,beq_iff_eq] at h
       obtain⟨rfl,hl⟩:=h
       have hk':k < cs.length:=by
         rcases Nat.lt_or_ge k cs.length with g | g
         · exact g
         · rw [List.getElem?_eq_none g] at hck; cases hck
       refine wpOp_mono (fun b v hb=>⟨Or.inr (hS _ _ _ _ hb),?_⟩) (call k i p a w hck (by cases e:pl.getD k false; rfl; exact absurd ⟨e,hk'⟩ g) hJ)
       rw [hl]
       exact latP_any J hok hS call take alloc fin f (k+1) p b v hp (by omega) (by omega) hb
   · rw [List.any_eq_true] at h
     obtain⟨m,hm,h⟩:=h
     simp only [Bool.and_eq_true,beq_iff_eq] at h
     obtain⟨⟨h1,h2⟩,hl⟩:=h
     have h3:p[m]? = some none:=by
       rw [List.getElem?_map] at h2
       cases hpm:p[m]? with
       | none=>rw [hpm] at h2; simp at h2
       | some x =>
         rw [hpm] at h2
         cases x
         · rfl
         · simp at h2
     refine wpOp_mono (fun b v hb=>?_) (alloc k m i p a w h1 h3 hJ)
     obtain⟨q,hb⟩:=hb
     refine ⟨Or.inr (hS _ _ _ _ hb),?_⟩
     have e:(p.map Option.isSome).set m true=(p.set m (some q)).map Option.isSome:=by
       rw [List.map_set]; rfl
     rw [hl,e]
     exact latP_any J hok hS call take alloc fin f k (p.set m (some q)) b v (by rw [List.length_set]; exact hp) hk (by have:=count_set p m q h3; omega) hb
theorem latP_from {pl:List Bool} {a0:Act} {w0:World} {L0:Array Bool} (cs ms slots:List Nat) (N f:Nat) (J:Act→Nat→List (Option Nat)→Act→World→Prop) (hok:latOkP pl md ops L0 cs ms=true) (hf:f=cs.length+ms.length)
   (hsl:(slots.all fun s=>decide (s < a0.tmps.size))=true) (h0:∀ A:Act,(∀ s,s∈slots→s < A.tmps.size)→J A 0 (List.replicate ms.length none) A w0)
   (hS:∀ k p a w,J a0 k p a w→S w)
   (call:∀ k i p a w,cs[k]? = some i→pl.getD k false=false→J a0 k p a w→wpOp P ops Q i (fun b v=>J a0 (k+1) p b v) a w)
   (take:∀ k i p a w,cs[k]? = some i→pl.getD k false=true→J a0 k p a w→∃ o x,ops[i]? = some o∧YieldsIf P ops S o x a∧(∀ c a w,Q (.panic c) (a.put o.dst x) w→Q (.panic c) a w)∧J a0 (k+1) p (a.put o.dst x) w)
   (alloc:∀ k m i p a w,ms[m]? = some i→p[m]? = some none→J a0 k p a w→wpOp P ops Q i (fun b v=>∃ q,J a0 k (p.set m (some q)) b v) a w)
   (fin:∀ p a w,p.length=ms.length→(∀ x∈p,x.isSome=true)→J a0 cs.length p a w→wpAnyV P md ops Q S [] N (lstOf L0 cs ms cs.length (p.map Option.isSome)) a w) :
   wpAnyV P md ops Q S [] (N+f) L0 a0 w0:=by
 have h:=latP_any (J a0) hok hS call take alloc fin f 0 (List.replicate ms.length none) a0 w0 (by simp) (Nat.zero_le _) (by rw [hf]; simp) (h0 a0 (fun s hs=>by rw [List.all_eq_true] at hsl; exact of_decide_eq_true (hsl s hs)))
 have e:lstOf L0 cs ms 0 ((List.replicate ms.length none).map (Option.isSome (α:=Nat)))=L0:=by
   unfold lstOf
   rw [List.take_zero,List.foldl_nil]
   have:∀ (ms:List Nat) (L:Array Bool),(ms.zip ((List.replicate ms.length none).map (Option.isSome (α:=Nat)))).foldl (fun l x=>if x.2 then l.setIfInBounds x.1 true else l) L=L:=by
     intro ms
     induction ms with
     | nil=>intro L; rfl
     | cons m ms ih=>intro L; simpa [List.replicate_succ] using ih L
   exact this ms L0
 rw [e] at h
 exact h
end
end
section
open Go.RowKit
section
variable {B v v':World} {l:List (Nat×Array Value)}
theorem Own.setIn (h:Own B l v) (i:Nat) {q:Nat} {c:Array Value} (hi:l[i]? = some (q,c)) (k:Nat) (y:Value):Own B (l.set i (q,c.setIfInBounds k y)) (v.setCell ⟨q,k,none⟩ y):=
 h.at i hi (h.base.setCell (h.lowest i hi) _) ((h.nth i hi).setIn k y) (fun _ hx hne=>hx.set hne)
theorem Own.to {l':List (Nat×Array Value)} (h:Own B l v) (e:l=l'):Own B l' v:=e ▸ h
theorem Own.rebase (h:Own B l v) {pb:Nat} {y:Value} (hp:pb < B.heap.size) (hb:Put ⟨pb,0,none⟩ y v v'):Own (B.setCell ⟨pb,0,none⟩ y) l v' where
 base:=by
   have k:=both h.base ⟨pb,0,none⟩ y
   have k2:Below v.heap.size (v.setCell ⟨pb,0,none⟩ y) v':=hb
   rw [size_set]
   exact k.trans (k2.mono h.base.size)
 blocks:=fun x hx=>by
   obtain⟨h1,h2⟩:=h.blocks x hx
   have hne:pb≠x.1:=by omega
   exact ⟨h1.put hne hb,by rw [size_set]; exact h2⟩
 apart:=h.apart
theorem Has1.other {w:World} {pb:Nat} {x:Value} (h:Has1 w (pb,#[x])) (y:Value):Has1 (w.setCell ⟨pb,0,none⟩ y) (pb,#[y]):=h.setIn 0 y
theorem Own.put {p:Addr} {y:Value} (h:Own (B.setCell p y) l v):Put p y B v:=by
 have k:=h.base
 rw [size_set] at k
 exact k
theorem put_same {p:Addr} {x:Value} (hc:v.cell? p=some x) (h:Put p x v v'):Below v.heap.size v v':=by
 have k:Below v.heap.size (v.setCell p x) v':=h
 exact ⟨k.os,k.tape,k.output,by have:=k.size; rw [size_set] at this; exact this,fun i hi=>(k.block i hi).trans (set_self v p x hc i)⟩
theorem Has1.ten {w:World} {b:Nat} {x0 x1 x2 x3 x4 x5 x6 x7 x8 x9:Value} (h:Has1 w (b,#[x0,x1,x2,x3,x4,x5,x6,x7,x8,x9])) :
   w.cell? ⟨b,0,none⟩=some x0∧w.cell? ⟨b,1,none⟩=some x1∧w.cell? ⟨b,2,none⟩=some x2∧w.cell? ⟨b,3,none⟩=some x3∧w.cell? ⟨b,4,none⟩=some x4∧w.cell? ⟨b,5,none⟩=some x5∧w.cell? ⟨b,6,none⟩=some x6∧w.cell? ⟨b,7,none⟩=some x7∧w.cell? ⟨b,8,none⟩=some x8∧w.cell? ⟨b,9,none⟩=some x9:=
 ⟨h.2.1 0,h.2.1 1,h.2.1 2,h.2.1 3,h.2.1 4,h.2.1 5,h.2.1 6,h.2.1 7,h.2.1 8,h.2.1 9⟩
end
theorem kb_of {f:FuncId} {pb:Nat} {xs:Array Value} {x:Value} {v:World} (hC:Has1 v (pb,#[true]))
   (h:Calls Tryz.prog f xs v fun r w'=>r = .returned x∧Put ⟨pb,0,none⟩ (.int .i64 0) v w'):Calls Tryz.prog f xs v fun r w'=>r = .returned x∧Below v.heap.size v w':=
 h.mono fun _ _ ⟨h1,h2⟩=>⟨h1,put_same hC.pc h2⟩
end
section
open Go.RowKit
attribute [local go_sem] run_store_float
theorem lcheck1_walk (q a0 b0:Nat) (R0 p0 g0:Bool) (w:World) (hA:Has1 w (q,#[a0,b0]))
   (c0:Hid (∀ w,Calls Tryz.prog 46 #[.agg #[a0,b0]] w (Rt (.bool R0) w)))
   (o0:(FloatKind.f64.format.order a0 0 == some Ordering.lt)=p0) (u0:(FloatKind.f64.format.order b0 4607182418800017408 == some Ordering.gt)=g0)
   : Calls Tryz.prog 222 #[.slice (some ⟨q,0,none⟩) 1 1] w fun r w'=>r = .returned (.int .i64 (if (R0)=true then (if (p0 || g0)=true then 2 else 0) else 20))∧Below w.heap.size w w':=by
 have M:Hid (Mem w [(q,#[a0,b0])] w):=Lib.hid ⟨Below.refl _ _,fun p hp=>by obtain rfl:=List.mem_singleton.1 hp; exact hA⟩
 clear hA
 obtain⟨k0,k1⟩:=(M.out.nth 0 rfl).two
 go_enter Tryz.func222,Tryz.ntmps222
 go_wp2_with fail
 refine wp_loop_rounds 2 ?_
 rw [rounds_succ]
 go_wp2_with fail
 replace M:=Lib.hid (M.out.made #[a0,b0] 31)
 refine (c0.out _).mono ?_
 rintro r w0 ⟨rfl,hb⟩
 replace M:=Lib.hid (M.out.below hb)
 clear hb k0 k1 c0
 obtain⟨k0,k1⟩:=(M.out.nth 1 rfl).two
 cases R0
 · go_wp2
   go_ret
   exact ⟨rfl,M.out.base⟩
 · go_wp2_with fail
   rw [rounds_succ]
   go_wp2_with fail
   refine wp_loop_rounds 2 ?_
   rw [rounds_succ]
   have M1:=Lib.hid (M.out.made #[a0,b0] 31)
   cases p0
   rotate_left
   · go_wp2
     go_ret
     exact ⟨by simp,M1.out.base⟩
   cases g0
   rotate_left
   · go_wp2
     go_ret
     exact ⟨by simp,M1.out.base⟩
   go_wp2_with fail
   clear M k0 k1 o0 u0
   have M:=M1
   clear M1
   obtain⟨k0,k1⟩:=(M.out.nth 2 rfl).two
   rw [rounds_succ]
   go_wp2
   go_ret
   exact ⟨rfl,M.out.base⟩
theorem eq_floats (x y:Nat) (w:World):(Op.equalIn 9999 25 (.float .f64 x) (.float .f64 y)).run Tryz.prog w = .ok (Op.floatEq .f64 x y) w:=by
 have hf:=run_underlying Tryz.underlying25 (w:=w)
 show (Op.equalIn (9998+1) 25 _ _).run Tryz.prog w=_
 rw [Op.equalIn]
 simp only [Sem.run_bind,hf,Result.andThen]
 simp [go_sem]
theorem overLit_walk (al ah bl bh rl rh:Nat) (e:Int) (pb p:Nat) (w:World) (hC:Has1 w (pb,#[true])) (hA:Has1 w (p,#[al,ah])) (n1:pb≠p)
   (cP:Hid (∀ w,Calls Tryz.prog 162 #[] w (Rt (.agg #[bl,bh]) w)))
   (cD:Hid (K2 60 0 e al ah bl bh rl rh)) :
   Calls Tryz.prog 211 #[.pointer (some ⟨pb,0,none⟩),.pointer (some ⟨p,0,none⟩)] w fun r w'=>r = .returned (.agg #[rl,rh])∧Put ⟨pb,0,none⟩ (.int .i64 e) w w':=by
 have E:=Lib.hid (((EnvE.start hC).add hA n1).made #[(),()] 31)
 have zp:w.heap.size≠p:=Ne.symm (Nat.ne_of_lt hA.1)
 clear hC hA n1
 go_enter Tryz.func211,Tryz.ntmps211
 go_upto_region 1 with fail
 revert E
 generalize (w.alloc (.cells #[(),()] 31))=W
 intro E
 obtain⟨k1,k2⟩:=(E.out.nth 1 rfl).two; have kc:=(E.out.nth 0 rfl).2.1; have kf:=(E.out.nth 0 rfl).2.2
 go_region_held3 (fun w'=>w'.cell? ⟨p,0,none⟩=some (.float .f64 al)∧w'.cell? ⟨p,1,none⟩=some (.float .f64 ah)) (((try dsimp only); (repeat' apply And.intro); all_goals (repeat (first | (with_reducible assumption) | ((with_reducible refine keep_undrew ?_); (with_reducible assumption)) | (with_reducible refine keep_drew ?_) | (with_reducible refine keep_alloc _ ?_) | (with_reducible refine keep_set _ (by first | (with_reducible assumption) | omega) ?_)))))
   (first
     | (go_at_call 162; (with_reducible refine (cP.out _).mono ?_); rintro rr w5 ⟨rfl,hp⟩; have E':=Lib.hid (E.out.drew.below hp); clear E hp k1 k2 kc kf; have E:=E'; clear E'; obtain⟨k1,k2⟩:=(E.out.nth 1 rfl).two; have kc:=(E.out.nth 0 rfl).2.1; have kf:=(E.out.nth 0 rfl).2.2)
     | (go_at_call 60; (with_reducible refine (cD.out _ _ E.out.cal).mono ?_); rintro rr w5 ⟨rfl,hp⟩; have E':=Lib.hid (E.out.putc hp); clear E hp k1 k2 kc kf; have E:=E'; clear E'; obtain⟨k1,k2⟩:=(E.out.nth 1 rfl).two; have kc:=(E.out.nth 0 rfl).2.1; have kf:=(E.out.nth 0 rfl).2.2))
 have F:=Lib.hid (E.out.set2 (E.out.nth 0 rfl) (E.out.ne 0 rfl) (by omega) (.float .f64 rl) (.float .f64 rh))
 go_wp2
 obtain⟨f1,f2⟩:=(F.out.nth 0 rfl).two
 exact bodyPost_ret (v:=.agg #[.float .f64 rl,.float .f64 rh]) (by simp [results,Tryz.results211,go_sem,f1,f2]) rfl ⟨rfl,F.out.put⟩
theorem computed_over (al ah rl rh:Nat) (e:Int) (p s:Nat) (w:World) (hp:Has1 w (p,#[al,ah]))
   (cH:Hid (∀ v,Below w.heap.size w v→Calls Tryz.prog 222 #[.slice (some ⟨s,0,none⟩) 1 1] v (Rt (.int .i64 0) v)))
   (cF:Hid (∀ (pb:Nat) (v:World),Has1 v (pb,#[true])→Has1 v (p,#[al,ah])→pb≠p →  Calls Tryz.prog 211 #[.pointer (some ⟨pb,0,none⟩),.pointer (some ⟨p,0,none⟩)] v fun r w'=>r = .returned (.agg #[rl,rh])∧Put ⟨pb,0,none⟩ (.int .i64 e) v w')) :
   Calls Tryz.prog 210 #[.func (.func 211) #[] #[.pointer (some ⟨p,0,none⟩)],.slice (some ⟨s,0,none⟩) 1 1] w (Rt (.tuple #[.agg #[rl,rh],.int .i64 e]) w):=by
 have M:=Lib.hid ((Own.nil w).made #[(),()] 31)
 have zp:p < w.heap.size:=hp.1
 go_enter Tryz.func210,Tryz.ntmps210
 go_wp2_with fail
 refine (cH.out _ M.out.base).mono ?_
 rintro r w1 ⟨rfl,hb⟩
 replace M:=Lib.hid ((M.out.below hb).made #[true] 74)
 clear hb cH
 have Hp:=Lib.hid (Has1.below hp M.out.base)
 clear hp
 have hz:w.heap.size≤w1.heap.size:=M.out.lowest 0 rfl
 go_wp2_with fail
 refine (cF.out _ _ (M.out.nth 0 rfl) Hp.out (by omega)).mono ?_
 rintro r w2 ⟨rfl,hp⟩
 replace M:=Lib.hid (M.out.putAt 0 rfl hp)
 dsimp only [List.set] at M
 clear hp cF Hp
 go_wp2_with fail
 refine (err_any e _ 0 _ (M.out.nth 0 rfl).pc).mono ?_
 rintro r w3 ⟨rfl,rfl⟩
 have kc:=(M.out.nth 1 rfl).2.1
 have kf:=(M.out.nth 1 rfl).2.2
 replace M:=Lib.hid (M.out.set2 1 rfl (.float .f64 rl) (.float .f64 rh))
 dsimp only [List.set] at M
 go_wp2
 obtain⟨f1,f2⟩:=(M.out.nth 1 rfl).two
 exact bodyPost_ret (v:=.tuple #[.agg #[.float .f64 rl,.float .f64 rh],.int .i64 e]) (by simp [results,Tryz.results210,go_sem,f1,f2]) rfl ⟨rfl,M.out.base⟩
theorem overPi_walk (al ah rl rh:Nat) (e:Int) (w:World)
   (cC:Hid (∀ (p s:Nat) (v:World),Has1 v (p,#[al,ah])→Has1 v (s,#[al,ah])→Calls Tryz.prog 210 #[.func (.func 211) #[] #[.pointer (some ⟨p,0,none⟩)],.slice (some ⟨s,0,none⟩) 1 1] v (Rt (.tuple #[.agg #[rl,rh],.int .i64 e]) v))) :
   Calls Tryz.prog 196 #[.agg #[al,ah]] w (Rt (.tuple #[.agg #[rl,rh],.int .i64 e]) w):=by
 have M:=Lib.hid ((((Own.nil w).made #[al,ah] 31).made #[(),()] 31).made #[al,ah] 31)
 simp only [World.size_alloc] at M
 have hmf:∀ (fn:Fn) (first cap:Array Value) (w:World),(Instr.makeFunc fn first cap).run Tryz.prog w = .ok (.func fn first cap) w:=fun _ _ _ _=>rfl
 obtain⟨k0,k1⟩:=(M.out.nth 2 rfl).two
 go_enter Tryz.func196,Tryz.ntmps196
 go_wp2_with fail
 refine (cC.out _ _ _ (M.out.nth 2 rfl) (M.out.nth 0 rfl)).mono ?_
 rintro r w1 ⟨rfl,hb⟩
 replace M:=Lib.hid (M.out.below hb)
 clear hb cC k0 k1 hmf
 have kc:=(M.out.nth 1 rfl).2.1
 have kf:=(M.out.nth 1 rfl).2.2
 replace M:=Lib.hid (M.out.set2 1 rfl (.float .f64 rl) (.float .f64 rh))
 go_wp2
 obtain⟨f1,f2⟩:=(M.out.nth 1 rfl).two
 exact bodyPost_ret (v:=.tuple #[.agg #[.float .f64 rl,.float .f64 rh],.int .i64 e]) (by simp [results,Tryz.results196,go_sem,f1,f2]) rfl ⟨rfl,M.out.base⟩
theorem value_walk (al ah rl rh:Nat) (e:Int) (w:World)
   (cO:Hid (∀ w,Calls Tryz.prog 196 #[.agg #[al,ah]] w (Rt (.tuple #[.agg #[rl,rh],.int .i64 e]) w))) :
   Calls Tryz.prog 181 #[.agg #[al,ah]] w (Rt (.tuple #[.agg #[rl,rh],.int .i64 e]) w):=by
 have M:=Lib.hid (((Own.nil w).made #[al,ah] 31).made #[(),()] 31)
 simp only [World.size_alloc] at M
 obtain⟨k1,k2⟩:=(M.out.nth 1 rfl).two
 go_enter Tryz.func181,Tryz.ntmps181
 go_wp2_with fail
 refine (cO.out _).mono ?_
 rintro r w1 ⟨rfl,hb⟩
 replace M:=Lib.hid (M.out.below hb)
 clear hb cO k1 k2
 have kc:=(M.out.nth 0 rfl).2.1
 have kf:=(M.out.nth 0 rfl).2.2
 replace M:=Lib.hid (M.out.set2 0 rfl (.float .f64 rl) (.float .f64 rh))
 go_wp2
 obtain⟨f1,f2⟩:=(M.out.nth 0 rfl).two
 exact bodyPost_ret (v:=.tuple #[.agg #[.float .f64 rl,.float .f64 rh],.int .i64 e]) (by simp [results,Tryz.results181,go_sem,f1,f2]) rfl ⟨rfl,M.out.base⟩
theorem density_walk (al ah rl rh:Nat) (e:Int) (w:World)
   (cO:Hid (∀ w,Calls Tryz.prog 196 #[.agg #[al,ah]] w (Rt (.tuple #[.agg #[rl,rh],.int .i64 e]) w))) :
   Calls Tryz.prog 183 #[.agg #[al,ah]] w (Rt (.tuple #[.agg #[rl,rh],.int .i64 e]) w):=by
 have M:=Lib.hid (((Own.nil w).made #[al,ah] 31).made #[(),()] 31)
 simp only [World.size_alloc] at M
 obtain⟨k1,k2⟩:=(M.out.nth 1 rfl).two
 go_enter Tryz.func183,Tryz.ntmps183
 go_wp2_with fail
 refine (cO.out _).mono ?_
 rintro r w1 ⟨rfl,hb⟩
 replace M:=Lib.hid (M.out.below hb)
 clear hb cO k1 k2
 have kc:=(M.out.nth 0 rfl).2.1
 have kf:=(M.out.nth 0 rfl).2.2
 replace M:=Lib.hid (M.out.set2 0 rfl (.float .f64 rl) (.float .f64 rh))
 go_wp2
 obtain⟨f1,f2⟩:=(M.out.nth 0 rfl).two
 exact bodyPost_ret (v:=.tuple #[.agg #[.float .f64 rl,.float .f64 rh],.int .i64 e]) (by simp [results,Tryz.results183,go_sem,f1,f2]) rfl ⟨rfl,M.out.base⟩
end
section
open Go.RowKit
section
variable {B w v v':World} {l:List (Nat×Array Value)} {p:Addr} {x y:Value}
theorem Own.srf {pb:Nat} {c:Array Value} (hC:Has1 w (pb,c)) (h0:c[0]? = some x):Own (w.setCell ⟨pb,0,none⟩ x) [] w where
 base:=⟨rfl,rfl,rfl,by rw [size_set]; exact Nat.le_refl _,fun k _=>(set_self w ⟨pb,0,none⟩ x ((hC.2.1 0).trans h0) k).symm⟩
 blocks:=fun _ h=>by cases h
 apart:=List.Pairwise.nil
theorem resrf_base (h:Below (w.setCell p x).heap.size (w.setCell p x) v) (hb:Put p y v v'):Below (w.setCell p y).heap.size (w.setCell p y) v':=by
 have k:=both h p y;have k2:Below v.heap.size (v.setCell p y) v':=hb;have s:=h.size;rw [size_set] at s k ⊢;have k3:=k.trans (k2.mono s);refine ⟨k3.os,k3.tape,k3.output,?_,fun i hi=>(k3.block i hi).trans (set_set w p x y i)⟩;have:=k3.size;rw [size_set,size_set] at this
 rw [size_set]; exact this
theorem Own.resrf (h:Own (w.setCell p x) l v) (hp:p.block < w.heap.size) (hb:Put p y v v'):Own (w.setCell p y) l v' where
 base:=resrf_base h.base hb
 blocks:=fun q hq=>by
  obtain⟨h1,h2⟩:=h.blocks q hq;rw [size_set] at h2 ⊢;exact ⟨h1.put (by omega) hb,h2⟩
 apart:=h.apart
theorem OwnF.resrf {zc:List (Array Value)} {pl:List (Option Nat)} (h:OwnF (w.setCell p x) l zc pl v) (hp:p.block < w.heap.size) (hb:Put p y v v'):OwnF (w.setCell p y) l zc pl v':=
 ⟨h.own.resrf hp hb,fun m r hm=>by
  obtain⟨⟨c,h1,h2⟩,h3,h4⟩:=h.blk m r hm;rw [size_set] at h3 ⊢
  exact ⟨⟨c,h1,h2.put (by show p.block≠r; omega) hb⟩,h3,h4⟩,h.apart⟩
theorem Has1.at {pb:Nat} {e x1 x2 x3 x4 x5 x6:Value} (hC:Has1 w (pb,#[e,x1,x2,x3,x4,x5,x6])) (h:Own (w.setCell ⟨pb,0,none⟩ y) l v):Has1 v (pb,#[y,x1,x2,x3,x4,x5,x6]):=
 (hC.setIn 0 y).below h.base
theorem Own.base_srf {pb:Nat} {e x1 x2 x3 x4 x5 x6:Value} (h:Own (w.setCell ⟨pb,0,none⟩ e) l v) (hC:Has1 w (pb,#[e,x1,x2,x3,x4,x5,x6])):Below w.heap.size w v:=put_same (hC.2.1 0) h.put
theorem Has1.c0 {pb:Nat} {e x1 x2 x3 x4 x5 x6:Value} (h:Has1 v (pb,#[e,x1,x2,x3,x4,x5,x6])):v.cell? ⟨pb,0,none⟩=some e:=h.2.1 0
theorem Has1.seven {b:Nat} {x0 x1 x2 x3 x4 x5 x6:Value} (h:Has1 v (b,#[x0,x1,x2,x3,x4,x5,x6])) :
  v.cell? ⟨b,0,none⟩=some x0∧v.cell? ⟨b,1,none⟩=some x1∧v.cell? ⟨b,2,none⟩=some x2∧v.cell? ⟨b,3,none⟩=some x3∧v.cell? ⟨b,4,none⟩=some x4∧v.cell? ⟨b,5,none⟩=some x5∧v.cell? ⟨b,6,none⟩=some x6:=
 ⟨h.2.1 0,h.2.1 1,h.2.1 2,h.2.1 3,h.2.1 4,h.2.1 5,h.2.1 6⟩
theorem Has1.but0 {b:Nat} {x0 x1 x2 x3 x4 x5 x6:Value} (h:Has1 v (b,#[x0,x1,x2,x3,x4,x5,x6])) :
  v.cell? ⟨b,1,none⟩=some x1∧v.cell? ⟨b,2,none⟩=some x2∧v.cell? ⟨b,3,none⟩=some x3∧v.cell? ⟨b,4,none⟩=some x4∧v.cell? ⟨b,5,none⟩=some x5∧v.cell? ⟨b,6,none⟩=some x6:=
 ⟨h.2.1 1,h.2.1 2,h.2.1 3,h.2.1 4,h.2.1 5,h.2.1 6⟩
theorem Own.putIn (h:Own B l v) (i:Nat) {q k:Nat} {c:Array Value} (hi:l[i]? = some (q,c)) (hb:Put ⟨q,k,none⟩ y v v'):Own B (l.set i (q,c.setIfInBounds k y)) v':=
 h.at i hi (h.base.trans (hb.lift (h.lowest i hi) h.base.size)) (((h.nth i hi).setIn k y).below (by
  have k2:Below v.heap.size (v.setCell ⟨q,k,none⟩ y) v':=hb
  rw [size_set]; exact k2)) (fun _ hx hne=>hx.put hne hb)
end
end
end Go.Proofs.YtnaomilkgfkegaaGreat
