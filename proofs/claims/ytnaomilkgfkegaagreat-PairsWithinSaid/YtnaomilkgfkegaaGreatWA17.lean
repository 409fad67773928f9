/- What the claim stands on, part 18: QVt. -/
import Derived.Test.YtnaomilkgfkegaaGreatWA13
import Derived.Deep.RegionHeld3
set_option maxHeartbeats 4000000
set_option maxRecDepth 100000
namespace Go.Proofs.YtnaomilkgfkegaaGreat
section
open Go.RowKit
theorem nil_wd {r:Res} (h:Nil0 r) (he:r.e≠0):Wd r:=by
 obtain⟨h1,h2⟩:=h he
 exact ⟨by rw [h1]; decide,by rw [h2]; decide⟩
theorem st2_wd {j:Nat} (hj:j < 6) (e:Int) {a b:Res} (ha:Wd a) (hb:Wd b):Wd (stepI e (ivR a.lo a.hi&&ivR b.lo b.hi) (askI a.lo a.hi b.lo b.hi j)):=by
 by_cases h:(stepI e (ivR a.lo a.hi&&ivR b.lo b.hi) (askI a.lo a.hi b.lo b.hi j)).e=0
 · obtain⟨_,h2,h3⟩:=st_none h
   rw [Bool.and_eq_true] at h2
   rw [h3] at h ⊢
   obtain⟨n1,_,n3,_⟩:=ask_nums a.lo a.hi b.lo b.hi j (by omega) ha.lo ha.hi hb.lo hb.hi h2.1 h2.2 h
   exact ⟨n1,n3⟩
 · refine nil_wd ?_ h
   have hn:=ask_nil e a.lo a.hi b.lo b.hi j (by omega)
   rcases (show j=0∨j=1∨j=2∨j=3∨j=4∨j=5 by omega) with rfl | rfl | rfl | rfl | rfl | rfl <;> exact hn
theorem st1_wd {j:Nat} (hj:j=6∨j=7∨j=8) (e:Int) {a:Res} (ha:Wd a):Wd (stepI e (ivR a.lo a.hi) (askI a.lo a.hi a.lo a.hi j)):=by
 by_cases h:(stepI e (ivR a.lo a.hi) (askI a.lo a.hi a.lo a.hi j)).e=0
 · obtain⟨_,h2,h3⟩:=st_none h
   rw [h3] at h ⊢
   obtain⟨n1,_,n3,_⟩:=ask_nums a.lo a.hi a.lo a.hi j (by omega) ha.lo ha.hi ha.lo ha.hi h2 h2 h
   exact ⟨n1,n3⟩
 · refine nil_wd ?_ h
   have hn:=ask_nil e a.lo a.hi a.lo a.hi j (by omega)
   rcases hj with rfl | rfl | rfl <;> exact hn
section
variable {a b p q r s k:Res} (e:Int) (ha:Wd a) (hb:Wd b)
include ha hb in
theorem stA_wd:Wd (stA e a b):=st2_wd (j:=0) (by decide) e ha hb
include ha hb in
theorem stM_wd:Wd (stM e a b):=st2_wd (j:=2) (by decide) e ha hb
include ha in
theorem stQ_wd:Wd (stQ e a):=st1_wd (j:=6) (by decide) e ha
end
structure WdV (a:V3):Prop where
 x:Wd a.x
 y:Wd a.y
 z:Wd a.z
theorem FitV.wd {a:V3} (h:FitV a):WdV a:=⟨h.x.wd,h.y.wd,h.z.wd⟩
section
variable {a b:V3} {k:Res} (e:Int) (ha:WdV a) (hb:WdV b) (hk:Wd k)
include ha hb in
theorem dot_any (pb:Nat) (v:World) (hC:Has1 v (pb,#[.int .i64 e])) :
   Calls Tryz.prog 184 #[.pointer (some ⟨pb,0,none⟩),.agg #[a.x.lo,a.x.hi,a.y.lo,a.y.hi,a.z.lo,a.z.hi],.agg #[b.x.lo,b.x.hi,b.y.lo,b.y.hi,b.z.lo,b.z.hi]] v
     fun r w'=>r = .returned (.agg #[.float .f64 (dotV e a b).lo,.float .f64 (dotV e a b).hi])∧Put ⟨pb,0,none⟩ (.int .i64 (dotV e a b).e) v w':=by
 have m1:=stM_wd e ha.x hb.x
 have m2:=stM_wd (dot1 e a b).e ha.y hb.y
 have m3:=stA_wd (dot2 e a b).e m1 m2
 have m4:=stM_wd (dot3 e a b).e ha.z hb.z
 exact dot_walk _ _ _ _ _ _ _ _ _ _ _ _ _ _ _ _ _ _ _ _ _ _ e _ _ _ _ _ pb v hC (Lib.hid (ce_mul e ha.x hb.x pb)) (Lib.hid (ce_mul _ ha.y hb.y pb)) (Lib.hid (ce_add _ m1 m2 pb)) (Lib.hid (ce_mul _ ha.z hb.z pb)) (Lib.hid (ce_add _ m3 m4 pb))
include ha in
theorem norm_any (pb:Nat) (v:World) (hC:Has1 v (pb,#[.int .i64 e])) :
   Calls Tryz.prog 56 #[.pointer (some ⟨pb,0,none⟩),.agg #[a.x.lo,a.x.hi,a.y.lo,a.y.hi,a.z.lo,a.z.hi]] v
     fun r w'=>r = .returned (.agg #[.float .f64 (normV e a).lo,.float .f64 (normV e a).hi])∧Put ⟨pb,0,none⟩ (.int .i64 (normV e a).e) v w':=by
 have m1:=stQ_wd e ha.x
 have m2:=stQ_wd (nrm1 e a).e ha.y
 have m3:=stA_wd (nrm2 e a).e m1 m2
 have m4:=stQ_wd (nrm3 e a).e ha.z
 have m5:=stA_wd (nrm4 e a).e m3 m4
 exact norm_walk _ _ _ _ _ _ _ _ _ _ _ _ _ _ _ _ _ _ e _ _ _ _ _ _ pb v hC (Lib.hid (ce_sqr e ha.x pb)) (Lib.hid (ce_sqr _ ha.y pb)) (Lib.hid (ce_add _ m1 m2 pb)) (Lib.hid (ce_sqr _ ha.z pb)) (Lib.hid (ce_add _ m3 m4 pb)) (Lib.hid (ce_sqrt _ m5 pb))
include ha hb in
theorem vadd_any (pb:Nat) (v:World) (hC:Has1 v (pb,#[.int .i64 e])) :
   Calls Tryz.prog 216 #[.pointer (some ⟨pb,0,none⟩),.agg #[a.x.lo,a.x.hi,a.y.lo,a.y.hi,a.z.lo,a.z.hi],.agg #[b.x.lo,b.x.hi,b.y.lo,b.y.hi,b.z.lo,b.z.hi]] v
     fun r w'=>r = .returned (.agg #[.float .f64 (addV e a b).x.lo,.float .f64 (addV e a b).x.hi,.float .f64 (addV e a b).y.lo,.float .f64 (addV e a b).y.hi,.float .f64 (addV e a b).z.lo,.float .f64 (addV e a b).z.hi])∧Put ⟨pb,0,none⟩ (.int .i64 (addV e a b).z.e) v w':=
 addV_walk _ _ _ _ _ _ _ _ _ _ _ _ _ _ _ _ _ _ e _ pb v hC (Lib.hid fun v hC=>both_add _ _ _ _ _ _ _ _ _ _ _ _ _ _ _ _ _ _ e _ _ _ pb v hC (Lib.hid (ce_add e ha.x hb.x pb)) (Lib.hid (ce_add _ ha.y hb.y pb)) (Lib.hid (ce_add _ ha.z hb.z pb)))
end
end
section
open Go.RowKit
attribute [local go_sem] run_store_float
theorem unitLit_walk (xl xh ll lh ql qh ml mh:Nat) (b:Bool) (e e1:Int) (pb lp:Nat) (w:World) (hC:Has1 w (pb,#[.int .i64 e])) (hL:Has1 w (lp,#[ll,lh])) (n1:pb≠lp)
   (cD:Hid (CE2 60 pb e e1 xl xh ll lh ql qh))
   (cM:Hid (∀ w,Calls Tryz.prog 59 #[.agg #[ql,qh],.agg #[(13830554455654793216:Nat),(4607182418800017408:Nat)]] w (Rt (.tuple #[.agg #[ml,mh],.bool b]) w))) :
   Calls Tryz.prog 58 #[.agg #[xl,xh],.pointer (some ⟨pb,0,none⟩),.pointer (some ⟨lp,0,none⟩)] w fun r w'=>r = .returned (.agg #[ml,mh])∧Put ⟨pb,0,none⟩ (.int .i64 e1) w w':=by
 have E:=Lib.hid ((((EnvE.start hC).add hL n1).made #[xl,xh] 31).made #[(),()] 31)
 simp only [World.size_alloc] at E
 obtain⟨k1,k2⟩:=(E.out.nth 1 rfl).two
 obtain⟨k3,k4⟩:=(E.out.nth 2 rfl).two
 clear hC hL n1
 go_enter Tryz.func58,Tryz.ntmps58
 go_wp2_with fail
 refine (cD.out _ E.out.cal).mono ?_
 rintro r w1 ⟨rfl,hp⟩
 have E1:=Lib.hid (E.out.putc hp)
 clear E hp k1 k2 k3 k4
 go_wp2_with fail
 refine (cM.out _).mono ?_
 rintro r w2 ⟨rfl,hb⟩
 have E2:=Lib.hid ((E1.out.below hb).made #[ml,mh] 31)
 clear E1 hb
 obtain⟨k1,k2⟩:=(E2.out.nth 0 rfl).two
 have kc:=(E2.out.nth 1 rfl).2.1
 have kf:=(E2.out.nth 1 rfl).2.2
 have F:=Lib.hid (E2.out.set2 (E2.out.nth 1 rfl) (E2.out.ne 1 rfl) (by omega) (.float .f64 ml) (.float .f64 mh))
 go_wp2
 obtain⟨f1,f2⟩:=(F.out.nth 0 rfl).two
 exact bodyPost_ret (v:=.agg #[.float .f64 ml,.float .f64 mh]) (by simp [results,Tryz.results58,go_sem,f1,f2]) rfl ⟨rfl,F.out.put⟩
theorem each_unit (axl axh ayl ayh azl azh rxl rxh ryl ryh rzl rzh ll lh:Nat) (e e1 e2 e3:Int) (pb lp:Nat) (w:World) (hC:Has1 w (pb,#[.int .i64 e])) (hP:Has1 w (lp,#[ll,lh])) (n1:pb≠lp)
   (d1:Hid (∀ v:World,Has1 v (pb,#[.int .i64 e])→Has1 v (lp,#[ll,lh])→pb≠lp→Calls Tryz.prog 58 #[.agg #[axl,axh],.pointer (some ⟨pb,0,none⟩),.pointer (some ⟨lp,0,none⟩)] v fun r w'=>r = .returned (.agg #[rxl,rxh])∧Put ⟨pb,0,none⟩ (.int .i64 e1) v w')) (d2:Hid (∀ v:World,Has1 v (pb,#[.int .i64 e1])→Has1 v (lp,#[ll,lh])→pb≠lp→Calls Tryz.prog 58 #[.agg #[ayl,ayh],.pointer (some ⟨pb,0,none⟩),.pointer (some ⟨lp,0,none⟩)] v fun r w'=>r = .returned (.agg #[ryl,ryh])∧Put ⟨pb,0,none⟩ (.int .i64 e2) v w')) (d3:Hid (∀ v:World,Has1 v (pb,#[.int .i64 e2])→Has1 v (lp,#[ll,lh])→pb≠lp→Calls Tryz.prog 58 #[.agg #[azl,azh],.pointer (some ⟨pb,0,none⟩),.pointer (some ⟨lp,0,none⟩)] v fun r w'=>r = .returned (.agg #[rzl,rzh])∧Put ⟨pb,0,none⟩ (.int .i64 e3) v w')) :
   Calls Tryz.prog 57 #[.agg #[axl,axh,ayl,ayh,azl,azh],.func (.func 58) #[] #[.pointer (some ⟨pb,0,none⟩),.pointer (some ⟨lp,0,none⟩)]] w fun r w'=>r = .returned (.agg #[rxl,rxh,ryl,ryh,rzl,rzh])∧Put ⟨pb,0,none⟩ (.int .i64 e3) w w':=by
 have E:=Lib.hid (((((EnvE.start hC).add hP n1)).made #[axl,axh,ayl,ayh,azl,azh] 33).made #[(),(),(),(),(),()] 33)
 simp only [World.size_alloc] at E
 go_enter Tryz.func57,Tryz.ntmps57
 go_upto_region 1 with fail
 revert E
 generalize ((w.alloc (.cells #[axl,axh,ayl,ayh,azl,azh] 33)).alloc (.cells #[(),(),(),(),(),()] 33))=W
 intro E
 obtain⟨k1,k2,k3,k4,k5,k6⟩:=(E.out.nth 1 rfl).six; have kc:=(E.out.nth 0 rfl).2.1; have kf:=(E.out.nth 0 rfl).2.2
 go_region_held3 (fun w'=>w'.cell? ⟨w.heap.size,0,none⟩=some (.float .f64 axl)∧w'.cell? ⟨w.heap.size,1,none⟩=some (.float .f64 axh)∧w'.cell? ⟨w.heap.size,2,none⟩=some (.float .f64 ayl)∧w'.cell? ⟨w.heap.size,3,none⟩=some (.float .f64 ayh)∧w'.cell? ⟨w.heap.size,4,none⟩=some (.float .f64 azl)∧w'.cell? ⟨w.heap.size,5,none⟩=some (.float .f64 azh)) (((try dsimp only); (repeat' apply And.intro); all_goals (repeat (first | (with_reducible assumption) | ((with_reducible refine keep_undrew ?_); (with_reducible assumption)) | (with_reducible refine keep_drew ?_) | (with_reducible refine keep_alloc _ ?_) | (with_reducible refine keep_set _ (by first | (with_reducible assumption) | omega) ?_)))))
   (first
     | (go_at_call 58; (with_reducible refine (d1.out _ E.out.drew.cal (E.out.drew.nth 2 rfl) (E.out.drew.ne 2 rfl)).mono ?_); rintro rr w5 ⟨rfl,hp⟩; have E':=Lib.hid (E.out.drew.putc hp); clear E hp k1 k2 k3 k4 k5 k6 kc kf; have E:=E'; clear E'; obtain⟨k1,k2,k3,k4,k5,k6⟩:=(E.out.nth 1 rfl).six; have kc:=(E.out.nth 0 rfl).2.1; have kf:=(E.out.nth 0 rfl).2.2)
     | (go_at_call 58; (with_reducible refine (d2.out _ E.out.cal (E.out.nth 2 rfl) (E.out.ne 2 rfl)).mono ?_); rintro rr w5 ⟨rfl,hp⟩; have E':=Lib.hid (E.out.putc hp); clear E hp k1 k2 k3 k4 k5 k6 kc kf; have E:=E'; clear E'; obtain⟨k1,k2,k3,k4,k5,k6⟩:=(E.out.nth 1 rfl).six; have kc:=(E.out.nth 0 rfl).2.1; have kf:=(E.out.nth 0 rfl).2.2)
     | (go_at_call 58; (with_reducible refine (d3.out _ E.out.cal (E.out.nth 2 rfl) (E.out.ne 2 rfl)).mono ?_); rintro rr w5 ⟨rfl,hp⟩; have E':=Lib.hid (E.out.putc hp); clear E hp k1 k2 k3 k4 k5 k6 kc kf; have E:=E'; clear E'; obtain⟨k1,k2,k3,k4,k5,k6⟩:=(E.out.nth 1 rfl).six; have kc:=(E.out.nth 0 rfl).2.1; have kf:=(E.out.nth 0 rfl).2.2))
 have F:=Lib.hid (E.out.set6 (E.out.nth 0 rfl) (E.out.ne 0 rfl) (by omega) (.float .f64 rxl) (.float .f64 rxh) (.float .f64 ryl) (.float .f64 ryh) (.float .f64 rzl) (.float .f64 rzh))
 go_wp2
 obtain⟨f1,f2,f3,f4,f5,f6⟩:=(F.out.nth 0 rfl).six
 exact bodyPost_ret (v:=.agg #[.float .f64 rxl,.float .f64 rxh,.float .f64 ryl,.float .f64 ryh,.float .f64 rzl,.float .f64 rzh]) (by simp [results,Tryz.results57,go_sem,f1,f2,f3,f4,f5,f6]) rfl ⟨rfl,F.out.put⟩
section
variable {a:V3} {k:Res} (e:Int) (ha:WdV a) (hk:Wd k)
end
end
section
open Go.RowKit
attribute [local go_sem] run_store_float
theorem run_max3 (a b c:Nat) (ha:a < 18446744073709551616) (hb:b < 18446744073709551616) (hc:c < 18446744073709551616) (ra:rightB a=true) (rb:rightB b=true) (rc:rightB c=true) (ts:Array TypeId) (t:TypeId) (w:World) :
   (Builtin.max_ ts t #[a,b,c]).run Tryz.prog w = .ok (.float .f64 (maxW (maxW a b) c)) w:=by
 obtain⟨m1,m2,_⟩:=max_facts a b ha hb ra rb
 have h1:=(run_less a b ha hb ra rb #[] 0 w).2
 have h2:=(run_less (maxW a b) c m1 hc m2 rc #[] 0 w).2
 simp [Builtin.max_] at h1 h2 ⊢
 simp [h1,h2]
theorem Has1.three {v:World} {b:Nat} {x y z:Value} (h:Has1 v (b,#[x,y,z])):v.cell? ⟨b,0,none⟩=some x∧v.cell? ⟨b,1,none⟩=some y∧v.cell? ⟨b,2,none⟩=some z:=⟨h.2.1 0,h.2.1 1,h.2.1 2⟩
abbrev CalcR (x:Nat) (b:Bool):Prop:=∀ w:World,Calls Tryz.prog 93 #[x] w fun r w'=>r = .returned (.bool b)∧w=w'
abbrev CalcAbs (x r:Nat):Prop:=∀ w:World,Calls Tryz.prog 102 #[x] w fun e w'=>e = .returned (.float .f64 r)∧w=w'
theorem hasUnit_bad (x y z:Nat) (rx ry rz:Bool) (w:World) (h:Hid ((rx&&ry&&rz)=false)) (c1:Hid (CalcR x rx)) (c2:Hid (CalcR y ry)) (c3:Hid (CalcR z rz)) :
   Calls Tryz.prog 55 #[.agg #[x,y,z]] w fun r w'=>r = .returned (.bool false)∧Below w.heap.size w w':=by
 have M:=Lib.hid ((Own.nil w).made #[x,y,z] 49)
 obtain⟨k1,k2,k3⟩:=(M.out.nth 0 rfl).three
 cases rx
 · go_enter Tryz.func55,Tryz.ntmps55
   go_wp2_with fail
   refine (c1.out _).mono ?_
   rintro r ww ⟨rfl,rfl⟩
   go_wp2
   go_ret
   exact ⟨rfl,M.out.base⟩
 · cases ry
   · go_enter Tryz.func55,Tryz.ntmps55
     go_wp2_with fail
     refine (c1.out _).mono ?_
     rintro r ww ⟨rfl,rfl⟩
     go_wp2_with fail
     refine (c2.out _).mono ?_
     rintro r ww ⟨rfl,rfl⟩
     go_wp2
     go_ret
     exact ⟨rfl,M.out.base⟩
   · obtain rfl:rz=false:=h.out
     go_enter Tryz.func55,Tryz.ntmps55
     go_wp2_with fail
     refine (c1.out _).mono ?_
     rintro r ww ⟨rfl,rfl⟩
     go_wp2_with fail
     refine (c2.out _).mono ?_
     rintro r ww ⟨rfl,rfl⟩
     go_wp2_with fail
     refine (c3.out _).mono ?_
     rintro r ww ⟨rfl,rfl⟩
     go_wp2
     go_ret
     exact ⟨rfl,M.out.base⟩
theorem hasUnit_walk (x y z p q s m:Nat) (b1 b2:Bool) (w:World) (c1:Hid (CalcR x true)) (c2:Hid (CalcR y true)) (c3:Hid (CalcR z true))
   (a1:Hid (CalcAbs x p)) (a2:Hid (CalcAbs y q)) (a3:Hid (CalcAbs z s)) (hm:∀ ts t w,(Builtin.max_ ts t #[p,q,s]).run Tryz.prog w = .ok (.float .f64 m) w)
   (o1:((FloatKind.f64.format.order 4318952042648305664 m == some Ordering.lt) || (FloatKind.f64.format.order 4318952042648305664 m == some Ordering.eq))=b1)
   (o2:((FloatKind.f64.format.order m 4895412794951729152 == some Ordering.lt) || (FloatKind.f64.format.order m 4895412794951729152 == some Ordering.eq))=b2) :
   Calls Tryz.prog 55 #[.agg #[x,y,z]] w fun r w'=>r = .returned (.bool (b1&&b2))∧Below w.heap.size w w':=by
 have M:=Lib.hid ((Own.nil w).made #[x,y,z] 49)
 obtain⟨k1,k2,k3⟩:=(M.out.nth 0 rfl).three
 go_enter Tryz.func55,Tryz.ntmps55
 go_wp2_with fail
 refine (c1.out _).mono ?_
 rintro r ww ⟨rfl,rfl⟩
 go_wp2_with fail
 refine (c2.out _).mono ?_
 rintro r ww ⟨rfl,rfl⟩
 go_wp2_with fail
 refine (c3.out _).mono ?_
 rintro r ww ⟨rfl,rfl⟩
 go_upto_region 3 with fail
 clear c1 c2 c3
 revert M k1 k2 k3
 generalize w.alloc (.cells #[x,y,z] 49)=W
 intro M k1 k2 k3
 go_region_held3 (fun w'=>w'.cell? ⟨w.heap.size,0,none⟩=some (.float .f64 x)∧w'.cell? ⟨w.heap.size,1,none⟩=some (.float .f64 y)∧w'.cell? ⟨w.heap.size,2,none⟩=some (.float .f64 z)) (((try dsimp only); (repeat' apply And.intro); all_goals (repeat (first | (with_reducible assumption) | ((with_reducible refine keep_undrew ?_); (with_reducible assumption)) | (with_reducible refine keep_drew ?_)))))
   (first
     | (go_at_call 102; (with_reducible refine (a1.out _).mono ?_); rintro rr w5 ⟨rfl,rfl⟩)
     | (go_at_call 102; (with_reducible refine (a2.out _).mono ?_); rintro rr w5 ⟨rfl,rfl⟩)
     | (go_at_call 102; (with_reducible refine (a3.out _).mono ?_); rintro rr w5 ⟨rfl,rfl⟩))
 cases b1
 · go_wp2
   go_ret
   exact ⟨rfl,M.out.base.drew⟩
 · go_wp2
   go_ret
   exact ⟨by rw [←o2]; rfl,M.out.base.drew⟩
end
section
open Go.RowKit
attribute [local go_sem] run_store_float
abbrev CalcV (f:FuncId) (pb:Nat) (a0 a1 a2 a3 a4 a5 nl nh:Nat):Prop:=∀ v:World,Has1 v (pb,#[true])→Calls Tryz.prog f #[.pointer (some ⟨pb,0,none⟩),.agg #[a0,a1,a2,a3,a4,a5]] v fun r w'=>r = .returned (.agg #[nl,nh])∧Put ⟨pb,0,none⟩ (.int .i64 0) v w'
def UnitJ (w:World) (x y z pb:Nat) (a0:Act) (k:Nat) (p:List (Option Nat)) (a:Act) (v:World):Prop:=
 ∃ y1 y2 y3 y4 z1:Value,a=(((((a0.put (some 13) y1).put (some 16) y2).put (some 19) y3).put (some 20) y4).put (some 5) z1) ∧
   (0 < k→y1 = .agg #[x,x]) ∧
   (1 < k→y2 = .agg #[y,y]) ∧
   (2 < k→y3 = .agg #[z,z]) ∧
   (3 < k→y4 = .agg #[x,x,y,y,z,z]) ∧
   (∀ q,p[0]? = some (some q)→z1 = .pointer (some ⟨q,0,none⟩)) ∧
   OwnF w [(pb,#[true]),(w.heap.size+1,#[(),(),(),(),(),()]),(w.heap.size,#[x,y,z])] [#[(),(),(),(),(),()]] p v
theorem UnitJ_0 {w:World} {x y z pb:Nat} {a0 a:Act} {p:List (Option Nat)} {v:World} (h:UnitJ w x y z pb a0 0 p a v) :
   ∃ y1 y2 y3 y4 z1:Value,a=(((((a0.put (some 13) y1).put (some 16) y2).put (some 19) y3).put (some 20) y4).put (some 5) z1)∧(∀ q,p[0]? = some (some q)→z1 = .pointer (some ⟨q,0,none⟩))∧OwnF w [(pb,#[true]),(w.heap.size+1,#[(),(),(),(),(),()]),(w.heap.size,#[x,y,z])] [#[(),(),(),(),(),()]] p v:=by
 obtain⟨y1,y2,y3,y4,z1,ha,hhe1,hhe2,hhe3,hhe4,hhg1,h⟩:=h
 exact ⟨y1,y2,y3,y4,z1,ha,hhg1,h⟩
theorem UnitJ_1 {w:World} {x y z pb:Nat} {a0 a:Act} {p:List (Option Nat)} {v:World} (h:UnitJ w x y z pb a0 1 p a v) :
   ∃ y2 y3 y4 z1:Value,a=(((((a0.put (some 13) (.agg #[x,x])).put (some 16) y2).put (some 19) y3).put (some 20) y4).put (some 5) z1)∧(∀ q,p[0]? = some (some q)→z1 = .pointer (some ⟨q,0,none⟩))∧OwnF w [(pb,#[true]),(w.heap.size+1,#[(),(),(),(),(),()]),(w.heap.size,#[x,y,z])] [#[(),(),(),(),(),()]] p v:=by
 obtain⟨y1,y2,y3,y4,z1,ha,hhe1,hhe2,hhe3,hhe4,hhg1,h⟩:=h
 obtain rfl:=hhe1 (by decide)
 exact ⟨y2,y3,y4,z1,ha,hhg1,h⟩
theorem UnitJ_2 {w:World} {x y z pb:Nat} {a0 a:Act} {p:List (Option Nat)} {v:World} (h:UnitJ w x y z pb a0 2 p a v) :
   ∃ y3 y4 z1:Value,a=(((((a0.put (some 13) (.agg #[x,x])).put (some 16) (.agg #[y,y])).put (some 19) y3).put (some 20) y4).put (some 5) z1)∧(∀ q,p[0]? = some (some q)→z1 = .pointer (some ⟨q,0,none⟩))∧OwnF w [(pb,#[true]),(w.heap.size+1,#[(),(),(),(),(),()]),(w.heap.size,#[x,y,z])] [#[(),(),(),(),(),()]] p v:=by
 obtain⟨y1,y2,y3,y4,z1,ha,hhe1,hhe2,hhe3,hhe4,hhg1,h⟩:=h
 obtain rfl:=hhe1 (by decide)
 obtain rfl:=hhe2 (by decide)
 exact ⟨y3,y4,z1,ha,hhg1,h⟩
theorem UnitJ_3 {w:World} {x y z pb:Nat} {a0 a:Act} {p:List (Option Nat)} {v:World} (h:UnitJ w x y z pb a0 3 p a v) :
   ∃ y4 z1:Value,a=(((((a0.put (some 13) (.agg #[x,x])).put (some 16) (.agg #[y,y])).put (some 19) (.agg #[z,z])).put (some 20) y4).put (some 5) z1)∧(∀ q,p[0]? = some (some q)→z1 = .pointer (some ⟨q,0,none⟩))∧OwnF w [(pb,#[true]),(w.heap.size+1,#[(),(),(),(),(),()]),(w.heap.size,#[x,y,z])] [#[(),(),(),(),(),()]] p v:=by
 obtain⟨y1,y2,y3,y4,z1,ha,hhe1,hhe2,hhe3,hhe4,hhg1,h⟩:=h
 obtain rfl:=hhe1 (by decide)
 obtain rfl:=hhe2 (by decide)
 obtain rfl:=hhe3 (by decide)
 exact ⟨y4,z1,ha,hhg1,h⟩
theorem UnitJ_fin {w:World} {x y z pb:Nat} {qq1:Nat} {a0 a:Act} {v:World} (h:UnitJ w x y z pb a0 4 [some qq1] a v) :
   a=(((((a0.put (some 13) (.agg #[x,x])).put (some 16) (.agg #[y,y])).put (some 19) (.agg #[z,z])).put (some 20) (.agg #[x,x,y,y,z,z])).put (some 5) (.pointer (some ⟨qq1,0,none⟩)))∧OwnF w [(pb,#[true]),(w.heap.size+1,#[(),(),(),(),(),()]),(w.heap.size,#[x,y,z])] [#[(),(),(),(),(),()]] [some qq1] v:=by
 obtain⟨y1,y2,y3,y4,z1,ha,hhe1,hhe2,hhe3,hhe4,hhg1,h⟩:=h
 obtain rfl:=hhe1 (by decide)
 obtain rfl:=hhe2 (by decide)
 obtain rfl:=hhe3 (by decide)
 obtain rfl:=hhe4 (by decide)
 obtain rfl:=hhg1 _ rfl
 exact ⟨ha,h⟩
theorem unit_walk (x y z nl nh ul uh vl vh tl th:Nat) (w:World)
   (cU:Hid (∀ w,Calls Tryz.prog 55 #[.agg #[x,y,z]] w (Rt (.bool true) w)))
   (c1:Hid (∀ pb,CalcN pb x)) (c2:Hid (∀ pb,CalcN pb y)) (c3:Hid (∀ pb,CalcN pb z)) (cN:Hid (∀ pb,CalcV 56 pb x x y y z z nl nh))
   (cE:Hid (∀ (pb lp:Nat) (v:World),Has1 v (pb,#[true])→Has1 v (lp,#[nl,nh])→pb≠lp→Calls Tryz.prog 57 #[.agg #[x,x,y,y,z,z],.func (.func 58) #[] #[.pointer (some ⟨pb,0,none⟩),.pointer (some ⟨lp,0,none⟩)]] v fun r w'=>r = .returned (.agg #[ul,uh,vl,vh,tl,th])∧Put ⟨pb,0,none⟩ (.int .i64 0) v w')) :
   Calls Tryz.prog 20 #[.agg #[x,y,z]] w (Rt (.tuple #[.agg #[ul,uh,vl,vh,tl,th],true]) w):=by
 have M:=Lib.hid (((Own.nil w).made #[x,y,z] 49).made #[(),(),(),(),(),()] 33)
 simp only [World.size_alloc] at M
 obtain⟨k1,k2,k3⟩:=(M.out.nth 1 rfl).three
 go_enter Tryz.func20,Tryz.ntmps20
 go_wp2_with fail
 refine (cU.out _).mono ?_
 rintro r w1 ⟨rfl,hb⟩
 have M0:=Lib.hid (M.out.below hb)
 clear hb k1 k2 k3 M cU
 go_upto_region 4 with fail
 have M:=Lib.hid ((M0.out.made #[true] 74).drew)
 clear M0
 obtain⟨k1,k2,k3⟩:=(M.out.nth 2 rfl).three
 refine wp_region_noPanic ?_
 refine tails_region (S:=fun w'=>w'.cell? ⟨w.heap.size,0,none⟩=some (.float .f64 x)∧w'.cell? ⟨w.heap.size,1,none⟩=some (.float .f64 y)∧w'.cell? ⟨w.heap.size,2,none⟩=some (.float .f64 z)) [11] (by kernel_rfl) ?_ (fun hS=>?_)
 · exact ⟨k1,k2,k3⟩
 refine tails_take (T:=[11]) (i:=0) (o:=_) (x:=?_) rfl (by kernel_rfl) (by kernel_rfl) (by kernel_rfl) (by kernel_rfl) (fun _ _ _ h=>h) (Or.inl ⟨by rfl,?_⟩) (by assumption) ?_
 rotate_left; focus (intro w hSw; (try dsimp only at hSw); go_simp; first | done | with_reducible rfl)
 refine tails_take (T:=[11]) (i:=1) (o:=_) (x:=?_) rfl (by kernel_rfl) (by kernel_rfl) (by kernel_rfl) (by kernel_rfl) (fun _ _ _ h=>h) (Or.inl ⟨by rfl,?_⟩) (by assumption) ?_
 rotate_left; focus (intro w hSw; (try dsimp only at hSw); go_simp; first | done | with_reducible rfl)
 refine tails_take (T:=[11]) (i:=3) (o:=_) (x:=?_) rfl (by kernel_rfl) (by kernel_rfl) (by kernel_rfl) (by kernel_rfl) (fun _ _ _ h=>h) (Or.inl ⟨by rfl,?_⟩) (by assumption) ?_
 rotate_left; focus (intro w hSw; (try dsimp only at hSw); go_simp; first | done | with_reducible rfl)
 refine tails_take (T:=[11]) (i:=4) (o:=_) (x:=?_) rfl (by kernel_rfl) (by kernel_rfl) (by kernel_rfl) (by kernel_rfl) (fun _ _ _ h=>h) (Or.inl ⟨by rfl,?_⟩) (by assumption) ?_
 rotate_left; focus (intro w hSw; (try dsimp only at hSw); go_simp; first | done | with_reducible rfl)
 refine tails_take (T:=[11]) (i:=6) (o:=_) (x:=?_) rfl (by kernel_rfl) (by kernel_rfl) (by kernel_rfl) (by kernel_rfl) (fun _ _ _ h=>h) (Or.inl ⟨by rfl,?_⟩) (by assumption) ?_
 rotate_left; focus (intro w hSw; (try dsimp only at hSw); go_simp; first | done | with_reducible rfl)
 refine tails_take (T:=[11]) (i:=7) (o:=_) (x:=?_) rfl (by kernel_rfl) (by kernel_rfl) (by kernel_rfl) (by kernel_rfl) (fun _ _ _ h=>h) (Or.inl ⟨by rfl,?_⟩) (by assumption) ?_
 rotate_left; focus (intro w hSw; (try dsimp only at hSw); go_simp; first | done | with_reducible rfl)
 conv=>arg 9; simp only [Act.put,go_sem]
 refine lat_4_1 (T:=[11]) 2 5 8 9 10 [13,16,19,20,5] 1 (UnitJ w x y z w1.heap.size) (by kernel_rfl) (by kernel_rfl) ?_ ?_ ?_ ?_ ?_ ?_ ?_ ?_
 · intro A hA
   obtain⟨y1,hq1⟩:=put_ex (hA 13 (by simp))
   obtain⟨y2,hq2⟩:=put_ex (hA 16 (by simp))
   obtain⟨y3,hq3⟩:=put_ex (hA 19 (by simp))
   obtain⟨y4,hq4⟩:=put_ex (hA 20 (by simp))
   obtain⟨z1,hq5⟩:=put_ex (hA 5 (by simp))
   exact ⟨y1,y2,y3,y4,z1,by rw [hq1,hq2,hq3,hq4,hq5],by omega,by omega,by omega,by omega,by simp,OwnF.start M.out 1⟩
 · rintro k p a v ⟨y1,y2,y3,y4,z1,_,_,_,_,_,_,h⟩
   exact (h.own.nth 2 rfl).three
 · intro p a v hJ
   refine op_step (o:=_) rfl (fun K hK=>?_)
   obtain⟨y1,y2,y3,y4,z1,rfl,gg1,h⟩:=UnitJ_0 hJ
   have h:=Lib.hid h
   clear hJ
   go_simp
   refine (c1.out _ _ (h.out.own.nth 0 rfl)).mono ?_
   rintro rr w5 ⟨rfl,hp⟩
   try go_wp2_with fail
   refine hK.out _ _ ⟨.agg #[x,x],y2,y3,y4,z1,?_,fun _=>rfl,by omega,by omega,by omega,gg1,h.out.putAt 0 rfl hp⟩
   kernel_rfl
 · intro p a v hJ
   refine op_step (o:=_) rfl (fun K hK=>?_)
   obtain⟨y2,y3,y4,z1,rfl,gg1,h⟩:=UnitJ_1 hJ
   have h:=Lib.hid h
   clear hJ
   go_simp
   refine (c2.out _ _ (h.out.own.nth 0 rfl)).mono ?_
   rintro rr w5 ⟨rfl,hp⟩
   try go_wp2_with fail
   refine hK.out _ _ ⟨.agg #[x,x],.agg #[y,y],y3,y4,z1,?_,fun _=>rfl,fun _=>rfl,by omega,by omega,gg1,h.out.putAt 0 rfl hp⟩
   kernel_rfl
 · intro p a v hJ
   refine op_step (o:=_) rfl (fun K hK=>?_)
   obtain⟨y3,y4,z1,rfl,gg1,h⟩:=UnitJ_2 hJ
   have h:=Lib.hid h
   clear hJ
   go_simp
   refine (c3.out _ _ (h.out.own.nth 0 rfl)).mono ?_
   rintro rr w5 ⟨rfl,hp⟩
   try go_wp2_with fail
   refine hK.out _ _ ⟨.agg #[x,x],.agg #[y,y],.agg #[z,z],y4,z1,?_,fun _=>rfl,fun _=>rfl,fun _=>rfl,by omega,gg1,h.out.putAt 0 rfl hp⟩
   kernel_rfl
 · intro p a v hJ
   refine op_step (o:=_) rfl (fun K hK=>?_)
   obtain⟨y4,z1,rfl,gg1,h⟩:=UnitJ_3 hJ
   have h:=Lib.hid h
   clear hJ
   go_simp
   refine hK.out _ _ ⟨.agg #[x,x],.agg #[y,y],.agg #[z,z],.agg #[x,x,y,y,z,z],z1,?_,fun _=>rfl,fun _=>rfl,fun _=>rfl,fun _=>rfl,gg1,h.out⟩
   kernel_rfl
 · intro k p a v hp hJ
   refine op_step (o:=_) rfl (fun K hK=>?_)
   obtain⟨y1,y2,y3,y4,z1,rfl,ee1,ee2,ee3,ee4,gg1,h⟩:=hJ
   have h:=Lib.hid h
   go_simp
   refine hK.out _ _ ⟨v.heap.size,y1,y2,y3,y4,.pointer (some ⟨v.heap.size,0,none⟩),?_,ee1,ee2,ee3,ee4,fun q hq=>ptr_set hq,h.out.alloc hp rfl _⟩
   kernel_rfl
 · intro pq1 a v hJ
   obtain⟨rfl,h⟩:=UnitJ_fin hJ
   clear hJ
   replace M:=Lib.hid h.fin1
   clear h
   refine tails_one (T:=[11]) (i:=11) (o:=_) rfl (by kernel_rfl) (fun K hK=>?_)
   have kc:=(M.out.nth 0 rfl).2.1
   have kf:=(M.out.nth 0 rfl).2.2
   replace M:=Lib.hid (M.out.set6 0 rfl (.float .f64 x) (.float .f64 x) (.float .f64 y) (.float .f64 y) (.float .f64 z) (.float .f64 z))
   go_simp
   refine hK.out _ _ (Or.inl (by decide)) (fun hHeld=>?_)
   clear hK K hHeld kc kf
   refine tails_done (by kernel_rfl) ?_ _
   refine NoPanic.normal ?_
   obtain⟨k1,k2,k3,k4,k5,k6⟩:=(M.out.nth 0 rfl).six
   go_wp2_with fail
   refine (cN.out _ _ (M.out.nth 1 rfl)).mono ?_
   rintro r w2 ⟨rfl,hp⟩
   replace M:=Lib.hid ((M.out.putAt 1 rfl hp).made #[nl,nh] 31)
   clear hp
   obtain⟨k1,k2,k3,k4,k5,k6⟩:=(M.out.nth 1 rfl).six
   go_wp2_with fail
   refine (cE.out _ _ _ (M.out.nth 2 rfl) (M.out.nth 0 rfl) (M.out.ne 2 0 rfl rfl (by decide))).mono ?_
   rintro r w3 ⟨rfl,hp⟩
   replace M:=Lib.hid (M.out.putAt 2 rfl hp)
   clear hp
   have kc:=(M.out.nth 3 rfl).2.1
   have kf:=(M.out.nth 3 rfl).2.2
   replace M:=Lib.hid (M.out.set6 3 rfl (.float .f64 ul) (.float .f64 uh) (.float .f64 vl) (.float .f64 vh) (.float .f64 tl) (.float .f64 th))
   go_wp2
   obtain⟨f1,f2,f3,f4,f5,f6⟩:=(M.out.nth 3 rfl).six
   exact bodyPost_ret (v:=.tuple #[.agg #[.float .f64 ul,.float .f64 uh,.float .f64 vl,.float .f64 vh,.float .f64 tl,.float .f64 th],.int .i64 0]) (by simp [results,Tryz.results20,go_sem,f1,f2,f3,f4,f5,f6]) rfl ⟨rfl,M.out.base⟩
end
section
open Go.RowKit
attribute [local go_sem] run_store_float
def at3 (x y z:Nat):V3:=⟨oneR x,oneR y,oneR z⟩
def unitPart (x:Nat) (n:Res):Res:=boundR (divR (oneR x) n)
def unitN (x y z:Nat):Res:=normV 0 (at3 x y z)
def unitV (x y z:Nat):V3:=⟨unitPart x (unitN x y z),unitPart y (unitN x y z),unitPart z (unitN x y z)⟩
def mostW (x y z:Nat):Nat:=maxW (maxW (rung x) (rung y)) (rung z)
def hasU (x y z:Nat):Bool:=rightB x&&rightB y&&rightB z&&(leB 4318952042648305664 (mostW x y z)&&leB (mostW x y z) 4895412794951729152)
theorem rung_right (x:Nat) (h:rightB x=true):rung x < 18446744073709551616∧rightB (rung x)=true:=by
 have h1:=right_rung x h
 obtain⟨p1,p2,_⟩:=pos_facts (rung x) h1
 exact ⟨p1,p2⟩
theorem hasUnit_any (x y z:Nat) (w:World) (lx:x < 18446744073709551616) (ly:y < 18446744073709551616) (lz:z < 18446744073709551616) :
   Calls Tryz.prog 55 #[.agg #[x,y,z]] w (Rt (.bool (hasU x y z)) w):=by
 have c1:=Lib.hid (fun w=>right_any x w lx)
 have c2:=Lib.hid (fun w=>right_any y w ly)
 have c3:=Lib.hid (fun w=>right_any z w lz)
 cases h:(rightB x&&rightB y&&rightB z)
 · have e:hasU x y z=false:=by unfold hasU; rw [h,Bool.false_and]
   rw [e]
   exact hasUnit_bad x y z _ _ _ w (Lib.hid h) c1 c2 c3
 · have e:hasU x y z=(leB 4318952042648305664 (mostW x y z)&&leB (mostW x y z) 4895412794951729152):=by unfold hasU; rw [h,Bool.true_and]
   rw [e]
   rw [Bool.and_eq_true,Bool.and_eq_true] at h
   obtain⟨⟨h1,h2⟩,h3⟩:=h
   rw [h1] at c1
   rw [h2] at c2
   rw [h3] at c3
   obtain⟨p1,p2⟩:=rung_right x h1
   obtain⟨q1,q2⟩:=rung_right y h2
   obtain⟨s1,s2⟩:=rung_right z h3
   obtain⟨m1,m2,_⟩:=max_facts _ _ p1 q1 p2 q2
   obtain⟨n1,n2,_⟩:=max_facts _ _ m1 s1 m2 s2
   exact hasUnit_walk x y z (rung x) (rung y) (rung z) (mostW x y z) _ _ w c1 c2 c3 (Lib.hid fun w=>abs_any x w lx) (Lib.hid fun w=>abs_any y w ly) (Lib.hid fun w=>abs_any z w lz) (fun ts t w=>run_max3 _ _ _ p1 q1 s1 p2 q2 s2 ts t w) (order_le _ _ (by decide) n1 (by decide) n2) (order_le _ _ n1 (by decide) n2 (by decide))
theorem one_wd {x:Nat} (lx:x < 18446744073709551616):Wd (oneR x):=⟨lx,lx⟩
theorem unit_any (x y z:Nat) (w:World) (lx:x < 18446744073709551616) (ly:y < 18446744073709551616) (lz:z < 18446744073709551616) (hU:hasU x y z=true)
   (fN:Fit (unitN x y z)) (f1:Fit (divR (oneR x) (unitN x y z))) (f2:Fit (divR (oneR y) (unitN x y z))) (f3:Fit (divR (oneR z) (unitN x y z))) :
   Calls Tryz.prog 20 #[.agg #[x,y,z]] w (Rt (.tuple #[.agg #[.float .f64 (unitV x y z).x.lo,.float .f64 (unitV x y z).x.hi,.float .f64 (unitV x y z).y.lo,.float .f64 (unitV x y z).y.hi,.float .f64 (unitV x y z).z.lo,.float .f64 (unitV x y z).z.hi],true]) w):=by
 have hR:(rightB x&&rightB y&&rightB z)=true:=by
   unfold hasU at hU
   rw [Bool.and_eq_true] at hU
   exact hU.1
 rw [Bool.and_eq_true,Bool.and_eq_true] at hR
 obtain⟨⟨h1,h2⟩,h3⟩:=hR
 have cU:=fun w=>hasUnit_any x y z w lx ly lz
 rw [hU] at cU
 have g1:=one_fit lx h1
 have g2:=one_fit ly h2
 have g3:=one_fit lz h3
 have meet:∀ {q:Res},Fit q→∀ w,Calls Tryz.prog 59 #[.agg #[q.lo,q.hi],.agg #[(13830554455654793216:Nat),(4607182418800017408:Nat)]] w (Rt (.tuple #[.agg #[.float .f64 (boundR q).lo,.float .f64 (boundR q).hi],.bool (bothB q.lo q.hi m1 u1)]) w):=fun fq w =>
   meet_any _ _ m1 u1 w fq.lo fq.hi (by decide) (by decide) fq.rlo fq.rhi (by decide) (by decide)
 have A:∀ {p:Nat} (pb lp:Nat) (v:World),Fit (oneR p)→Fit (divR (oneR p) (unitN x y z))→Has1 v (pb,#[true])→Has1 v (lp,#[.float .f64 (unitN x y z).lo,.float .f64 (unitN x y z).hi])→pb≠lp →
     Calls Tryz.prog 58 #[.agg #[p,p],.pointer (some ⟨pb,0,none⟩),.pointer (some ⟨lp,0,none⟩)] v fun r w'=>r = .returned (.agg #[.float .f64 (unitPart p (unitN x y z)).lo,.float .f64 (unitPart p (unitN x y z)).hi])∧Put ⟨pb,0,none⟩ (.int .i64 0) v w':=fun pb lp v fp fd hC hL n1 =>
   unitLit_walk _ _ _ _ _ _ _ _ _ 0 0 pb lp v hC hL n1 (Lib.hid (calc_div fp fN fd pb)) (Lib.hid (meet fd))
 have hN:=fun pb=>norm_any (a:=at3 x y z) 0 ⟨one_wd lx,one_wd ly,one_wd lz⟩ pb
 have eN:(normV 0 (at3 x y z)).e=0:=fN.e
 rw [eN] at hN
 exact unit_walk x y z (unitN x y z).lo (unitN x y z).hi _ _ _ _ _ _ w (Lib.hid cU) (Lib.hid fun pb=>calc_num g1 pb) (Lib.hid fun pb=>calc_num g2 pb) (Lib.hid fun pb=>calc_num g3 pb) (Lib.hid fun pb=>hN pb)
   (Lib.hid fun pb lp v hC hL n1=>each_unit _ _ _ _ _ _ _ _ _ _ _ _ _ _ 0 0 0 0 pb lp v hC hL n1 (Lib.hid fun v hC hL n1=>A pb lp v g1 f1 hC hL n1) (Lib.hid fun v hC hL n1=>A pb lp v g2 f2 hC hL n1) (Lib.hid fun v hC hL n1=>A pb lp v g3 f3 hC hL n1))
end
section
open Go.RowKit
attribute [local go_sem] run_store_float
end
end Go.Proofs.YtnaomilkgfkegaaGreat
