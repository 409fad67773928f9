/- What the claim stands on, part 35: MiB, MiD, MiE, PaG, PaH. -/
import Derived.Test.YtmkgfflebfpcdaaGreatPA27
import Derived.Test.YtmkgfflebfpcdaaGreatPA29
import Derived.Test.YtmkgfflebfpcdaaGreatFA31
import Derived.Test.YtmkgfflebfpcdaaGreatFA33
import Derived.Test.YtmkgfflebfpcdaaGreatFA26
import Derived.Test.YtmkgfflebfpcdaaGreatFA18
import Derived.Test.YtmkgfflebfpcdaaGreatFA19
import Derived.Test.YtmkgfflebfpcdaaGreatPA20
import Derived.Test.YtmkgfflebfpcdaaGreatPA21
import Derived.Test.YtmkgfflebfpcdaaGreatPA17
import Derived.Test.YtmkgfflebfpcdaaGreatPA22
import Derived.Test.YtmkgfflebfpcdaaGreatFA24
set_option maxRecDepth 100000
namespace Go.Proofs.YtmkgfflebfpcdaaGreat
section
open Go.RowKit
def dU:V3:=⟨⟨0,m1,u1⟩,⟨0,m1,u1⟩,ouI⟩
theorem dU_fit:FitV dU:=⟨.of (by decide +kernel),.of (by decide +kernel),.of (by decide +kernel)⟩
theorem InV.fitV {A B:V3} (h:InV A B):FitV A:=⟨h.x.fit,h.y.fit,h.z.fit⟩
abbrev agV (A:V3):Value:=.agg #[A.x.lo,A.x.hi,A.y.lo,A.y.hi,A.z.lo,A.z.hi]
def arI {r R:Res} (i:In r R):Ar:=⟨r.lo,r.hi,R.lo,R.hi,fun w=>by
 have k:=ivRight_any r.lo r.hi w i.fit.lo i.fit.hi
 rw [i.fit.iv] at k
 exact k⟩
theorem arI_ok {r R:Res} (i:In r R) (fR:Fit R):bad (arI i)=false:=by
 have h1:=order_lt r.lo R.lo i.fit.lo fR.lo i.fit.rlo fR.rlo
 have h2:=order_gt r.hi R.hi i.fit.hi fR.hi i.fit.rhi fR.rhi
 have l:=i.lo
 have g:=i.hi
 rw [decide_eq_false (by omega)] at h1 h2
 show ((FloatKind.f64.format.order r.lo R.lo == some Ordering.lt) || (FloatKind.f64.format.order r.hi R.hi == some Ordering.gt))=false
 rw [h1,h2]; rfl
theorem clampR_any {a:Res} (h:Wr a) (w:World):Calls Tryz.prog 130 #[.agg #[a.lo,a.hi]] w (Rt (.agg #[.float .f64 (clampR a).lo,.float .f64 (clampR a).hi]) w):=by
 obtain⟨l1,l2,_⟩:=max_facts a.lo 0 h.lo (by decide) h.rlo (by decide)
 obtain⟨k1,k2,_⟩:=max_facts a.hi 0 h.hi (by decide) h.rhi (by decide)
 exact mclamped_walk w (m_yl:=fun ts t w=>(run_less a.lo 0 h.lo (by decide) h.rlo (by decide) ts t w).2) (m_zl:=fun ts t w=>(run_less _ u1 l1 (by decide) l2 (by decide) ts t w).1)
  (m_yh:=fun ts t w=>(run_less a.hi 0 h.hi (by decide) h.rhi (by decide) ts t w).2) (m_zh:=fun ts t w=>(run_less _ u1 k1 (by decide) k2 (by decide) ts t w).1)
def Hf.s (A B:V3):V3:=addV 0 A B
def Hf.n (A B:V3):Res:=normV (Hf.s A B).z.e (Hf.s A B)
def Hf.u (A B:V3):Res:=stU (Hf.n A B).e uh
def Hf.m (A B:V3):Res:=stM (Hf.u A B).e (Hf.u A B) (Hf.n A B)
def Hf.k (A B:V3):Res:=stD (Hf.m A B).e (Hf.s A B).z (Hf.n A B)
abbrev HalfC (A B:V3) (p q:Res) (e:Int):Prop:=∀ w,Calls Tryz.prog 111 #[agV A,agV B] w (Rt (.tuple #[.agg #[p.lo,p.hi],.agg #[q.lo,q.hi],.int .i64 e]) w)
theorem six_ok {a b c d e f:Ar} (h1:bad a=false) (h2:bad b=false) (h3:bad c=false) (h4:bad d=false) (h5:bad e=false) (h6:bad f=false):(if [a,b,c,d,e,f].any bad=true then (2:Int) else 0)=0:=by
 simp only [List.any_cons,List.any_nil,h1,h2,h3,h4,h5,h6]; rfl
theorem seven_any {a b c d e f g:Ar} (h1:bad a=false) (h2:bad b=false) (h3:bad c=false) (h4:bad d=false) (h5:bad e=false) (h6:bad f=false):(if [a,b,c,d,e,f,g].any bad=true then (2:Int) else 0)=if bad g=true then 2 else 0:=by
 simp only [List.any_cons,List.any_nil,h1,h2,h3,h4,h5,h6,Bool.false_or,Bool.or_false]
section
variable {A B:V3} (iA:InV A dU) (iB:InV B dU)
include iA iB
theorem hf_wr:(Wr (Hf.s A B).x∧Wr (Hf.s A B).y∧Wr (Hf.s A B).z)∧Wr (Hf.n A B)∧Wr (Hf.u A B)∧Wr (Hf.m A B)∧Wr (Hf.k A B):=by
 have sx:Wr (Hf.s A B).x:=stA_wr 0 iA.x.fit.wr iB.x.fit.wr
 have sy:Wr (Hf.s A B).y:=stA_wr (stA 0 A.x B.x).e iA.y.fit.wr iB.y.fit.wr
 have sz:Wr (Hf.s A B).z:=stA_wr (stA (stA 0 A.x B.x).e A.y B.y).e iA.z.fit.wr iB.z.fit.wr
 have n:Wr (Hf.n A B):=stR_wr _ (stA_wr _ (stA_wr _ (stQ_wr _ sx) (stQ_wr _ sy)) (stQ_wr _ sz))
 have u:Wr (Hf.u A B):=stU_wr _ uh_fit
 exact ⟨⟨sx,sy,sz⟩,n,u,stM_wr _ u n,stD_wr _ sz n⟩
theorem half_ok:((Hf.k A B).e=0→HalfC A B (clampR (Hf.k A B)) (clampR (Hf.m A B)) 0):=by
 obtain⟨⟨wx,wy,wz⟩,wn,wu,wm,wk⟩:=hf_wr iA iB
 have cA:=Lib.hid fun w=>args0_any (e1:=arI iA.x) (e2:=arI iA.y) (e3:=arI iA.z) (e4:=arI iB.x) (e5:=arI iB.y) (e6:=arI iB.z) ⟨rfl,rfl⟩ ⟨rfl,rfl⟩ ⟨rfl,rfl⟩ ⟨rfl,rfl⟩ ⟨rfl,rfl⟩ ⟨rfl,rfl⟩ w
 have cK:=Lib.hid fun lb w (h:Gd [arI iA.x,arI iA.y,arI iA.z,arI iB.x,arI iB.y,arI iB.z] 6 lb w)=>check_all lb w h
 rw [six_ok (arI_ok iA.x dU_fit.x) (arI_ok iA.y dU_fit.y) (arI_ok iA.z dU_fit.z) (arI_ok iB.x dU_fit.x) (arI_ok iB.y dU_fit.y) (arI_ok iB.z dU_fit.z)] at cK
 have d3:=Lib.hid fun pb v h=>vadd_any 0 iA.fitV.wd iB.fitV.wd pb v h
 have d4:=Lib.hid fun pb v h=>norm_any (a:=Hf.s A B) (Hf.s A B).z.e ⟨⟨wx.lo,wx.hi⟩,⟨wy.lo,wy.hi⟩,⟨wz.lo,wz.hi⟩⟩ pb v h
 have d5:=Lib.hid fun pb v (h:Has1 v (pb,#[.int .i64 (Hf.n A B).e]))=>s_num (Hf.n A B).e pb uh_fit v h.pc h.pf
 have d6:=Lib.hid fun pb v (h:Has1 v (pb,#[.int .i64 (Hf.u A B).e]))=>s_mul (Hf.u A B).e wu wn pb v h.pc h.pf
 have d8:=Lib.hid fun pb v (h:Has1 v (pb,#[.int .i64 (Hf.m A B).e]))=>s_div (Hf.m A B).e wz wn pb v h.pc h.pf
 have c7:=Lib.hid fun w=>clampR_any wm w
 have c9:=Lib.hid fun w=>clampR_any wk w
 intro h w
 exact mhalf_ok w cA cK d3 d4 d5 d6 c7 d8 c9 (by simpa [Hf.k] using h)
theorem hf_plain (M:MF A B):Hf.n A B=Mi.n A B∧Hf.m A B=Mi.h A B∧Hf.k A B=Mi.l A B:=by
 have fA:=iA.fitV
 have fB:=iB.fitV
 have a1:stA 0 A.x B.x=Mi.sx A B:=step_two fA.x fB.x _
 have a2:stA 0 A.y B.y=Mi.sy A B:=step_two fA.y fB.y _
 have a3:stA 0 A.z B.z=Mi.sz A B:=step_two fA.z fB.z _
 have s:Hf.s A B=⟨Mi.sx A B,Mi.sy A B,Mi.sz A B⟩:=by
  unfold Hf.s addV bothV
  rw [a1,M.sx.e,a2,M.sy.e,a3]
 have q1:stQ 0 (Mi.sx A B)=Mi.n1 A B:=step_one M.sx _
 have q2:stQ 0 (Mi.sy A B)=Mi.n2 A B:=step_one M.sy _
 have q3:stA 0 (Mi.n1 A B) (Mi.n2 A B)=Mi.n3 A B:=step_two M.n1 M.n2 _
 have q4:stQ 0 (Mi.sz A B)=Mi.n4 A B:=step_one M.sz _
 have q5:stA 0 (Mi.n3 A B) (Mi.n4 A B)=Mi.n5 A B:=step_two M.n3 M.n4 _
 have q6:stR 0 (Mi.n5 A B)=Mi.n A B:=step_one M.n5 _
 have n:Hf.n A B=Mi.n A B:=by
  unfold Hf.n
  rw [s]
  show normV (Mi.sz A B).e ⟨Mi.sx A B,Mi.sy A B,Mi.sz A B⟩=_
  rw [M.sz.e]
  unfold normV nrm5 nrm4 nrm3 nrm2 nrm1
  simp only [q1,M.n1.e,q2,M.n2.e,q3,M.n3.e,q4,M.n4.e,q5,M.n5.e,q6]
 have u:Hf.u A B=oneR uh:=by unfold Hf.u; rw [n,M.n.e]; exact stU_plain uh_fit
 have m:Hf.m A B=Mi.h A B:=by
  unfold Hf.m; rw [u,n]
  exact step_two uh_fit M.n _
 refine ⟨n,m,?_⟩
 unfold Hf.k
 rw [m,M.h.e,n,s]
 exact step_two M.sz M.n _
theorem half_good (M:MF A B):HalfC A B (Mi.lean A B) (Mi.half A B) 0:=fun w=>by
 obtain⟨_,e2,e3⟩:=hf_plain iA iB M
 have k:=half_ok iA iB (by rw [e3]; exact M.l.e) w
 rw [e2,e3] at k
 exact k
end
end
section
open Go.RowKit
def Lk.w:Res:=stU 0 w4
def Lk.r (D g:Res):Res:=stM Lk.w.e D g
def Lk.s (D g i:Res):Res:=stM (Lk.r D g).e Lk.w i
def Lk.t (D g i o:Res):Res:=stM (Lk.s D g i).e (Lk.s D g i) o
def Lk.u (D g i o:Res):Res:=stD (Lk.t D g i o).e (Lk.r D g) (Lk.t D g i o)
def Lk.z (D g f i o:Res):Res:=stM (Lk.u D g i o).e f D
def Lk.x (D g f i o:Res):Res:=stM (Lk.z D g f i o).e Lk.w o
def Lk.y (D g f i o:Res):Res:=stD (Lk.x D g f i o).e (Lk.z D g f i o) (Lk.x D g f i o)
abbrev LookC (A B:V3) (a p q v d:Res) (e:Int):Prop:=∀ w,Calls Tryz.prog 89 #[agV A,agV B,.agg #[a.lo,a.hi]] w fun r w'=>r = .returned (.tuple #[.agg #[p.lo,p.hi,q.lo,q.hi,v.lo,v.hi,d.lo,d.hi],.int .i64 e])∧Below w.heap.size w w'
theorem lk_w:Lk.w=oneR w4:=stU_plain w4_fit
theorem G1_wr {o a:Res} (ho:In o ouI) (ha:In a aI):Wr (Vt.k4 o a):=stD_wr _ u1_fit.wr (stA_wr _ u1_fit.wr (nn_wr (lam_last 0 ho.fit.wr ha.fit.wr)))
theorem G2_wr {i o a:Res} (hi:In i ouI) (ho:In o ouI) (ha:In a aI):Wr (Wt.k5 i o a):=by
 have h3:Wr (Vt.k3 i a):=stA_wr _ u1_fit.wr (nn_wr (lam_last 0 hi.fit.wr ha.fit.wr))
 have hy:Wr (Wt.y i o a):=lam_last _ ho.fit.wr ha.fit.wr
 exact stD_wr _ u1_fit.wr (stA_wr _ h3 (nn_wr hy))
section
variable {A B:V3} {a:Res} (iA:InV A dU) (iB:InV B dU)
include iA iB
variable (ha:In a aI)
include ha
theorem look_ok {p q:Res} {e:Int} (hH:HalfC A B p q e) (hp:In p ouI) :
  let D:=Gx.D p a; let g:=Wt.k5 A.z B.z a; let f:=Vt.k4 B.z a
  (or5 e 0 g.e f.e (Lk.y D g f A.z B.z).e=0→LookC A B a p q (Lk.u D g A.z B.z) (Lk.y D g f A.z B.z) 0):=by
 intro D g f
 have wD:Wr D:=(g_in hp ha).D.fit.wr
 have wg:Wr g:=G2_wr iA.z iB.z ha
 have wf:Wr f:=G1_wr iB.z ha
 have wi:=iA.z.fit.wr
 have wo:=iB.z.fit.wr
 have ww:Wr Lk.w:=stU_wr _ w4_fit
 have wr':Wr (Lk.r D g):=stM_wr _ wD wg
 have ws:Wr (Lk.s D g A.z):=stM_wr _ ww wi
 have wt:Wr (Lk.t D g A.z B.z):=stM_wr _ ws wo
 have wu:Wr (Lk.u D g A.z B.z):=stD_wr _ wr' wt
 have wz:Wr (Lk.z D g f A.z B.z):=stM_wr _ wf wD
 have wx:Wr (Lk.x D g f A.z B.z):=stM_wr _ ww wo
 have cA:=Lib.hid fun (q:Nat) (w:World) (hq:Has1 w (q,#[a.lo,a.hi]))=>args1_any (e1:=arI iA.x) (e2:=arI iA.y) (e3:=arI iA.z) (e4:=arI iB.x) (e5:=arI iB.y) (e6:=arI iB.z) (e7:=arI ha) ⟨rfl,rfl⟩ ⟨rfl,rfl⟩ ⟨rfl,rfl⟩ ⟨rfl,rfl⟩ ⟨rfl,rfl⟩ ⟨rfl,rfl⟩ ⟨rfl,rfl⟩ q w hq
 have cK:=Lib.hid fun lb w (h:Gd [arI iA.x,arI iA.y,arI iA.z,arI iB.x,arI iB.y,arI iB.z,arI ha] 7 lb w)=>check_all lb w h
 rw [seven_any (arI_ok iA.x dU_fit.x) (arI_ok iA.y dU_fit.y) (arI_ok iA.z dU_fit.z) (arI_ok iB.x dU_fit.x) (arI_ok iB.y dU_fit.y) (arI_ok iB.z dU_fit.z),arI_ok ha aI_fit,if_neg Bool.false_ne_true] at cK
 have c4:=Lib.hid (D_any hp ha)
 have c5:=Lib.hid (G2_any iA.z iB.z ha)
 have c6:=Lib.hid (G1_any iB.z ha)
 have d7:=Lib.hid fun pb v (h:Has1 v (pb,#[true]))=>s_num 0 pb w4_fit v h.pc h.pf
 have d8:=Lib.hid fun pb v (h:Has1 v (pb,#[.int .i64 Lk.w.e]))=>s_mul Lk.w.e wD wg pb v h.pc h.pf
 have d9:=Lib.hid fun pb v (h:Has1 v (pb,#[.int .i64 (Lk.r D g).e]))=>s_mul (Lk.r D g).e ww wi pb v h.pc h.pf
 have d10:=Lib.hid fun pb v (h:Has1 v (pb,#[.int .i64 (Lk.s D g A.z).e]))=>s_mul (Lk.s D g A.z).e ws wo pb v h.pc h.pf
 have d11:=Lib.hid fun pb v (h:Has1 v (pb,#[.int .i64 (Lk.t D g A.z B.z).e]))=>s_div (Lk.t D g A.z B.z).e wr' wt pb v h.pc h.pf
 have d12:=Lib.hid fun pb v (h:Has1 v (pb,#[.int .i64 (Lk.u D g A.z B.z).e]))=>s_mul (Lk.u D g A.z B.z).e wf wD pb v h.pc h.pf
 have d13:=Lib.hid fun pb v (h:Has1 v (pb,#[.int .i64 (Lk.z D g f A.z B.z).e]))=>s_mul (Lk.z D g f A.z B.z).e ww wo pb v h.pc h.pf
 have d14:=Lib.hid fun pb v (h:Has1 v (pb,#[.int .i64 (Lk.x D g f A.z B.z).e]))=>s_div (Lk.x D g f A.z B.z).e wz wx pb v h.pc h.pf
 have cO:=Lib.hid fun q w h=>cmpOr_any e 0 g.e f.e (Lk.y D g f A.z B.z).e q w h
 intro h w
 exact mlook_ok w cA cK (Lib.hid hH) c4 c5 c6 d7 d8 d9 d10 d11 d12 d13 d14 cO (by rw [h]; rfl)
end
end
section
open Go.RowKit
attribute [local go_sem] run_store_float
section
variable {l i o a:Res}
theorem lk_plain (K:VF l i o a) (fi:Fit i) (fo:Fit o):Lk.u (Gx.D l a) (Gx.w i o a) i o=Mi.val l i o a∧Lk.y (Gx.D l a) (Gx.w i o a) (Gx.v o a) i o=Mi.den l o a:=by
 have e0:Lk.w.e=0:=by rw [lk_w]; rfl
 have r:Lk.r (Gx.D l a) (Gx.w i o a)=Mi.v1 l i o a:=by unfold Lk.r; rw [e0]; exact step_two K.D K.w _
 have s:Lk.s (Gx.D l a) (Gx.w i o a) i=Mi.v2 i:=by unfold Lk.s; rw [r,K.v1.e,lk_w]; exact step_two w4_fit fi _
 have t:Lk.t (Gx.D l a) (Gx.w i o a) i o=Mi.v3 i o:=by unfold Lk.t; rw [s,K.v2.e]; exact step_two K.v2 fo _
 have u:Lk.u (Gx.D l a) (Gx.w i o a) i o=Mi.val l i o a:=by unfold Lk.u; rw [t,K.v3.e,r]; exact step_two K.v1 K.v3 _
 have z:Lk.z (Gx.D l a) (Gx.w i o a) (Gx.v o a) i o=Mi.p1 l o a:=by unfold Lk.z; rw [u,K.val.e]; exact step_two K.v K.D _
 have x:Lk.x (Gx.D l a) (Gx.w i o a) (Gx.v o a) i o=Mi.v2 o:=by unfold Lk.x; rw [z,K.p1.e,lk_w]; exact step_two w4_fit fo _
 refine ⟨u,?_⟩
 unfold Lk.y
 rw [x,K.v2'.e,z]
 exact step_two K.p1 K.v2' _
end
structure KF (A B:V3) (a:Res):Prop where
 M:MF A B
 i:LF0 A.z a
 q:Fit (Gx.q A.z a)
 o:LF B.z a
 q2:Fit (Gx.q2 A.z B.z a)
 K:VF (Mi.lean A B) A.z B.z a
abbrev LookG (A B:V3) (a:Res):Prop:=LookC A B a (Mi.lean A B) (Mi.half A B) (Mi.val (Mi.lean A B) A.z B.z a) (Mi.den (Mi.lean A B) B.z a) 0
section
variable {A B:V3} {a:Res} (iA:InV A dU) (iB:InV B dU) (ha:In a aI)
include iA iB ha
theorem look_good (k:KF A B a):LookG A B a:=by
 have e2:=G2_plain (g_in iA.z ha).fits k.i k.q (g_in iB.z ha).fits k.o.zero iA.z.fit iB.z.fit ha.fit k.q2
 have e1:=(G1_plain (g_in iB.z ha).fits k.o iB.z.fit ha.fit).2
 obtain⟨u,y⟩:=lk_plain k.K iA.z.fit iB.z.fit
 have h:=@id (_→_) (look_ok iA iB ha (half_good iA iB k.M) (lean_u k.M).1)
 rw [e2,e1,u,y,k.K.w.e,k.K.v.e,k.K.den.e] at h
 exact h rfl
end
theorem In.via {a B C:Res} (h:In a B) (k:In B C):In a C:=⟨h.fit,Int.le_trans k.lo h.lo,Int.le_trans h.hi k.hi⟩
theorem z7_c8:In zI7 cI8∧In zI7 ouI:=⟨⟨.of (by decide +kernel),by decide +kernel,by decide +kernel⟩,⟨.of (by decide +kernel),by decide +kernel,by decide +kernel⟩⟩
theorem dB_dU {A:V3} (h:InV A dB):InV A dU:=⟨h.x,h.y,h.z.via z7_c8.2⟩
theorem kf_dirs {A B:V3} {a:Res} (iA:InV A dB) (iB:InV B dB) (ha:In a aI):KF A B a:=by
 have hi:=iA.z.via z7_c8.1
 have ho:=iB.z.via z7_c8.1
 have V:=vd_in (lean_c8 iA iB) hi ho ha
 have Li:=l8_in hi ha
 have Lo:=l8_in ho ha
 exact ⟨(md_in iA iB).fits,Li.fits.zero,Li.q.fit,Lo.fits,(q2_in hi ho ha).fit,⟨(g8_in (lean_c8 iA iB) ha).D.fit,(w_in hi ho ha).fit,Lo.v.fit,V.v1.fit,V.v2.fit,V.v2'.fit,V.v3.fit,V.val.fit,V.p1.fit,V.den.fit⟩⟩
theorem look_dirs {A B:V3} {a:Res} (iA:InV A dB) (iB:InV B dB) (ha:In a aI):LookG A B a:=look_good (dB_dU iA) (dB_dU iB) ha (kf_dirs iA iB ha)
def wf:Nat:=4602678819172646912
def upV:V3:=⟨oneR 0,oneR 0,oneR u1⟩
theorem upV_in:InV upV dB:=⟨⟨.of (by decide +kernel),by decide +kernel,by decide +kernel⟩,⟨.of (by decide +kernel),by decide +kernel,by decide +kernel⟩,⟨.of (by decide +kernel),by decide +kernel,by decide +kernel⟩⟩
theorem wf_in:In (oneR wf) aI:=⟨.of (by decide +kernel),by decide +kernel,by decide +kernel⟩
structure Dd (V:V3):Prop where
 b:InV V dB
 s:∃ f g h:Nat→Rat,HasS V.x f∧HasS V.y g∧HasS V.z h∧Eqv (fun m=>f m*f m+(g m*g m+h m*h m)) (fun _=>1)∧∀ m,0≤h m
 x:val V.x.hi - val V.x.lo≤16*DD
 y:val V.y.hi - val V.y.lo≤16*DD
 z:val V.z.hi - val V.z.lo≤16*DD
theorem dir_any (u v t:Nat) (hu:u < 4294967296) (hv:v < 4294967296) (ht:t < 4294967296):∃ (x y z:Nat) (V:V3),Dd V∧(∀ w,Calls Tryz.prog 25 #[.int .u32 u,.int .u32 v,.int .u32 t] w (Rt (.agg #[x,y,z]) w)) ∧
  ∀ w,Calls Tryz.prog 24 #[.agg #[x,y,z]] w (Rt (.tuple #[agV V,true]) w):=by
 obtain⟨x,hx,cx⟩:=between8_any 13830554455654793216 4607182418800017408 u (by decide) (by decide) (by decide) (by decide) (by decide +kernel) (by decide +kernel) (by decide +kernel) hu
 obtain⟨y,hy,cy⟩:=between8_any 13830554455654793216 4607182418800017408 v (by decide) (by decide) (by decide) (by decide) (by decide +kernel) (by decide +kernel) (by decide +kernel) hv
 obtain⟨z,hz,cz⟩:=between8_any 4580160821035794432 4607182418800017408 t (by decide) (by decide) (by decide) (by decide) (by decide +kernel) (by decide +kernel) (by decide +kernel) ht
 have hU:=dir_has hx.right hy.right hz.right hx.lo hx.hi hy.lo hy.hi hz.lo hz.hi
 obtain⟨i,s⟩:=dir_in hx.lt hy.lt hz.lt hx.right hy.right hz.right hx.lo hx.hi hy.lo hy.hi hz.lo hz.hi
 obtain⟨_,_,_,_,⟨mx,Mx,px⟩,⟨my,My,py⟩,⟨mz,Mz,pz⟩⟩:=unit_all x y z hx.lt hy.lt hz.lt hU
 obtain⟨fN,f1,f2,f3⟩:=unit_fits x y z hx.lt hy.lt hz.lt hU
 exact ⟨x,y,z,unitV x y z,⟨i,s,part_width px,part_width py,part_width pz⟩,fun w=>dir_walk w (Lib.hid cx) (Lib.hid cy) (Lib.hid cz),fun w=>unit_any x y z w hx.lt hy.lt hz.lt hU fN f1 f2 f3⟩
theorem above {V:V3} (h:InV V dB):(FloatKind.f64.format.order V.z.lo 0 == some Ordering.gt)=true:=by
 have e:0 < val zI7.lo∧val 0=0:=by decide +kernel
 have l:val zI7.lo≤val V.z.lo:=h.z.lo
 rw [order_gt _ _ h.z.fit.lo (by decide) h.z.fit.rlo (by decide)]
 exact decide_eq_true (by omega)
theorem two_any (u0 u1' u2 u3 u4 u5:Nat) (g0:u0 < 4294967296) (g1:u1' < 4294967296) (g2:u2 < 4294967296) (g3:u3 < 4294967296) (g4:u4 < 4294967296) (g5:u5 < 4294967296):∃ A B:V3,Dd A∧Dd B ∧
  ∀ w,Calls Tryz.prog 7 #[.agg #[.int .u32 u0,.int .u32 u1',.int .u32 u2,.int .u32 u3,.int .u32 u4,.int .u32 u5]] w (Rt (.tuple #[agV A,agV B,.bool true]) w):=by
 obtain⟨x,y,z,A,dA,c1,c2⟩:=dir_any u0 u1' u2 g0 g1 g2
 obtain⟨p,q,s,B,dB',c3,c4⟩:=dir_any u3 u4 u5 g3 g4 g5
 exact ⟨A,B,dA,dB',fun w=>two10_walk w (Lib.hid c1) (Lib.hid c2) (Lib.hid c3) (Lib.hid c4) (above dA.b) (above dB'.b)⟩
end
section
open Go.RowKit
abbrev ndL (a b c:Nat):Value:=.agg #[.int .u8 1,a,b,c,(),(),(),(),(),(),(),(),(),(),(),(),(),true,true]
abbrev ndO (a b c s:Nat):Value:=.agg #[.int .u8 2,a,b,c,(),(),(),(),(),(),(),(),(),s,(),(),(),true,true]
abbrev ndP (a n:Nat):Value:=.agg #[.int .u8 3,(),(),(),(),(),(),(),(),(),(),(),(),(),a,n,(),true,true]
abbrev ndM (a p q r s t u:Nat):Value:=.agg #[.int .u8 4,(),(),(),(),(),(),p,q,r,s,t,u,(),a,(),(),true,true]
abbrev RigC (n:Value):Prop:=∀ w,Calls Tryz.prog 8 #[n] w fun r w'=>r = .returned (.bool true)∧Below w.heap.size w w'
abbrev ValC (n:Value) (k:Int) (A B:V3) (s:Res) (e:Int):Prop:=∀ w,Calls Tryz.prog 9 #[n,.int .i64 k,agV A,agV B] w fun r w'=>r = .returned (.tuple #[.agg #[s.lo,s.hi],.int .i64 e])∧Below w.heap.size w w'
abbrev DenC (n:Value) (A B:V3) (s:Res) (e:Int):Prop:=∀ w,Calls Tryz.prog 10 #[n,agV A,agV B] w (Rt (.tuple #[.agg #[s.lo,s.hi],.int .i64 e]) w)
theorem of_right {x:Nat} (f:Fit (oneR x)) (w:World):Calls Tryz.prog 40 #[x] w (Rt (.tuple #[.agg #[x,x],true]) w):=by
 have h:=of_any x w f.lo
 have rx:rightB x=true:=f.rlo
 unfold ofI at h
 rw [if_pos rx] at h
 exact h
theorem feq_self {x:Nat} (f:Fit (oneR x)):Op.floatEq .f64 x x=true:=by
 show (FloatKind.f64.format.order x x == some Ordering.eq)=true
 rw [order_eq x x f.lo f.lo f.rlo f.rlo]
 exact decide_eq_true rfl
section
variable {A:Res} (fA:Fit A) {x y z:Nat}
include fA
theorem in_one (i:In (oneR x) A) (q:Nat) (w:World) (h:Has1 w (q,#[x])) :
  Calls Tryz.prog 71 #[A.lo,A.hi,.slice (some ⟨q,0,none⟩) 1 1] w (Rt (.bool true) w):=
 within_1_0 q w h rfl (Lib.hid (of_right i.fit)) (lt_in i fA) (gt_in i fA)
variable (i:In (oneR x) A) (j:In (oneR y) A) (k:In (oneR z) A) {C:Array Value} (q:Nat) (w:World) (h:Has1 w (q,C))
include i j k h
theorem in_three1 (g0:C[1]? = some (x:Value)) (g1:C[2]? = some (y:Value)) (g2:C[3]? = some (z:Value)) :
  Calls Tryz.prog 71 #[A.lo,A.hi,.slice (some ⟨q,1,none⟩) 3 3] w (Rt (.bool true) w):=
 within_3_1 q w h g0 (Lib.hid (of_right i.fit)) g1 (Lib.hid (of_right j.fit)) g2 (Lib.hid (of_right k.fit)) (lt_in i fA) (gt_in i fA) (lt_in j fA) (gt_in j fA) (lt_in k fA) (gt_in k fA)
theorem in_three7 (g0:C[7]? = some (x:Value)) (g1:C[8]? = some (y:Value)) (g2:C[9]? = some (z:Value)) :
  Calls Tryz.prog 71 #[A.lo,A.hi,.slice (some ⟨q,7,none⟩) 3 3] w (Rt (.bool true) w):=
 within_3_7 q w h g0 (Lib.hid (of_right i.fit)) g1 (Lib.hid (of_right j.fit)) g2 (Lib.hid (of_right k.fit)) (lt_in i fA) (gt_in i fA) (lt_in j fA) (gt_in j fA) (lt_in k fA) (gt_in k fA)
theorem in_three10 (g0:C[10]? = some (x:Value)) (g1:C[11]? = some (y:Value)) (g2:C[12]? = some (z:Value)) :
  Calls Tryz.prog 71 #[A.lo,A.hi,.slice (some ⟨q,10,none⟩) 3 3] w (Rt (.bool true) w):=
 within_3_10 q w h g0 (Lib.hid (of_right i.fit)) g1 (Lib.hid (of_right j.fit)) g2 (Lib.hid (of_right k.fit)) (lt_in i fA) (gt_in i fA) (lt_in j fA) (gt_in j fA) (lt_in k fA) (gt_in k fA)
end
theorem pend_hi {a A:Res} (i:In a A):In (oneR a.hi) A:=⟨one_fit i.fit.hi i.fit.rhi,Int.le_trans i.lo i.fit.le,i.hi⟩
theorem dir_right {A:V3} (iA:InV A dU) (w:World):Calls Tryz.prog 51 #[agV A] w (Rt (.bool true) w):=
 pright_walk w (Lib.hid (right_in iA.x.fit)) (Lib.hid (right_in iA.y.fit)) (Lib.hid (right_in iA.z.fit))
theorem dir_above {A:V3} (iA:InV A dU) (w:World):Calls Tryz.prog 52 #[agV A] w (Rt (.bool true) w):=by
 have x0:=pend_lo iA.x
 have x1:=pend_hi iA.x
 have y0:=pend_lo iA.y
 have y1:=pend_hi iA.y
 have z0:=pend_lo iA.z
 have z1:=pend_hi iA.z
 have fx:=dU_fit.x
 have fz:=dU_fit.z
 exact above_walk w
  (Lib.hid fun q w h=>within_4_0 q w h rfl (Lib.hid (of_right x0.fit)) rfl (Lib.hid (of_right x1.fit)) rfl (Lib.hid (of_right y0.fit)) rfl (Lib.hid (of_right y1.fit)) (lt_in x0 fx) (gt_in x0 fx) (lt_in x1 fx) (gt_in x1 fx) (lt_in y0 fx) (gt_in y0 fx) (lt_in y1 fx) (gt_in y1 fx))
  (Lib.hid fun q w h=>within_2_0 q w h rfl (Lib.hid (of_right z0.fit)) rfl (Lib.hid (of_right z1.fit)) (lt_in z0 fz) (gt_in z0 fz) (lt_in z1 fz) (gt_in z1 fz))
end
section
open Go.RowKit
theorem mul_told {a b:Res} (fa:Fit a) (fb:Fit b) (pb:Nat) (v:World) (h:Has1 v (pb,#[true])):Calls Tryz.prog 21 #[.pointer (some ⟨pb,0,none⟩),.agg #[a.lo,a.hi],.agg #[b.lo,b.hi]] v fun r w'=>r = .returned (.agg #[.float .f64 (mulR a b).lo,.float .f64 (mulR a b).hi])∧Put ⟨pb,0,none⟩ (.int .i64 (mulR a b).e) v w':=by
 have c:=cMul_any 0 a.lo a.hi b.lo b.hi pb 0 v fa.lo fa.hi fb.lo fb.hi h.pc h.pf
 rw [step_two fa fb] at c
 exact c.mono fun _ _ ⟨h1,h2⟩=>⟨h1,h2⟩
theorem dot_told {A B:V3} (iA:InV A pdU) (iB:InV B pdU) (pb:Nat) (v:World) (h:Has1 v (pb,#[true])):Calls Tryz.prog 84 #[.pointer (some ⟨pb,0,none⟩),agV A,agV B] v fun r w'=>r = .returned (.agg #[.float .f64 (Mi.d5 A B).lo,.float .f64 (Mi.d5 A B).hi])∧Put ⟨pb,0,none⟩ (.int .i64 0) v w':=by
 have N:=dot_fits iA iB
 have a1:stM 0 A.x B.x=Mi.d1 A B:=step_two iA.x.fit iB.x.fit _
 have a2:stM 0 A.y B.y=Mi.d2 A B:=step_two iA.y.fit iB.y.fit _
 have a3:stA 0 (Mi.d1 A B) (Mi.d2 A B)=Mi.d3 A B:=step_two N.d1 N.d2 _
 have a4:stM 0 A.z B.z=Mi.d4 A B:=step_two iA.z.fit iB.z.fit _
 have a5:stA 0 (Mi.d3 A B) (Mi.d4 A B)=Mi.d5 A B:=step_two N.d3 N.d4 _
 have e:dotV 0 A B=Mi.d5 A B:=by
  unfold dotV dot4 dot3 dot2 dot1
  simp only [a1,N.d1.e,a2,N.d2.e,a3,N.d3.e,a4,N.d4.e,a5]
 have d:=dot_any (a:=A) (b:=B) 0 iA.fp.wd iB.fp.wd pb v h
 rw [e,N.d5.e] at d
 exact d
theorem edge_words {a:Res} (f:Fit a):(∀ ts t w,(Builtin.max_ ts t #[a.lo,(13830554455654793216:Nat)]).run Tryz.prog w = .ok (.float .f64 (maxW a.lo m1)) w)∧(∀ ts t w,(Builtin.min_ ts t #[.float .f64 (maxW a.lo m1),(4607182418800017408:Nat)]).run Tryz.prog w = .ok (.float .f64 (edgeR a).lo) w) ∧
  (∀ ts t w,(Builtin.max_ ts t #[a.hi,(13830554455654793216:Nat)]).run Tryz.prog w = .ok (.float .f64 (maxW a.hi m1)) w)∧(∀ ts t w,(Builtin.min_ ts t #[.float .f64 (maxW a.hi m1),(4607182418800017408:Nat)]).run Tryz.prog w = .ok (.float .f64 (edgeR a).hi) w):=by
 obtain⟨l1,l2,_⟩:=max_facts a.lo m1 f.lo (by decide) f.rlo (by decide)
 obtain⟨h1,h2,_⟩:=max_facts a.hi m1 f.hi (by decide) f.rhi (by decide)
 rw [edgeR_lo,edgeR_hi]
 exact ⟨fun ts t w=>(run_less a.lo m1 f.lo (by decide) f.rlo (by decide) ts t w).2,fun ts t w=>(run_less _ u1 l1 (by decide) l2 (by decide) ts t w).1,fun ts t w=>(run_less a.hi m1 f.hi (by decide) f.rhi (by decide) ts t w).2,fun ts t w=>(run_less _ u1 h1 (by decide) h2 (by decide) ts t w).1⟩
theorem bigN_fit:Fit bigN:=.of (by decide +kernel)
theorem bigM_fit:Fit bigM:=.of (by decide +kernel)
section
variable {a b c:Nat} (ha:In (oneR a) ouI) (hb:In (oneR b) ouI) (hc:In (oneR c) ouI)
include ha hb hc
theorem rightL_ok (w:World):Calls Tryz.prog 61 #[ndL a b c] w (Rt (.bool true) w):=
 rightL_walk w (feq_self ha.fit) (feq_self hb.fit) (feq_self hc.fit) (Lib.hid fun q w h=>in_three1 ou_fit ha hb hc q w h rfl rfl rfl)
theorem RightL_ok:RigC (ndL a b c):=fun w=>RightL_walk w (Lib.hid fun w=>kindOfL_walk w (Lib.hid fun w=>rightL_ok ha hb hc w))
variable {A B:V3} (iA:InV A dU) (iB:InV B dU)
include iA iB
theorem askedL_ok (w:World):Calls Tryz.prog 27 #[ndL a b c,agV A,agV B] w (Rt (.tuple #[.agg #[.func (.func 61) #[] #[],.func (.func 62) #[] #[],.func (.func 63) #[] #[]],true]) w):=askedL_walk (c1:=Lib.hid (dir_right iA)) (c2:=Lib.hid (dir_right iB)) (c3:=Lib.hid fun w=>kindOfL_walk w (Lib.hid fun w=>rightL_ok ha hb hc w)) (c4:=Lib.hid (dir_above iA)) (c5:=Lib.hid (dir_above iB)) w
theorem ValL0_ok:ValC (ndL a b c) 0 A B (valueR (oneR a)) 0:=fun w=>ValueL0_walk w (Lib.hid fun w=>askedL_ok ha hb hc iA iB w) (Lib.hid fun w=>valL0_walk w (Lib.hid fun w=>value_any ha w))
theorem ValL1_ok:ValC (ndL a b c) 1 A B (valueR (oneR b)) 0:=fun w=>ValueL1_walk w (Lib.hid fun w=>askedL_ok ha hb hc iA iB w) (Lib.hid fun w=>valL1_walk w (Lib.hid fun w=>value_any hb w))
theorem ValL2_ok:ValC (ndL a b c) 2 A B (valueR (oneR c)) 0:=fun w=>ValueL2_walk w (Lib.hid fun w=>askedL_ok ha hb hc iA iB w) (Lib.hid fun w=>valL2_walk w (Lib.hid fun w=>value_any hc w))
theorem ValL3_ok:ValC (ndL a b c) 3 A B (oneR 0) 2:=fun w=>ValueL3_walk w (Lib.hid fun w=>askedL_ok ha hb hc iA iB w)
end
section
variable {a b c s:Nat} (ha:In (oneR a) ouI) (hb:In (oneR b) ouI) (hc:In (oneR c) ouI) (hs:In (oneR s) ouI)
include ha hb hc hs
theorem rightO_ok (w:World):Calls Tryz.prog 64 #[ndO a b c s] w (Rt (.bool true) w):=
 rightO_walk w (feq_self ha.fit) (feq_self hb.fit) (feq_self hc.fit) (feq_self hs.fit) (Lib.hid fun q w h=>in_one ou_fit hs q w h) (Lib.hid fun q w h=>in_three1 ou_fit ha hb hc q w h rfl rfl rfl)
variable {A B:V3} (iA:InV A dU) (iB:InV B dU)
include iA iB
theorem askedO_ok (w:World):Calls Tryz.prog 27 #[ndO a b c s,agV A,agV B] w (Rt (.tuple #[.agg #[.func (.func 64) #[] #[],.func (.func 65) #[] #[],.func (.func 63) #[] #[]],true]) w):=askedO_walk (c1:=Lib.hid (dir_right iA)) (c2:=Lib.hid (dir_right iB)) (c3:=Lib.hid fun w=>kindOfO_walk w (Lib.hid fun w=>rightO_ok ha hb hc hs w)) (c4:=Lib.hid (dir_above iA)) (c5:=Lib.hid (dir_above iB)) w
theorem ValO0_ok (he:(Or.st A.z B.z (Pa.t A B)).e=0):ValC (ndO a b c s) 0 A B (Pa.oren (oneR a) (oneR s) A B) 0:=by
 intro w
 obtain⟨e1,e2,e3,e4⟩:=edge_words (dot_fits iA iB).d5
 exact ValueO0_walk w (Lib.hid fun w=>askedO_ok ha hb hc hs iA iB w) (Lib.hid fun w=>valO0_walk w (Lib.hid (dot_told iA iB)) e1 e2 e3 e4 (Lib.hid fun w=>value8 (d:=Pa.t A B) ha hs (pa_dirs iA iB) he w))
theorem ValO1_ok (he:(Or.st A.z B.z (Pa.t A B)).e=0):ValC (ndO a b c s) 1 A B (Pa.oren (oneR b) (oneR s) A B) 0:=by
 intro w
 obtain⟨e1,e2,e3,e4⟩:=edge_words (dot_fits iA iB).d5
 exact ValueO1_walk w (Lib.hid fun w=>askedO_ok ha hb hc hs iA iB w) (Lib.hid fun w=>valO1_walk w (Lib.hid (dot_told iA iB)) e1 e2 e3 e4 (Lib.hid fun w=>value8 (d:=Pa.t A B) hb hs (pa_dirs iA iB) he w))
theorem ValO2_ok (he:(Or.st A.z B.z (Pa.t A B)).e=0):ValC (ndO a b c s) 2 A B (Pa.oren (oneR c) (oneR s) A B) 0:=by
 intro w
 obtain⟨e1,e2,e3,e4⟩:=edge_words (dot_fits iA iB).d5
 exact ValueO2_walk w (Lib.hid fun w=>askedO_ok ha hb hc hs iA iB w) (Lib.hid fun w=>valO2_walk w (Lib.hid (dot_told iA iB)) e1 e2 e3 e4 (Lib.hid fun w=>value8 (d:=Pa.t A B) hc hs (pa_dirs iA iB) he w))
end
section
variable {a n:Nat} (ha:In (oneR a) aI) (hn:In (oneR n) bigN)
include ha hn
theorem rightP_ok (w:World):Calls Tryz.prog 66 #[ndP a n] w (Rt (.bool true) w):=
 rightP_walk w (feq_self ha.fit) (feq_self hn.fit) (Lib.hid fun q w h=>in_one aI_fit ha q w h) (Lib.hid fun q w h=>in_one bigN_fit hn q w h)
variable {A B:V3} (iA:InV A dU) (iB:InV B dU)
include iA iB
theorem askedP_ok (w:World):Calls Tryz.prog 27 #[ndP a n,agV A,agV B] w (Rt (.tuple #[.agg #[.func (.func 66) #[] #[],.func (.func 67) #[] #[],.func (.func 68) #[] #[]],true]) w):=askedP_walk (c1:=Lib.hid (dir_right iA)) (c2:=Lib.hid (dir_right iB)) (c3:=Lib.hid fun w=>kindOfP_walk w (Lib.hid fun w=>rightP_ok ha hn w)) (c4:=Lib.hid (dir_above iA)) (c5:=Lib.hid (dir_above iB)) w
theorem ValP_all (K:KF A B (oneR a)) (k:Int) (w:World):Calls Tryz.prog 67 #[ndP a n,.int .i64 k,agV A,agV B] w (Rt (.tuple #[.agg #[.float .f64 (Pa.pl (oneR a) (oneR n) A B).lo,.float .f64 (Pa.pl (oneR a) (oneR n) A B).hi],.int .i64 (Pa.pl (oneR a) (oneR n) A B).e]) w):=by
 have hc:In (Mi.half A B) bigC:=(lean_u K.M).2
 have cL:=look_good iA iB ha K
 have cD:=fun w=>diel_any hc hn w
 have cM:=mul_told K.K.val (di_unit hc hn).fit
 unfold LookG LookC at cL
 unfold Pa.pl
 clear K hc
 generalize Mi.val (Mi.lean A B) A.z B.z (oneR a)=V at *
 generalize Mi.den (Mi.lean A B) B.z (oneR a)=E at *
 generalize Di.out (Mi.half A B) (oneR n)=D at *
 generalize Mi.half A B=H at *
 generalize Mi.lean A B=L at *
 generalize mulR V D=Z at *
 exact valP_walk w (Lib.hid fun p w h=>mirP_ok w p (Lib.hid h) (Lib.hid cL) (Lib.hid fun v hv=>plit_walk v p (Lib.hid hv) (Lib.hid cD)) (Lib.hid cM))
theorem DenP_ok {p' q' v' d':Res} {e:Int} (hL:LookC A B (oneR a) p' q' v' d' e):DenC (ndP a n) A B d' e:=fun w=>DensityP_walk w (Lib.hid fun w=>askedP_ok ha hn iA iB w) (Lib.hid fun w=>densP_walk w (Lib.hid hL))
theorem ValP0_of {z:Res} {e:Int} (h:∀ w,Calls Tryz.prog 67 #[ndP a n,true,agV A,agV B] w (Rt (.tuple #[.agg #[z.lo,z.hi],.int .i64 e]) w)):ValC (ndP a n) 0 A B z e:=fun w=>ValueP0_walk w (Lib.hid fun w=>askedP_ok ha hn iA iB w) (Lib.hid h)
theorem ValP1_of {z:Res} {e:Int} (h:∀ w,Calls Tryz.prog 67 #[ndP a n,.int .i64 1,agV A,agV B] w (Rt (.tuple #[.agg #[z.lo,z.hi],.int .i64 e]) w)):ValC (ndP a n) 1 A B z e:=fun w=>ValueP1_walk w (Lib.hid fun w=>askedP_ok ha hn iA iB w) (Lib.hid h)
theorem ValP2_of {z:Res} {e:Int} (h:∀ w,Calls Tryz.prog 67 #[ndP a n,.int .i64 2,agV A,agV B] w (Rt (.tuple #[.agg #[z.lo,z.hi],.int .i64 e]) w)):ValC (ndP a n) 2 A B z e:=fun w=>ValueP2_walk w (Lib.hid fun w=>askedP_ok ha hn iA iB w) (Lib.hid h)
end
section
variable {a p q j s t u:Nat} (ha:In (oneR a) aI) (hp:In (oneR p) bigM) (hq:In (oneR q) bigM) (hj:In (oneR j) bigM) (hs:In (oneR s) bigM) (ht:In (oneR t) bigM) (hu:In (oneR u) bigM)
include ha hp hq hj hs ht hu
theorem rightM_ok (w:World):Calls Tryz.prog 69 #[ndM a p q j s t u] w (Rt (.bool true) w):=
 rightM_walk w (feq_self hp.fit) (feq_self hq.fit) (feq_self hj.fit) (feq_self hs.fit) (feq_self ht.fit) (feq_self hu.fit) (feq_self ha.fit) (Lib.hid fun q w h=>in_one aI_fit ha q w h) (Lib.hid fun x w h=>in_three7 bigM_fit hp hq hj x w h rfl rfl rfl) (Lib.hid fun x w h=>in_three10 bigM_fit hs ht hu x w h rfl rfl rfl)
variable {A B:V3} (iA:InV A dU) (iB:InV B dU)
include iA iB
theorem askedM_ok (w:World):Calls Tryz.prog 27 #[ndM a p q j s t u,agV A,agV B] w (Rt (.tuple #[.agg #[.func (.func 69) #[] #[],.func (.func 70) #[] #[],.func (.func 68) #[] #[]],true]) w):=askedM_walk (c1:=Lib.hid (dir_right iA)) (c2:=Lib.hid (dir_right iB)) (c3:=Lib.hid fun w=>kindOfM_walk w (Lib.hid fun w=>rightM_ok ha hp hq hj hs ht hu w)) (c4:=Lib.hid (dir_above iA)) (c5:=Lib.hid (dir_above iB)) w
omit hq hj ht hu in
theorem ValM0_all (K:KF A B (oneR a)) (he:(Co.r33 (Mi.half A B) (oneR p) (oneR s)).e=0) (w:World):Calls Tryz.prog 70 #[ndM a p q j s t u,true,agV A,agV B] w (Rt (.tuple #[.agg #[.float .f64 (Pa.me (oneR a) (oneR p) (oneR s) A B).lo,.float .f64 (Pa.me (oneR a) (oneR p) (oneR s) A B).hi],.int .i64 (Pa.me (oneR a) (oneR p) (oneR s) A B).e]) w):=by
 have hcc:In (Mi.half A B) bigC:=(lean_u K.M).2
 have cL:=look_good iA iB ha K
 have cD:=fun w=>cond_some hcc hp hs w he
 have cM:=mul_told K.K.val (co_unit hcc hp hs he).fit
 unfold LookG LookC at cL
 unfold Pa.me
 clear K hcc he
 generalize Mi.val (Mi.lean A B) A.z B.z (oneR a)=V at *
 generalize Mi.den (Mi.lean A B) B.z (oneR a)=E at *
 generalize Co.f (Mi.half A B) (oneR p) (oneR s)=D at *
 generalize Mi.half A B=H at *
 generalize Mi.lean A B=L at *
 generalize mulR V D=Z at *
 exact valM0_walk w (Lib.hid fun x y w g1 g2=>mirM_ok w x (Lib.hid g1) y (Lib.hid g2) (Lib.hid cL) (Lib.hid fun v h1 h2=>mlit0_walk v x y (Lib.hid h1) (Lib.hid h2) (Lib.hid cD)) (Lib.hid cM))
omit hp hj hs hu in
theorem ValM1_all (K:KF A B (oneR a)) (he:(Co.r33 (Mi.half A B) (oneR q) (oneR t)).e=0) (w:World):Calls Tryz.prog 70 #[ndM a p q j s t u,.int .i64 1,agV A,agV B] w (Rt (.tuple #[.agg #[.float .f64 (Pa.me (oneR a) (oneR q) (oneR t) A B).lo,.float .f64 (Pa.me (oneR a) (oneR q) (oneR t) A B).hi],.int .i64 (Pa.me (oneR a) (oneR q) (oneR t) A B).e]) w):=by
 have hcc:In (Mi.half A B) bigC:=(lean_u K.M).2
 have cL:=look_good iA iB ha K
 have cD:=fun w=>cond_some hcc hq ht w he
 have cM:=mul_told K.K.val (co_unit hcc hq ht he).fit
 unfold LookG LookC at cL
 unfold Pa.me
 clear K hcc he
 generalize Mi.val (Mi.lean A B) A.z B.z (oneR a)=V at *
 generalize Mi.den (Mi.lean A B) B.z (oneR a)=E at *
 generalize Co.f (Mi.half A B) (oneR q) (oneR t)=D at *
 generalize Mi.half A B=H at *
 generalize Mi.lean A B=L at *
 generalize mulR V D=Z at *
 exact valM1_walk w (Lib.hid fun x y w g1 g2=>mirM_ok w x (Lib.hid g1) y (Lib.hid g2) (Lib.hid cL) (Lib.hid fun v h1 h2=>mlit1_walk v x y (Lib.hid h1) (Lib.hid h2) (Lib.hid cD)) (Lib.hid cM))
omit hp hq hs ht in
theorem ValM2_all (K:KF A B (oneR a)) (he:(Co.r33 (Mi.half A B) (oneR j) (oneR u)).e=0) (w:World):Calls Tryz.prog 70 #[ndM a p q j s t u,.int .i64 2,agV A,agV B] w (Rt (.tuple #[.agg #[.float .f64 (Pa.me (oneR a) (oneR j) (oneR u) A B).lo,.float .f64 (Pa.me (oneR a) (oneR j) (oneR u) A B).hi],.int .i64 (Pa.me (oneR a) (oneR j) (oneR u) A B).e]) w):=by
 have hcc:In (Mi.half A B) bigC:=(lean_u K.M).2
 have cL:=look_good iA iB ha K
 have cD:=fun w=>cond_some hcc hj hu w he
 have cM:=mul_told K.K.val (co_unit hcc hj hu he).fit
 unfold LookG LookC at cL
 unfold Pa.me
 clear K hcc he
 generalize Mi.val (Mi.lean A B) A.z B.z (oneR a)=V at *
 generalize Mi.den (Mi.lean A B) B.z (oneR a)=E at *
 generalize Co.f (Mi.half A B) (oneR j) (oneR u)=D at *
 generalize Mi.half A B=H at *
 generalize Mi.lean A B=L at *
 generalize mulR V D=Z at *
 exact valM2_walk w (Lib.hid fun x y w g1 g2=>mirM_ok w x (Lib.hid g1) y (Lib.hid g2) (Lib.hid cL) (Lib.hid fun v h1 h2=>mlit2_walk v x y (Lib.hid h1) (Lib.hid h2) (Lib.hid cD)) (Lib.hid cM))
theorem DenM_ok {p' q' v' d':Res} {e:Int} (hL:LookC A B (oneR a) p' q' v' d' e):DenC (ndM a p q j s t u) A B d' e:=fun w=>DensityM_walk w (Lib.hid fun w=>askedM_ok ha hp hq hj hs ht hu iA iB w) (Lib.hid fun w=>densM_walk w (Lib.hid hL))
theorem ValM0_of {z:Res} {e:Int} (h:∀ w,Calls Tryz.prog 70 #[ndM a p q j s t u,true,agV A,agV B] w (Rt (.tuple #[.agg #[z.lo,z.hi],.int .i64 e]) w)):ValC (ndM a p q j s t u) 0 A B z e:=fun w=>ValueM0_walk w (Lib.hid fun w=>askedM_ok ha hp hq hj hs ht hu iA iB w) (Lib.hid h)
theorem ValM1_of {z:Res} {e:Int} (h:∀ w,Calls Tryz.prog 70 #[ndM a p q j s t u,.int .i64 1,agV A,agV B] w (Rt (.tuple #[.agg #[z.lo,z.hi],.int .i64 e]) w)):ValC (ndM a p q j s t u) 1 A B z e:=fun w=>ValueM1_walk w (Lib.hid fun w=>askedM_ok ha hp hq hj hs ht hu iA iB w) (Lib.hid h)
theorem ValM2_of {z:Res} {e:Int} (h:∀ w,Calls Tryz.prog 70 #[ndM a p q j s t u,.int .i64 2,agV A,agV B] w (Rt (.tuple #[.agg #[z.lo,z.hi],.int .i64 e]) w)):ValC (ndM a p q j s t u) 2 A B z e:=fun w=>ValueM2_walk w (Lib.hid fun w=>askedM_ok ha hp hq hj hs ht hu iA iB w) (Lib.hid h)
end
end
end Go.Proofs.YtmkgfflebfpcdaaGreat
