/- What the claim stands on, part 35: MiB, MiD, MiE, PaG, MiWD. -/
import Derived.Test.YtnaomilkgfkegaaGreatWA27
import Derived.Test.YtnaomilkgfkegaaGreatWA29
import Derived.Test.YtnaomilkgfkegaaGreatWA31
import Derived.Test.YtnaomilkgfkegaaGreatWA33
import Derived.Test.YtnaomilkgfkegaaGreatWA26
import Derived.Test.YtnaomilkgfkegaaGreatWA19
import Derived.Test.YtnaomilkgfkegaaGreatWA20
import Derived.Test.YtnaomilkgfkegaaGreatWA18
import Derived.Test.YtnaomilkgfkegaaGreatWA21
import Derived.Test.YtnaomilkgfkegaaGreatWA22
import Derived.Test.YtnaomilkgfkegaaGreatWA24
import Derived.Deep.RegionHeld3
import Derived.Test.YtnaomilkgfkegaaGreatWA16
namespace Go.Proofs.YtnaomilkgfkegaaGreat
section
open Go.RowKit
def dU:V3:=⟨⟨0,m1,u1⟩,⟨0,m1,u1⟩,ouI⟩
theorem dU_fit:FitV dU:=⟨.of (by decide +kernel),.of (by decide +kernel),.of (by decide +kernel)⟩
theorem InV.fitV {A B:V3} (h:InV A B):FitV A:=⟨h.x.fit,h.y.fit,h.z.fit⟩
abbrev agV (A:V3):Value:=.agg #[A.x.lo,A.x.hi,A.y.lo,A.y.hi,A.z.lo,A.z.hi]
def arI {r R:Res} (i:In r R):Ar:=⟨r.lo,r.hi,R.lo,R.hi,fun w=>by
 have k:=ivRight_any r.lo r.hi w i.fit.lo i.fit.hi;rw [i.fit.iv] at k
 exact k⟩
theorem arI_ok {r R:Res} (i:In r R) (fR:Fit R):bad (arI i)=false:=by
 have h1:=order_lt r.lo R.lo i.fit.lo fR.lo i.fit.rlo fR.rlo;have h2:=order_gt r.hi R.hi i.fit.hi fR.hi i.fit.rhi fR.rhi;have l:=i.lo;have g:=i.hi;rw [decide_eq_false (by omega)] at h1 h2
 show ((FloatKind.f64.format.order r.lo R.lo == some Ordering.lt) || (FloatKind.f64.format.order r.hi R.hi == some Ordering.gt))=false
 rw [h1,h2]; rfl
theorem clampR_any {a:Res} (h:Wr a) (w:World):Calls Tryz.prog 217 #[.agg #[a.lo,a.hi]] w (Rt (.agg #[.float .f64 (clampR a).lo,.float .f64 (clampR a).hi]) w):=by
 obtain⟨l1,l2,_⟩:=max_facts a.lo 0 h.lo (by decide) h.rlo (by decide);obtain⟨k1,k2,_⟩:=max_facts a.hi 0 h.hi (by decide) h.rhi (by decide)
 exact mclamped_walk w (m_yl:=fun ts t w=>(run_less a.lo 0 h.lo (by decide) h.rlo (by decide) ts t w).2) (m_zl:=fun ts t w=>(run_less _ u1 l1 (by decide) l2 (by decide) ts t w).1)
  (m_yh:=fun ts t w=>(run_less a.hi 0 h.hi (by decide) h.rhi (by decide) ts t w).2) (m_zh:=fun ts t w=>(run_less _ u1 k1 (by decide) k2 (by decide) ts t w).1)
def Hf.s (A B:V3):V3:=addV 0 A B
def Hf.n (A B:V3):Res:=normV (Hf.s A B).z.e (Hf.s A B)
def Hf.u (A B:V3):Res:=stU (Hf.n A B).e uh
def Hf.m (A B:V3):Res:=stM (Hf.u A B).e (Hf.u A B) (Hf.n A B)
def Hf.k (A B:V3):Res:=stD (Hf.m A B).e (Hf.s A B).z (Hf.n A B)
abbrev HalfC (A B:V3) (p q:Res) (e:Int):Prop:=∀ w,Calls Tryz.prog 205 #[agV A,agV B] w (Rt (.tuple #[.agg #[p.lo,p.hi],.agg #[q.lo,q.hi],.int .i64 e]) w)
theorem six_ok {a b c d e f:Ar} (h1:bad a=false) (h2:bad b=false) (h3:bad c=false) (h4:bad d=false) (h5:bad e=false) (h6:bad f=false):(if [a,b,c,d,e,f].any bad=true then (2:Int) else 0)=0:=by
 simp only [List.any_cons,List.any_nil,h1,h2,h3,h4,h5,h6]; rfl
theorem seven_any {a b c d e f g:Ar} (h1:bad a=false) (h2:bad b=false) (h3:bad c=false) (h4:bad d=false) (h5:bad e=false) (h6:bad f=false):(if [a,b,c,d,e,f,g].any bad=true then (2:Int) else 0)=if bad g=true then 2 else 0:=by
 simp only [List.any_cons,List.any_nil,h1,h2,h3,h4,h5,h6,Bool.false_or,Bool.or_false]
section
variable {A B:V3} (iA:InV A dU) (iB:InV B dU)
include iA iB
theorem hf_wr:(Wr (Hf.s A B).x∧Wr (Hf.s A B).y∧Wr (Hf.s A B).z)∧Wr (Hf.n A B)∧Wr (Hf.u A B)∧Wr (Hf.m A B)∧Wr (Hf.k A B):=by
 have sx:Wr (Hf.s A B).x:=stA_wr 0 iA.x.fit.wr iB.x.fit.wr;have sy:Wr (Hf.s A B).y:=stA_wr (stA 0 A.x B.x).e iA.y.fit.wr iB.y.fit.wr;have sz:Wr (Hf.s A B).z:=stA_wr (stA (stA 0 A.x B.x).e A.y B.y).e iA.z.fit.wr iB.z.fit.wr;have n:Wr (Hf.n A B):=stR_wr _ (stA_wr _ (stA_wr _ (stQ_wr _ sx) (stQ_wr _ sy)) (stQ_wr _ sz));have u:Wr (Hf.u A B):=stU_wr _ uh_fit;exact ⟨⟨sx,sy,sz⟩,n,u,stM_wr _ u n,stD_wr _ sz n⟩
theorem half_ok:((Hf.k A B).e=0→HalfC A B (clampR (Hf.k A B)) (clampR (Hf.m A B)) 0):=by
 obtain⟨⟨wx,wy,wz⟩,wn,wu,wm,wk⟩:=hf_wr iA iB
 have cA:=Hd fun w=>args0_any (e1:=arI iA.x) (e2:=arI iA.y) (e3:=arI iA.z) (e4:=arI iB.x) (e5:=arI iB.y) (e6:=arI iB.z) ⟨rfl,rfl⟩ ⟨rfl,rfl⟩ ⟨rfl,rfl⟩ ⟨rfl,rfl⟩ ⟨rfl,rfl⟩ ⟨rfl,rfl⟩ w
 have cK:=Hd fun lb w (h:Gd [arI iA.x,arI iA.y,arI iA.z,arI iB.x,arI iB.y,arI iB.z] 6 lb w)=>check_all lb w h
 rw [six_ok (arI_ok iA.x dU_fit.x) (arI_ok iA.y dU_fit.y) (arI_ok iA.z dU_fit.z) (arI_ok iB.x dU_fit.x) (arI_ok iB.y dU_fit.y) (arI_ok iB.z dU_fit.z)] at cK
 have d3:=Hd fun pb v h=>vadd_any 0 iA.fitV.wd iB.fitV.wd pb v h
 have d4:=Hd fun pb v h=>norm_any (a:=Hf.s A B) (Hf.s A B).z.e ⟨⟨wx.lo,wx.hi⟩,⟨wy.lo,wy.hi⟩,⟨wz.lo,wz.hi⟩⟩ pb v h
 have d5:=Hd fun pb v (h:Has1 v (pb,#[.int .i64 (Hf.n A B).e]))=>s_num (Hf.n A B).e pb uh_fit v h.pc h.pf
 have d6:=Hd fun pb v (h:Has1 v (pb,#[.int .i64 (Hf.u A B).e]))=>s_mul (Hf.u A B).e wu wn pb v h.pc h.pf
 have d8:=Hd fun pb v (h:Has1 v (pb,#[.int .i64 (Hf.m A B).e]))=>s_div (Hf.m A B).e wz wn pb v h.pc h.pf
 have c7:=Hd fun w=>clampR_any wm w
 have c9:=Hd fun w=>clampR_any wk w
 intro h w;exact mhalf w cA cK d3 d4 d5 d6 c7 d8 c9 (Hd (.inl ⟨by simpa [Hf.k] using h,rfl⟩))
theorem half_all:((Hf.k A B).e=0→HalfC A B (clampR (Hf.k A B)) (clampR (Hf.m A B)) 0)∧((Hf.k A B).e≠0→HalfC A B (oneR 0) (oneR 0) (Hf.k A B).e):=by
 obtain⟨⟨wx,wy,wz⟩,wn,wu,wm,wk⟩:=hf_wr iA iB
 have cA:=Hd fun w=>args0_any (e1:=arI iA.x) (e2:=arI iA.y) (e3:=arI iA.z) (e4:=arI iB.x) (e5:=arI iB.y) (e6:=arI iB.z) ⟨rfl,rfl⟩ ⟨rfl,rfl⟩ ⟨rfl,rfl⟩ ⟨rfl,rfl⟩ ⟨rfl,rfl⟩ ⟨rfl,rfl⟩ w
 have cK:=Hd fun lb w (h:Gd [arI iA.x,arI iA.y,arI iA.z,arI iB.x,arI iB.y,arI iB.z] 6 lb w)=>check_all lb w h
 rw [six_ok (arI_ok iA.x dU_fit.x) (arI_ok iA.y dU_fit.y) (arI_ok iA.z dU_fit.z) (arI_ok iB.x dU_fit.x) (arI_ok iB.y dU_fit.y) (arI_ok iB.z dU_fit.z)] at cK
 have d3:=Hd fun pb v h=>vadd_any 0 iA.fitV.wd iB.fitV.wd pb v h
 have d4:=Hd fun pb v h=>norm_any (a:=Hf.s A B) (Hf.s A B).z.e ⟨⟨wx.lo,wx.hi⟩,⟨wy.lo,wy.hi⟩,⟨wz.lo,wz.hi⟩⟩ pb v h
 have d5:=Hd fun pb v (h:Has1 v (pb,#[.int .i64 (Hf.n A B).e]))=>s_num (Hf.n A B).e pb uh_fit v h.pc h.pf
 have d6:=Hd fun pb v (h:Has1 v (pb,#[.int .i64 (Hf.u A B).e]))=>s_mul (Hf.u A B).e wu wn pb v h.pc h.pf
 have d8:=Hd fun pb v (h:Has1 v (pb,#[.int .i64 (Hf.m A B).e]))=>s_div (Hf.m A B).e wz wn pb v h.pc h.pf
 have c7:=Hd fun w=>clampR_any wm w
 have c9:=Hd fun w=>clampR_any wk w
 refine ⟨half_ok iA iB,fun h w=>?_⟩;exact mhalf w cA cK d3 d4 d5 d6 c7 d8 c9 (Hd (.inr ⟨by simpa [Hf.k] using h,rfl⟩))
theorem hf_plain (M:MF A B):Hf.n A B=Mi.n A B∧Hf.m A B=Mi.h A B∧Hf.k A B=Mi.l A B:=by
 have fA:=iA.fitV;have fB:=iB.fitV;have a1:stA 0 A.x B.x=Mi.sx A B:=step_two fA.x fB.x _;have a2:stA 0 A.y B.y=Mi.sy A B:=step_two fA.y fB.y _;have a3:stA 0 A.z B.z=Mi.sz A B:=step_two fA.z fB.z _
 have s:Hf.s A B=⟨Mi.sx A B,Mi.sy A B,Mi.sz A B⟩:=by
  unfold Hf.s addV bothV;rw [a1,M.sx.e,a2,M.sy.e,a3]
 have q1:stQ 0 (Mi.sx A B)=Mi.n1 A B:=step_one M.sx _;have q2:stQ 0 (Mi.sy A B)=Mi.n2 A B:=step_one M.sy _;have q3:stA 0 (Mi.n1 A B) (Mi.n2 A B)=Mi.n3 A B:=step_two M.n1 M.n2 _;have q4:stQ 0 (Mi.sz A B)=Mi.n4 A B:=step_one M.sz _;have q5:stA 0 (Mi.n3 A B) (Mi.n4 A B)=Mi.n5 A B:=step_two M.n3 M.n4 _;have q6:stR 0 (Mi.n5 A B)=Mi.n A B:=step_one M.n5 _
 have n:Hf.n A B=Mi.n A B:=by
  unfold Hf.n;rw [s]
  show normV (Mi.sz A B).e ⟨Mi.sx A B,Mi.sy A B,Mi.sz A B⟩=_
  rw [M.sz.e];unfold normV nrm5 nrm4 nrm3 nrm2 nrm1;simp only [q1,M.n1.e,q2,M.n2.e,q3,M.n3.e,q4,M.n4.e,q5,M.n5.e,q6]
 have u:Hf.u A B=oneR uh:=by unfold Hf.u; rw [n,M.n.e]; exact stU_plain uh_fit
 have m:Hf.m A B=Mi.h A B:=by
  unfold Hf.m; rw [u,n]
  exact step_two uh_fit M.n _
 refine ⟨n,m,?_⟩;unfold Hf.k;rw [m,M.h.e,n,s];exact step_two M.sz M.n _
theorem hf_none (h:(Hf.k A B).e=0):MF A B:=by
 have fA:=iA.fitV;have fB:=iB.fitV;have h1:=st_none h;have h2:=st_none h1.1;have h3:=st_none h2.1;have g6:=st_none h3.1;have g5:=st_none g6.1;have g4:=st_none g5.1;have g3:=st_none g4.1;have g2:=st_none g3.1;have g1:=st_none g2.1;have z3:=st_none g1.1;have z2:=st_none z3.1;have z1:=st_none z2.1;have a1:stA 0 A.x B.x=Mi.sx A B:=step_two fA.x fB.x _
 have e1:(Mi.sx A B).e=0:=by rw [←a1]; exact z2.1
 have s1:(Hf.s A B).x=Mi.sx A B:=a1;have a2:(Hf.s A B).y=Mi.sy A B:=z2.2.2
 have e2:(Mi.sy A B).e=0:=by rw [←a2]; exact z3.1
 have a3:(Hf.s A B).z=Mi.sz A B:=z3.2.2
 have e3:(Mi.sz A B).e=0:=by rw [←a3]; exact g1.1
 have b1:nrm1 (Hf.s A B).z.e (Hf.s A B)=Mi.n1 A B:=by have:=g1.2.2; rw [s1] at this; exact (by unfold nrm1; rw [s1]; exact this)
 have e4:(Mi.n1 A B).e=0:=by rw [←b1]; exact g2.1
 have b2:nrm2 (Hf.s A B).z.e (Hf.s A B)=Mi.n2 A B:=by have:=g2.2.2; rw [a2] at this; exact (by unfold nrm2; rw [a2]; exact this)
 have e5:(Mi.n2 A B).e=0:=by rw [←b2]; exact g3.1
 have b3:nrm3 (Hf.s A B).z.e (Hf.s A B)=Mi.n3 A B:=by have:=g3.2.2; rw [b1,b2] at this; exact (by unfold nrm3; rw [b1,b2]; exact this)
 have e6:(Mi.n3 A B).e=0:=by rw [←b3]; exact g4.1
 have b4:nrm4 (Hf.s A B).z.e (Hf.s A B)=Mi.n4 A B:=by have:=g4.2.2; rw [a3] at this; exact (by unfold nrm4; rw [a3] at *; exact this)
 have e7:(Mi.n4 A B).e=0:=by rw [←b4]; exact g5.1
 have b5:nrm5 (Hf.s A B).z.e (Hf.s A B)=Mi.n5 A B:=by have:=g5.2.2; rw [b3,b4] at this; exact (by unfold nrm5; rw [b3,b4]; exact this)
 have e8:(Mi.n5 A B).e=0:=by rw [←b5]; exact g6.1
 have b6:Hf.n A B=Mi.n A B:=by have:=g6.2.2; rw [b5] at this; exact (by unfold Hf.n normV; rw [b5]; exact this)
 have e9:(Mi.n A B).e=0:=by rw [←b6]; exact h3.1
 have b7:Hf.u A B=oneR uh:=by unfold Hf.u; rw [h3.1]; exact stU_plain uh_fit
 have b8:Hf.m A B=Mi.h A B:=by have:=h2.2.2; rw [b7,b6] at this; exact (by unfold Hf.m; rw [b7,b6]; exact this)
 have e10:(Mi.h A B).e=0:=by rw [←b8]; exact h1.1
 have b9:Hf.k A B=Mi.l A B:=by have:=h1.2.2; rw [a3,b6] at this; exact (by unfold Hf.k; rw [a3,b6]; exact this)
 have e11:(Mi.l A B).e=0:=by rw [←b9]; exact h
 exact mf_steps fA fB e1 e2 e3 e4 e5 e6 e7 e8 e9 e10 e11
theorem half_good (M:MF A B):HalfC A B (Mi.lean A B) (Mi.half A B) 0:=fun w=>by
 obtain⟨_,e2,e3⟩:=hf_plain iA iB M;have k:=half_ok iA iB (by rw [e3]; exact M.l.e) w;rw [e2,e3] at k;exact k
end
end
section
open Go.RowKit
theorem or5_none {a b c d e:Int} (h:or5 a b c d e=0):a=0∧b=0∧c=0∧d=0∧e=0:=by
 unfold or5 at h
 by_cases h1:(a != 0)=true
 ·rw [if_pos h1] at h; rw [h] at h1; exact absurd h1 (by decide)
 rw [if_neg h1] at h
 by_cases h2:(b != 0)=true
 ·rw [if_pos h2] at h; rw [h] at h2; exact absurd h2 (by decide)
 rw [if_neg h2] at h
 by_cases h3:(c != 0)=true
 ·rw [if_pos h3] at h; rw [h] at h3; exact absurd h3 (by decide)
 rw [if_neg h3] at h
 by_cases h4:(d != 0)=true
 ·rw [if_pos h4] at h; rw [h] at h4; exact absurd h4 (by decide)
 rw [if_neg h4] at h;exact ⟨by simpa using h1,by simpa using h2,by simpa using h3,by simpa using h4,h⟩
def Lk.w:Res:=stU 0 w4
def Lk.r (D g:Res):Res:=stM Lk.w.e D g
def Lk.s (D g i:Res):Res:=stM (Lk.r D g).e Lk.w i
def Lk.t (D g i o:Res):Res:=stM (Lk.s D g i).e (Lk.s D g i) o
def Lk.u (D g i o:Res):Res:=stD (Lk.t D g i o).e (Lk.r D g) (Lk.t D g i o)
def Lk.z (D g f i o:Res):Res:=stM (Lk.u D g i o).e f D
def Lk.x (D g f i o:Res):Res:=stM (Lk.z D g f i o).e Lk.w o
def Lk.y (D g f i o:Res):Res:=stD (Lk.x D g f i o).e (Lk.z D g f i o) (Lk.x D g f i o)
abbrev LookC (A B:V3) (a p q v d:Res) (e:Int):Prop:=∀ w,Calls Tryz.prog 189 #[agV A,agV B,.agg #[a.lo,a.hi]] w fun r w'=>r = .returned (.tuple #[.agg #[p.lo,p.hi,q.lo,q.hi,v.lo,v.hi,d.lo,d.hi],.int .i64 e])∧Below w.heap.size w w'
theorem lk_w:Lk.w=oneR w4:=stU_plain w4_fit
theorem G1_wr {o a:Res} (ho:In o ouI) (ha:In a aI):Wr (Vt.k4 o a):=stD_wr _ u1_fit.wr (stA_wr _ u1_fit.wr (nn_wr (lam_last 0 ho.fit.wr ha.fit.wr)))
theorem G2_wr {i o a:Res} (hi:In i ouI) (ho:In o ouI) (ha:In a aI):Wr (Wt.k5 i o a):=by
 have h3:Wr (Vt.k3 i a):=stA_wr _ u1_fit.wr (nn_wr (lam_last 0 hi.fit.wr ha.fit.wr));have hy:Wr (Wt.y i o a):=lam_last _ ho.fit.wr ha.fit.wr;exact stD_wr _ u1_fit.wr (stA_wr _ h3 (nn_wr hy))
section
variable {A B:V3} {a:Res} (iA:InV A dU) (iB:InV B dU)
include iA iB
theorem half_answer:∃ (p q:Res) (e:Int),HalfC A B p q e∧In p ouI∧((Hf.k A B).e=e)∧(e=0→MF A B∧p=Mi.lean A B∧q=Mi.half A B)∧Wr q:=by
 by_cases h:(Hf.k A B).e=0
 ·have M:=hf_none iA iB h
  obtain⟨i1,i2⟩:=lean_u M;exact ⟨_,_,0,half_good iA iB M,i1,h,fun _=>⟨M,rfl,rfl⟩,i2.fit.wr⟩
 ·exact ⟨oneR 0,oneR 0,_,(half_all iA iB).2 h,nil_in,rfl,fun e=>absurd e h,nil_in.fit.wr⟩
variable (ha:In a aI)
include ha
theorem look_ok {p q:Res} {e:Int} (hH:HalfC A B p q e) (hp:In p ouI) :
  let D:=Gx.D p a; let g:=Wt.k5 A.z B.z a; let f:=Vt.k4 B.z a
  (or5 e 0 g.e f.e (Lk.y D g f A.z B.z).e=0→LookC A B a p q (Lk.u D g A.z B.z) (Lk.y D g f A.z B.z) 0):=by
 intro D g f;have wD:Wr D:=(g_in hp ha).D.fit.wr;have wg:Wr g:=G2_wr iA.z iB.z ha;have wf:Wr f:=G1_wr iB.z ha;have wi:=iA.z.fit.wr;have wo:=iB.z.fit.wr;have ww:Wr Lk.w:=stU_wr _ w4_fit;have wr':Wr (Lk.r D g):=stM_wr _ wD wg;have ws:Wr (Lk.s D g A.z):=stM_wr _ ww wi;have wt:Wr (Lk.t D g A.z B.z):=stM_wr _ ws wo;have wu:Wr (Lk.u D g A.z B.z):=stD_wr _ wr' wt;have wz:Wr (Lk.z D g f A.z B.z):=stM_wr _ wf wD;have wx:Wr (Lk.x D g f A.z B.z):=stM_wr _ ww wo
 have cA:=Hd fun (q:Nat) (w:World) (hq:Has1 w (q,#[a.lo,a.hi]))=>args1_any (e1:=arI iA.x) (e2:=arI iA.y) (e3:=arI iA.z) (e4:=arI iB.x) (e5:=arI iB.y) (e6:=arI iB.z) (e7:=arI ha) ⟨rfl,rfl⟩ ⟨rfl,rfl⟩ ⟨rfl,rfl⟩ ⟨rfl,rfl⟩ ⟨rfl,rfl⟩ ⟨rfl,rfl⟩ ⟨rfl,rfl⟩ q w hq
 have cK:=Hd fun lb w (h:Gd [arI iA.x,arI iA.y,arI iA.z,arI iB.x,arI iB.y,arI iB.z,arI ha] 7 lb w)=>check_all lb w h
 rw [seven_any (arI_ok iA.x dU_fit.x) (arI_ok iA.y dU_fit.y) (arI_ok iA.z dU_fit.z) (arI_ok iB.x dU_fit.x) (arI_ok iB.y dU_fit.y) (arI_ok iB.z dU_fit.z),arI_ok ha aI_fit,if_neg Bool.false_ne_true] at cK;have c4:=Hd (D_any hp ha);have c5:=Hd (G2_any iA.z iB.z ha);have c6:=Hd (G1_any iB.z ha)
 have d7:=Hd fun pb v (h:Has1 v (pb,#[true]))=>s_num 0 pb w4_fit v h.pc h.pf
 have d8:=Hd fun pb v (h:Has1 v (pb,#[.int .i64 Lk.w.e]))=>s_mul Lk.w.e wD wg pb v h.pc h.pf
 have d9:=Hd fun pb v (h:Has1 v (pb,#[.int .i64 (Lk.r D g).e]))=>s_mul (Lk.r D g).e ww wi pb v h.pc h.pf
 have d10:=Hd fun pb v (h:Has1 v (pb,#[.int .i64 (Lk.s D g A.z).e]))=>s_mul (Lk.s D g A.z).e ws wo pb v h.pc h.pf
 have d11:=Hd fun pb v (h:Has1 v (pb,#[.int .i64 (Lk.t D g A.z B.z).e]))=>s_div (Lk.t D g A.z B.z).e wr' wt pb v h.pc h.pf
 have d12:=Hd fun pb v (h:Has1 v (pb,#[.int .i64 (Lk.u D g A.z B.z).e]))=>s_mul (Lk.u D g A.z B.z).e wf wD pb v h.pc h.pf
 have d13:=Hd fun pb v (h:Has1 v (pb,#[.int .i64 (Lk.z D g f A.z B.z).e]))=>s_mul (Lk.z D g f A.z B.z).e ww wo pb v h.pc h.pf
 have d14:=Hd fun pb v (h:Has1 v (pb,#[.int .i64 (Lk.x D g f A.z B.z).e]))=>s_div (Lk.x D g f A.z B.z).e wz wx pb v h.pc h.pf
 have cO:=Hd fun q w h=>cmpOr_any e 0 g.e f.e (Lk.y D g f A.z B.z).e q w h
 intro h w;exact mlook w cA cK (Hd hH) c4 c5 c6 d7 d8 d9 d10 d11 d12 d13 d14 cO (Hd (.inl ⟨by rw [h]; rfl,rfl⟩))
theorem look_bad {p q:Res} {e:Int} (hH:HalfC A B p q e) (hp:In p ouI) :
  let D:=Gx.D p a; let g:=Wt.k5 A.z B.z a; let f:=Vt.k4 B.z a
  (or5 e 0 g.e f.e (Lk.y D g f A.z B.z).e≠0→LookC A B a (oneR 0) (oneR 0) (oneR 0) (oneR 0) (or5 e 0 g.e f.e (Lk.y D g f A.z B.z).e)):=by
 intro D g f;have wD:Wr D:=(g_in hp ha).D.fit.wr;have wg:Wr g:=G2_wr iA.z iB.z ha;have wf:Wr f:=G1_wr iB.z ha;have wi:=iA.z.fit.wr;have wo:=iB.z.fit.wr;have ww:Wr Lk.w:=stU_wr _ w4_fit;have wr':Wr (Lk.r D g):=stM_wr _ wD wg;have ws:Wr (Lk.s D g A.z):=stM_wr _ ww wi;have wt:Wr (Lk.t D g A.z B.z):=stM_wr _ ws wo;have wu:Wr (Lk.u D g A.z B.z):=stD_wr _ wr' wt;have wz:Wr (Lk.z D g f A.z B.z):=stM_wr _ wf wD;have wx:Wr (Lk.x D g f A.z B.z):=stM_wr _ ww wo
 have cA:=Hd fun (q:Nat) (w:World) (hq:Has1 w (q,#[a.lo,a.hi]))=>args1_any (e1:=arI iA.x) (e2:=arI iA.y) (e3:=arI iA.z) (e4:=arI iB.x) (e5:=arI iB.y) (e6:=arI iB.z) (e7:=arI ha) ⟨rfl,rfl⟩ ⟨rfl,rfl⟩ ⟨rfl,rfl⟩ ⟨rfl,rfl⟩ ⟨rfl,rfl⟩ ⟨rfl,rfl⟩ ⟨rfl,rfl⟩ q w hq
 have cK:=Hd fun lb w (h:Gd [arI iA.x,arI iA.y,arI iA.z,arI iB.x,arI iB.y,arI iB.z,arI ha] 7 lb w)=>check_all lb w h
 rw [seven_any (arI_ok iA.x dU_fit.x) (arI_ok iA.y dU_fit.y) (arI_ok iA.z dU_fit.z) (arI_ok iB.x dU_fit.x) (arI_ok iB.y dU_fit.y) (arI_ok iB.z dU_fit.z),arI_ok ha aI_fit,if_neg Bool.false_ne_true] at cK;have c4:=Hd (D_any hp ha);have c5:=Hd (G2_any iA.z iB.z ha);have c6:=Hd (G1_any iB.z ha)
 have d7:=Hd fun pb v (h:Has1 v (pb,#[true]))=>s_num 0 pb w4_fit v h.pc h.pf
 have d8:=Hd fun pb v (h:Has1 v (pb,#[.int .i64 Lk.w.e]))=>s_mul Lk.w.e wD wg pb v h.pc h.pf
 have d9:=Hd fun pb v (h:Has1 v (pb,#[.int .i64 (Lk.r D g).e]))=>s_mul (Lk.r D g).e ww wi pb v h.pc h.pf
 have d10:=Hd fun pb v (h:Has1 v (pb,#[.int .i64 (Lk.s D g A.z).e]))=>s_mul (Lk.s D g A.z).e ws wo pb v h.pc h.pf
 have d11:=Hd fun pb v (h:Has1 v (pb,#[.int .i64 (Lk.t D g A.z B.z).e]))=>s_div (Lk.t D g A.z B.z).e wr' wt pb v h.pc h.pf
 have d12:=Hd fun pb v (h:Has1 v (pb,#[.int .i64 (Lk.u D g A.z B.z).e]))=>s_mul (Lk.u D g A.z B.z).e wf wD pb v h.pc h.pf
 have d13:=Hd fun pb v (h:Has1 v (pb,#[.int .i64 (Lk.z D g f A.z B.z).e]))=>s_mul (Lk.z D g f A.z B.z).e ww wo pb v h.pc h.pf
 have d14:=Hd fun pb v (h:Has1 v (pb,#[.int .i64 (Lk.x D g f A.z B.z).e]))=>s_div (Lk.x D g f A.z B.z).e wz wx pb v h.pc h.pf
 have cO:=Hd fun q w h=>cmpOr_any e 0 g.e f.e (Lk.y D g f A.z B.z).e q w h
 intro h w;exact mlook w cA cK (Hd hH) c4 c5 c6 d7 d8 d9 d10 d11 d12 d13 d14 cO (Hd (.inr ⟨by simpa using h,rfl⟩))
end
end
section
open Go.RowKit
attribute [local go_sem] run_store_float
theorem stD_none {e:Int} {a b:Res} (h:(stD e a b).e=0):e=0∧stD e a b=divR a b:=by
 unfold stD at h ⊢;exact ⟨(st_none h).1,(st_none h).2.2⟩
theorem stM_none {e:Int} {a b:Res} (h:(stM e a b).e=0):e=0∧stM e a b=mulR a b:=by
 unfold stM at h ⊢;exact ⟨(st_none h).1,(st_none h).2.2⟩
section
variable {l i o a:Res}
theorem lk_plain (K:VF l i o a) (fi:Fit i) (fo:Fit o):Lk.u (Gx.D l a) (Gx.w i o a) i o=Mi.val l i o a∧Lk.y (Gx.D l a) (Gx.w i o a) (Gx.v o a) i o=Mi.den l o a:=by
 have e0:Lk.w.e=0:=by rw [lk_w]; rfl
 have r:Lk.r (Gx.D l a) (Gx.w i o a)=Mi.v1 l i o a:=by unfold Lk.r; rw [e0]; exact step_two K.D K.w _
 have s:Lk.s (Gx.D l a) (Gx.w i o a) i=Mi.v2 i:=by unfold Lk.s; rw [r,K.v1.e,lk_w]; exact step_two w4_fit fi _
 have t:Lk.t (Gx.D l a) (Gx.w i o a) i o=Mi.v3 i o:=by unfold Lk.t; rw [s,K.v2.e]; exact step_two K.v2 fo _
 have u:Lk.u (Gx.D l a) (Gx.w i o a) i o=Mi.val l i o a:=by unfold Lk.u; rw [t,K.v3.e,r]; exact step_two K.v1 K.v3 _
 have z:Lk.z (Gx.D l a) (Gx.w i o a) (Gx.v o a) i o=Mi.p1 l o a:=by unfold Lk.z; rw [u,K.val.e]; exact step_two K.v K.D _
 have x:Lk.x (Gx.D l a) (Gx.w i o a) (Gx.v o a) i o=Mi.v2 o:=by unfold Lk.x; rw [z,K.p1.e,lk_w]; exact step_two w4_fit fo _
 refine ⟨u,?_⟩;unfold Lk.y;rw [x,K.v2'.e,z];exact step_two K.p1 K.v2' _
theorem lk_none (fi:Fit i) (fo:Fit o) (D:Fit (Gx.D l a)) (w:Fit (Gx.w i o a)) (v:Fit (Gx.v o a)) (h:(Lk.y (Gx.D l a) (Gx.w i o a) (Gx.v o a) i o).e=0):VF l i o a:=by
 generalize hD:Gx.D l a=d at h;generalize hw:Gx.w i o a=g at h;generalize hv:Gx.v o a=f at h;unfold Lk.y at h;obtain⟨x0,hy⟩:=stD_none h;rw [hy] at h;unfold Lk.x at x0;obtain⟨z0,hx⟩:=stM_none x0;rw [hx,lk_w] at x0;unfold Lk.z at z0;obtain⟨u0,hz⟩:=stM_none z0;rw [hz] at z0;unfold Lk.u at u0;obtain⟨t0,hu⟩:=stD_none u0;rw [hu] at u0;unfold Lk.t at t0;obtain⟨s0,ht⟩:=stM_none t0;rw [ht] at t0;unfold Lk.s at s0;obtain⟨r0,hs⟩:=stM_none s0;rw [hs,lk_w] at s0;unfold Lk.r at r0;obtain⟨_,hr⟩:=stM_none r0;rw [hr] at r0
 have fr:Lk.r d g=mulR d g:=by unfold Lk.r; exact hr
 have fs:Lk.s d g i=mulR (oneR w4) i:=by unfold Lk.s; rw [hs,lk_w]
 have ft:Lk.t d g i o=mulR (mulR (oneR w4) i) o:=by unfold Lk.t; rw [ht,fs]
 have fz:Lk.z d g f i o=mulR f d:=by unfold Lk.z; exact hz
 have fx:Lk.x d g f i o=mulR (oneR w4) o:=by unfold Lk.x; rw [hx,lk_w]
 rw [fs] at t0;rw [fr,ft] at u0;rw [fz,fx] at h;subst hD hw hv;have e1:(Mi.v1 l i o a).e=0:=r0;have e2:(Mi.v2 i).e=0:=s0;have e3:(Mi.v3 i o).e=0:=t0;have e4:(Mi.val l i o a).e=0:=u0;have e5:(Mi.p1 l o a).e=0:=z0;have e2':(Mi.v2 o).e=0:=x0;exact vf_steps fi fo D w v e1 e2 e2' e3 e4 e5 h
theorem G1_none (ho:In o ouI) (ha:In a aI) (L:LF0 o a) (h:(Vt.k4 o a).e=0):LF o a∧Vt.k4 o a=Gx.v o a:=by
 have K:=(g_in ho ha).fits;have h3:=(st_none h).1;have e3:=q_plain K L ho.fit ha.fit;rw [e3] at h3;have fq:Fit (Gx.q o a):=ask_fit (oneR u1) (Gx.l o a) 0 (by decide) u1_fit L.l h3
 have e4:Vt.k4 o a=Gx.v o a:=by unfold Vt.k4; rw [e3,fq.e]; exact step_two u1_fit fq _
 rw [e4] at h;exact ⟨⟨L.t,L.m,L.p,L.r,L.d,L.h,L.l,fq,ask_fit (oneR u1) (Gx.q o a) 3 (by decide) u1_fit fq h⟩,e4⟩
end
structure KF (A B:V3) (a:Res):Prop where
 M:MF A B
 i:LF0 A.z a
 q:Fit (Gx.q A.z a)
 o:LF B.z a
 q2:Fit (Gx.q2 A.z B.z a)
 K:VF (Mi.lean A B) A.z B.z a
abbrev LookG (A B:V3) (a:Res):Prop:=LookC A B a (Mi.lean A B) (Mi.half A B) (Mi.val (Mi.lean A B) A.z B.z a) (Mi.den (Mi.lean A B) B.z a) 0
section
variable {A B:V3} {a:Res} (iA:InV A dU) (iB:InV B dU) (ha:In a aI)
include iA iB ha
theorem look_good (k:KF A B a):LookG A B a:=by
 have e2:=G2_plain (g_in iA.z ha).fits k.i k.q (g_in iB.z ha).fits k.o.zero iA.z.fit iB.z.fit ha.fit k.q2;have e1:=(G1_plain (g_in iB.z ha).fits k.o iB.z.fit ha.fit).2;obtain⟨u,y⟩:=lk_plain k.K iA.z.fit iB.z.fit;have h:=@id (_→_) (look_ok iA iB ha (half_good iA iB k.M) (lean_u k.M).1);rw [e2,e1,u,y,k.K.w.e,k.K.v.e,k.K.den.e] at h;exact h rfl
theorem look_cases:KF A B a∨∃ e,e≠0∧LookC A B a (oneR 0) (oneR 0) (oneR 0) (oneR 0) e:=by
 obtain⟨p,q,e,hH,hp,he,hM,_⟩:=half_answer iA iB;have l2:=look_bad iA iB ha hH hp
 by_cases h:or5 e 0 (Wt.k5 A.z B.z a).e (Vt.k4 B.z a).e (Lk.y (Gx.D p a) (Wt.k5 A.z B.z a) (Vt.k4 B.z a) A.z B.z).e=0
 ·obtain⟨z1,_,z3,z4,z5⟩:=or5_none h
  obtain⟨M,rfl,_⟩:=hM z1;obtain⟨Li,fq,Lo,f2,fw,ew⟩:=G2_none iA.z iB.z ha z3;obtain⟨Lv,ev⟩:=G1_none iB.z ha Lo z4;rw [ew,ev] at z5;exact .inl ⟨M,Li,fq,Lv,f2,lk_none iA.z.fit iB.z.fit (g_in hp ha).D.fit fw Lv.v z5⟩
 ·exact .inr ⟨_,h,l2 h⟩
end
theorem In.via {a B C:Res} (h:In a B) (k:In B C):In a C:=⟨h.fit,Int.le_trans k.lo h.lo,Int.le_trans h.hi k.hi⟩
theorem z7_c8:In zI7 cI8∧In zI7 ouI:=⟨⟨.of (by decide +kernel),by decide +kernel,by decide +kernel⟩,⟨.of (by decide +kernel),by decide +kernel,by decide +kernel⟩⟩
theorem dB_dU {A:V3} (h:InV A dB):InV A dU:=⟨h.x,h.y,h.z.via z7_c8.2⟩
theorem kf_dirs {A B:V3} {a:Res} (iA:InV A dB) (iB:InV B dB) (ha:In a aI):KF A B a:=by
 have hi:=iA.z.via z7_c8.1;have ho:=iB.z.via z7_c8.1;have V:=vd_in (lean_c8 iA iB) hi ho ha;have Li:=l8_in hi ha;have Lo:=l8_in ho ha;exact ⟨(md_in iA iB).fits,Li.fits.zero,Li.q.fit,Lo.fits,(q2_in hi ho ha).fit,⟨(g8_in (lean_c8 iA iB) ha).D.fit,(w_in hi ho ha).fit,Lo.v.fit,V.v1.fit,V.v2.fit,V.v2'.fit,V.v3.fit,V.val.fit,V.p1.fit,V.den.fit⟩⟩
theorem look_dirs {A B:V3} {a:Res} (iA:InV A dB) (iB:InV B dB) (ha:In a aI):LookG A B a:=look_good (dB_dU iA) (dB_dU iB) ha (kf_dirs iA iB ha)
def wf:Nat:=4602678819172646912
def upV:V3:=⟨oneR 0,oneR 0,oneR u1⟩
theorem upV_in:InV upV dB:=⟨⟨.of (by decide +kernel),by decide +kernel,by decide +kernel⟩,⟨.of (by decide +kernel),by decide +kernel,by decide +kernel⟩,⟨.of (by decide +kernel),by decide +kernel,by decide +kernel⟩⟩
theorem wf_in:In (oneR wf) aI:=⟨.of (by decide +kernel),by decide +kernel,by decide +kernel⟩
structure Dd (V:V3):Prop where
 b:InV V dB
 s:∃ f g h:Nat→Rat,HasS V.x f∧HasS V.y g∧HasS V.z h∧Eqv (fun m=>f m*f m+(g m*g m+h m*h m)) (fun _=>1)∧∀ m,0≤h m
 x:val V.x.hi - val V.x.lo≤16*DD
 y:val V.y.hi - val V.y.lo≤16*DD
 z:val V.z.hi - val V.z.lo≤16*DD
theorem dir_any (u v t:Nat) (hu:u < 4294967296) (hv:v < 4294967296) (ht:t < 4294967296):∃ (x y z:Nat) (V:V3),Dd V∧(∀ w,Calls Tryz.prog 21 #[.int .u32 u,.int .u32 v,.int .u32 t] w (Rt (.agg #[x,y,z]) w)) ∧
  ∀ w,Calls Tryz.prog 20 #[.agg #[x,y,z]] w (Rt (.tuple #[agV V,true]) w):=by
 obtain⟨x,hx,cx⟩:=between8_any 13830554455654793216 4607182418800017408 u (by decide) (by decide) (by decide) (by decide) (by decide +kernel) (by decide +kernel) (by decide +kernel) hu;obtain⟨y,hy,cy⟩:=between8_any 13830554455654793216 4607182418800017408 v (by decide) (by decide) (by decide) (by decide) (by decide +kernel) (by decide +kernel) (by decide +kernel) hv;obtain⟨z,hz,cz⟩:=between8_any 4580160821035794432 4607182418800017408 t (by decide) (by decide) (by decide) (by decide) (by decide +kernel) (by decide +kernel) (by decide +kernel) ht;have hU:=dir_has hx.right hy.right hz.right hx.lo hx.hi hy.lo hy.hi hz.lo hz.hi;obtain⟨i,s⟩:=dir_in hx.lt hy.lt hz.lt hx.right hy.right hz.right hx.lo hx.hi hy.lo hy.hi hz.lo hz.hi;obtain⟨_,_,_,_,⟨mx,Mx,px⟩,⟨my,My,py⟩,⟨mz,Mz,pz⟩⟩:=unit_all x y z hx.lt hy.lt hz.lt hU;obtain⟨fN,f1,f2,f3⟩:=unit_fits x y z hx.lt hy.lt hz.lt hU;exact ⟨x,y,z,unitV x y z,⟨i,s,part_width px,part_width py,part_width pz⟩,fun w=>dir_walk w (Hd cx) (Hd cy) (Hd cz),fun w=>unit_any x y z w hx.lt hy.lt hz.lt hU fN f1 f2 f3⟩
theorem above {V:V3} (h:InV V dB):(FloatKind.f64.format.order V.z.lo 0 == some Ordering.gt)=true:=by
 have e:0 < val zI7.lo∧val 0=0:=by decide +kernel
 have l:val zI7.lo≤val V.z.lo:=h.z.lo;rw [order_gt _ _ h.z.fit.lo (by decide) h.z.fit.rlo (by decide)];exact decide_eq_true (by omega)
theorem two_any (u0 u1' u2 u3 u4 u5:Nat) (g0:u0 < 4294967296) (g1:u1' < 4294967296) (g2:u2 < 4294967296) (g3:u3 < 4294967296) (g4:u4 < 4294967296) (g5:u5 < 4294967296):∃ A B:V3,Dd A∧Dd B ∧
  ∀ w,Calls Tryz.prog 6 #[.agg #[.int .u32 u0,.int .u32 u1',.int .u32 u2,.int .u32 u3,.int .u32 u4,.int .u32 u5]] w (Rt (.tuple #[agV A,agV B,.bool true]) w):=by
 obtain⟨x,y,z,A,dA,c1,c2⟩:=dir_any u0 u1' u2 g0 g1 g2;obtain⟨p,q,s,B,dB',c3,c4⟩:=dir_any u3 u4 u5 g3 g4 g5;exact ⟨A,B,dA,dB',fun w=>two10_walk w (Hd c1) (Hd c2) (Hd c3) (Hd c4) (above dA.b) (above dB'.b)⟩
end
section
open Go.RowKit
abbrev ndL (a b c:Nat):Value:=.agg #[.int .u8 1,a,b,c,(),(),(),(),(),(),(),(),(),(),(),(),(),true,true]
abbrev ndO (a b c s:Nat):Value:=.agg #[.int .u8 2,a,b,c,(),(),(),(),(),(),(),(),(),s,(),(),(),true,true]
abbrev ndP (a n:Nat):Value:=.agg #[.int .u8 3,(),(),(),(),(),(),(),(),(),(),(),(),(),a,n,(),true,true]
abbrev ndM (a p q r s t u:Nat):Value:=.agg #[.int .u8 4,(),(),(),(),(),(),p,q,r,s,t,u,(),a,(),(),true,true]
abbrev RigC (n:Value):Prop:=∀ w,Calls Tryz.prog 27 #[n] w fun r w'=>r = .returned (.bool true)∧Below w.heap.size w w'
abbrev ValC (n:Value) (k:Int) (A B:V3) (s:Res) (e:Int):Prop:=∀ w,Calls Tryz.prog 9 #[n,.int .i64 k,agV A,agV B] w fun r w'=>r = .returned (.tuple #[.agg #[s.lo,s.hi],.int .i64 e])∧Below w.heap.size w w'
abbrev DenC (n:Value) (A B:V3) (s:Res) (e:Int):Prop:=∀ w,Calls Tryz.prog 10 #[n,agV A,agV B] w (Rt (.tuple #[.agg #[s.lo,s.hi],.int .i64 e]) w)
theorem of_right {x:Nat} (f:Fit (oneR x)) (w:World):Calls Tryz.prog 78 #[x] w (Rt (.tuple #[.agg #[x,x],true]) w):=by
 have h:=of_any x w f.lo;have rx:rightB x=true:=f.rlo;unfold ofI at h;rw [if_pos rx] at h;exact h
theorem feq_self {x:Nat} (f:Fit (oneR x)):Op.floatEq .f64 x x=true:=by
 show (FloatKind.f64.format.order x x == some Ordering.eq)=true
 rw [order_eq x x f.lo f.lo f.rlo f.rlo];exact decide_eq_true rfl
section
variable {A:Res} (fA:Fit A) {x y z:Nat}
include fA
theorem in_one (i:In (oneR x) A) (q:Nat) (w:World) (h:Has1 w (q,#[x])) :
  Calls Tryz.prog 107 #[A.lo,A.hi,.slice (some ⟨q,0,none⟩) 1 1] w (Rt (.bool true) w):=
 within_1_0 q w h rfl (Hd (of_right i.fit)) (lt_in i fA) (gt_in i fA)
variable (i:In (oneR x) A) (j:In (oneR y) A) (k:In (oneR z) A) {C:Array Value} (q:Nat) (w:World) (h:Has1 w (q,C))
include i j k h
theorem in_three1 (g0:C[1]? = some (x:Value)) (g1:C[2]? = some (y:Value)) (g2:C[3]? = some (z:Value)) :
  Calls Tryz.prog 107 #[A.lo,A.hi,.slice (some ⟨q,1,none⟩) 3 3] w (Rt (.bool true) w):=
 within_3_1 q w h g0 (Hd (of_right i.fit)) g1 (Hd (of_right j.fit)) g2 (Hd (of_right k.fit)) (lt_in i fA) (gt_in i fA) (lt_in j fA) (gt_in j fA) (lt_in k fA) (gt_in k fA)
theorem in_three7 (g0:C[7]? = some (x:Value)) (g1:C[8]? = some (y:Value)) (g2:C[9]? = some (z:Value)) :
  Calls Tryz.prog 107 #[A.lo,A.hi,.slice (some ⟨q,7,none⟩) 3 3] w (Rt (.bool true) w):=
 within_3_7 q w h g0 (Hd (of_right i.fit)) g1 (Hd (of_right j.fit)) g2 (Hd (of_right k.fit)) (lt_in i fA) (gt_in i fA) (lt_in j fA) (gt_in j fA) (lt_in k fA) (gt_in k fA)
theorem in_three10 (g0:C[10]? = some (x:Value)) (g1:C[11]? = some (y:Value)) (g2:C[12]? = some (z:Value)) :
  Calls Tryz.prog 107 #[A.lo,A.hi,.slice (some ⟨q,10,none⟩) 3 3] w (Rt (.bool true) w):=
 within_3_10 q w h g0 (Hd (of_right i.fit)) g1 (Hd (of_right j.fit)) g2 (Hd (of_right k.fit)) (lt_in i fA) (gt_in i fA) (lt_in j fA) (gt_in j fA) (lt_in k fA) (gt_in k fA)
end
theorem pend_hi {a A:Res} (i:In a A):In (oneR a.hi) A:=⟨one_fit i.fit.hi i.fit.rhi,Int.le_trans i.lo i.fit.le,i.hi⟩
theorem dir_right {A:V3} (iA:InV A dU) (w:World):Calls Tryz.prog 61 #[agV A] w (Rt (.bool true) w):=
 pright_walk w (Hd (right_in iA.x.fit)) (Hd (right_in iA.y.fit)) (Hd (right_in iA.z.fit))
theorem dir_above {A:V3} (iA:InV A dU) (w:World):Calls Tryz.prog 63 #[agV A] w (Rt (.bool true) w):=by
 have x0:=pend_lo iA.x;have x1:=pend_hi iA.x;have y0:=pend_lo iA.y;have y1:=pend_hi iA.y;have z0:=pend_lo iA.z;have z1:=pend_hi iA.z;have fx:=dU_fit.x;have fz:=dU_fit.z
 exact above_walk w
  (Hd fun q w h=>within_4_0 q w h rfl (Hd (of_right x0.fit)) rfl (Hd (of_right x1.fit)) rfl (Hd (of_right y0.fit)) rfl (Hd (of_right y1.fit)) (lt_in x0 fx) (gt_in x0 fx) (lt_in x1 fx) (gt_in x1 fx) (lt_in y0 fx) (gt_in y0 fx) (lt_in y1 fx) (gt_in y1 fx))
  (Hd fun q w h=>within_2_0 q w h rfl (Hd (of_right z0.fit)) rfl (Hd (of_right z1.fit)) (lt_in z0 fz) (gt_in z0 fz) (lt_in z1 fz) (gt_in z1 fz))
end
section
open Go.RowKit
theorem widen_any {a:Res} {L f:Nat} (fa:Fit a) (lL:L < 18446744073709551616) (rL:rightB L=true) (m:-SS≤val L) (h1:val L≤val a.lo) (h2:val a.hi≤val u1) (lf:f < 18446744073709551616) (rf:rightB f=true) (f0:0≤val f) (f1:val f≤SS) :
  ∃ R:Res,In R ⟨0,L,u1⟩∧In a R∧∀ w,Calls Tryz.prog 22 #[.agg #[a.lo,a.hi],f,L] w (Rt (.agg #[R.lo,R.hi]) w):=by
 obtain⟨r,s,q1,q2,lr,ls,rr,rs,i1,i2⟩:=widen_words fa lL rL m h1 h2 lf rf f0 f1
 have k1:=fun w=>run_float_arith (P:=Tryz.prog) (w:=w) .sub 25 .f64 a.lo f _ q1
 have k2:=fun w=>run_float_arith (P:=Tryz.prog) (w:=w) .add 25 .f64 a.hi f _ q2
 have z:∀ x,x < 18446744073709551616→rightB x=true→∀ w,(binOp .add 25 (x:Value) (.float .f64 0)).run Tryz.prog w = .ok (x:Value) w:=fun x lx rx w=>run_float_arith (P:=Tryz.prog) (w:=w) .add 25 .f64 x 0 _ (add_self0 lx rx)
 have zu:=z u1 (by decide) (by decide)
 cases o1:(FloatKind.f64.format.order r L == some Ordering.lt) <;> cases o2:(FloatKind.f64.format.order s u1 == some Ordering.gt) <;> rw [o1,o2] at i1 i2
 ·exact ⟨_,i1,i2,fun w=>widen_00 w k1 k2 o1 o2 (z r lr rr) (z s ls rs)⟩
 ·exact ⟨_,i1,i2,fun w=>widen_01 w k1 k2 o1 o2 (z r lr rr) zu⟩
 ·exact ⟨_,i1,i2,fun w=>widen_10 w k1 k2 o1 o2 (z L lL rL) (z s ls rs)⟩
 ·exact ⟨_,i1,i2,fun w=>widen_11 w k1 k2 o1 o2 (z L lL rL) zu⟩
theorem wide_any {A:V3} {f:Nat} (iA:InV A dU) (lf:f < 18446744073709551616) (rf:rightB f=true) (f0:0≤val f) (f1:val f≤SS) :
  ∃ R:V3,InV R dU∧InV A R∧∀ w,Calls Tryz.prog 7 #[agV A,f] w (Rt (agV R) w):=by
 obtain⟨e1,e2,e3⟩:=unit_ends
 have e0:val 0=0:=by decide +kernel
 obtain⟨X,i1,j1,c1⟩:=widen_any iA.x.fit (L:=m1) (by decide) (by decide) (by omega) iA.x.lo iA.x.hi lf rf f0 f1;obtain⟨Y,i2,j2,c2⟩:=widen_any iA.y.fit (L:=m1) (by decide) (by decide) (by omega) iA.y.lo iA.y.hi lf rf f0 f1;obtain⟨Z,i3,j3,c3⟩:=widen_any iA.z.fit (L:=0) (by decide) (by decide) (by omega) iA.z.lo iA.z.hi lf rf f0 f1;exact ⟨⟨X,Y,Z⟩,⟨i1,i2,i3⟩,⟨j1,j2,j3⟩,fun w=>wide_walk w (Hd c1) (Hd c2) (Hd c3)⟩
theorem inner_any {A:V3} (iA:InV A dU) (u0 u1' u2 u3 u4 u5:Nat) (g0:u0 < 4294967296) (g1:u1' < 4294967296) (g2:u2 < 4294967296) (g3:u3 < 4294967296) (g4:u4 < 4294967296) (g5:u5 < 4294967296) :
  ∃ R:V3,InV R A∧∀ w,Calls Tryz.prog 8 #[agV A,.agg #[.int .u32 u0,.int .u32 u1',.int .u32 u2,.int .u32 u3,.int .u32 u4,.int .u32 u5]] w (Rt (agV R) w):=by
 have m0:val m1≤val ouI.lo:=by decide +kernel
 obtain⟨X,j1,c1⟩:=span_in iA.x.fit iA.x.lo iA.x.hi u0 u1' g0 g1;obtain⟨Y,j2,c2⟩:=span_in iA.y.fit iA.y.lo iA.y.hi u2 u3 g2 g3;obtain⟨Z,j3,c3⟩:=span_in iA.z.fit (Int.le_trans m0 iA.z.lo) iA.z.hi u4 u5 g4 g5;exact ⟨⟨X,Y,Z⟩,⟨j1,j2,j3⟩,fun w=>inner_walk w (Hd c1) (Hd c2) (Hd c3)⟩
section
variable {A B A' B':V3} {a a':Res} (iA:InV A dU) (iB:InV B dU) (ha:In a aI) (jA:InV A' A) (jB:InV B' B) (ja:In a' a)
include iA iB ha jA jB ja
theorem kf_in (k:KF A B a):KF A' B' a'∧In (Mi.lean A' B') (Mi.lean A B)∧In (Mi.half A' B') (Mi.half A B)∧In (Mi.val (Mi.lean A' B') A'.z B'.z a') (Mi.val (Mi.lean A B) A.z B.z a)∧In (Mi.den (Mi.lean A' B') B'.z a') (Mi.den (Mi.lean A B) B.z a):=by
 have M:=mi_of k.M iA.fitV iB.fitV jA jB;obtain⟨il,ih⟩:=lean_in k.M iA.fitV iB.fitV jA jB;have ul:=(lean_u k.M).1;have D:=(gi_of (g_in ul ha).fits ul.fit ha.fit il ja).D;obtain⟨Li,li⟩:=li0_of (g_in iA.z ha).fits k.i iA.z.fit ha.fit jA.z ja;have q1:In (Gx.q A'.z a') (Gx.q A.z a):=add_in (.refl u1_fit) u1_fit li k.i.l k.q.e;have Lo:=li_of (g_in iB.z ha).fits k.o iB.z.fit ha.fit jB.z ja;have q2:In (Gx.q2 A'.z B'.z a') (Gx.q2 A.z B.z a):=add_in q1 k.q Lo.l k.o.l k.q2.e;have w:In (Gx.w A'.z B'.z a') (Gx.w A.z B.z a):=div_in (.refl u1_fit) u1_fit q2 k.q2 k.K.w.e;obtain⟨V,v1,v2⟩:=look_in k.K iA.z.fit iB.z.fit jA.z jB.z D w Lo.v;exact ⟨⟨M.fits,Li,q1.fit,Lo.fits,q2.fit,V⟩,il,ih,v1,v2⟩
end
theorem InV.via {a B C:V3} (h:InV a B) (k:InV B C):InV a C:=⟨h.x.via k.x,h.y.via k.y,h.z.via k.z⟩
end
end Go.Proofs.YtnaomilkgfkegaaGreat
