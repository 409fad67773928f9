/- What the claim stands on, part 33: GgB, PaM, PaN, PaO. -/
import Derived.Test.YtmkgfflebfpcdaaGreatPA31
import Derived.Test.YtmkgfflebfpcdaaGreatPA30
import Derived.Test.YtmkgfflebfpcdaaGreatPA15
namespace Go.Proofs.YtmkgfflebfpcdaaGreat
section
open Go.RowKit
structure Wr (a:Res):Prop where
 lo:a.lo < 18446744073709551616
 hi:a.hi < 18446744073709551616
 rlo:rightB a.lo=true
 rhi:rightB a.hi=true
theorem Fit.wr {a:Res} (h:Fit a):Wr a:=⟨h.lo,h.hi,h.rlo,h.rhi⟩
theorem wr_nil {r:Res} (h:Nil0 r) (he:r.e≠0):Wr r:=by
 obtain⟨h1,h2⟩:=h he
 exact ⟨by rw [h1]; decide,by rw [h2]; decide,by rw [h1]; decide,by rw [h2]; decide⟩
def stD (e:Int) (a b:Res):Res:=stepI e (ivR a.lo a.hi&&ivR b.lo b.hi) (divR a b)
def stU (e:Int) (x:Nat):Res:=stepI e true (ofI x)
theorem st2_wr {j:Nat} (hj:j < 6) (e:Int) {a b:Res} (ha:Wr a) (hb:Wr b):Wr (stepI e (ivR a.lo a.hi&&ivR b.lo b.hi) (askI a.lo a.hi b.lo b.hi j)):=by
 by_cases h:(stepI e (ivR a.lo a.hi&&ivR b.lo b.hi) (askI a.lo a.hi b.lo b.hi j)).e=0
 · obtain⟨_,h2,h3⟩:=st_none h
   rw [Bool.and_eq_true] at h2
   rw [h3] at h ⊢
   obtain⟨n1,n2,n3,n4⟩:=ask_nums a.lo a.hi b.lo b.hi j (by omega) ha.lo ha.hi hb.lo hb.hi h2.1 h2.2 h
   exact ⟨n1,n3,n2,n4⟩
 · refine wr_nil ?_ h
   have hn:=ask_nil e a.lo a.hi b.lo b.hi j (by omega)
   rcases (show j=0∨j=1∨j=2∨j=3∨j=4∨j=5 by omega) with rfl | rfl | rfl | rfl | rfl | rfl <;> exact hn
theorem st1_wr {j:Nat} (hj:j=6∨j=7) (e:Int) {a:Res} (ha:Wr a):Wr (stepI e (ivR a.lo a.hi) (askI a.lo a.hi a.lo a.hi j)):=by
 by_cases h:(stepI e (ivR a.lo a.hi) (askI a.lo a.hi a.lo a.hi j)).e=0
 · obtain⟨_,h2,h3⟩:=st_none h
   rw [h3] at h ⊢
   obtain⟨n1,n2,n3,n4⟩:=ask_nums a.lo a.hi a.lo a.hi j (by omega) ha.lo ha.hi ha.lo ha.hi h2 h2 h
   exact ⟨n1,n3,n2,n4⟩
 · refine wr_nil ?_ h
   have hn:=ask_nil e a.lo a.hi a.lo a.hi j (by omega)
   rcases hj with rfl | rfl <;> exact hn
theorem stU_wr (e:Int) {x:Nat} (f:Fit (oneR x)):Wr (stU e x):=by
 unfold stU stepI ofI
 have rx:rightB x=true:=f.rlo
 have lx:x < 18446744073709551616:=f.lo
 rw [if_pos rfl,if_pos rx]
 split
 · exact ⟨lx,lx,rx,rx⟩
 · exact ⟨show 0 < 18446744073709551616 by decide,show 0 < 18446744073709551616 by decide,right_0,right_0⟩
theorem nn_wr {a:Res} (h:Wr a):Wr (nnR a):=by
 obtain⟨l1,l2,_⟩:=max_facts a.lo 0 h.lo (by decide) h.rlo (by decide)
 obtain⟨k1,k2,_⟩:=max_facts a.hi 0 h.hi (by decide) h.rhi (by decide)
 exact ⟨l1,k1,l2,k2⟩
section
variable {a b:Res} (e:Int) (ha:Wr a) (hb:Wr b)
include ha hb in
theorem stA_wr:Wr (stA e a b):=st2_wr (j:=0) (by decide) e ha hb
include ha hb in
theorem stS_wr:Wr (stS e a b):=st2_wr (j:=1) (by decide) e ha hb
include ha hb in
theorem stM_wr:Wr (stM e a b):=st2_wr (j:=2) (by decide) e ha hb
include ha hb in
theorem stD_wr:Wr (stD e a b):=st2_wr (j:=3) (by decide) e ha hb
include ha in
theorem stQ_wr:Wr (stQ e a):=st1_wr (j:=6) (by decide) e ha
include ha in
theorem stR_wr:Wr (stR e a):=st1_wr (j:=7) (by decide) e ha
end
abbrev C0 (f:FuncId) (pb:Nat) (e:Int) (xs:Array Value) (R:Res):Prop:=∀ v:World,v.cell? ⟨pb,0,none⟩=some (.int .i64 e)→v.frozen? ⟨pb,0,none⟩=false →
 Calls Tryz.prog f (#[.pointer (some ⟨pb,0,none⟩)]++xs) v fun r w'=>r = .returned (.agg #[R.lo,R.hi])∧Put ⟨pb,0,none⟩ (.int .i64 R.e) v w'
section
variable {a b:Res} (e:Int) (ha:Wr a) (hb:Wr b) (pb:Nat)
theorem s_num {x:Nat} (f:Fit (oneR x)):C0 18 pb e #[x] (stU e x):=fun v hc hf=>told_e (cNum_any e x pb 0 v f.lo hc hf)
include ha hb in
theorem s_add:C0 59 pb e #[.agg #[a.lo,a.hi],.agg #[b.lo,b.hi]] (stA e a b):=fun v hc hf=>told_e (cAdd_any e a.lo a.hi b.lo b.hi pb 0 v ha.lo ha.hi hb.lo hb.hi hc hf)
include ha hb in
theorem s_sub:C0 107 pb e #[.agg #[a.lo,a.hi],.agg #[b.lo,b.hi]] (stS e a b):=fun v hc hf=>told_e (cSub_any e a.lo a.hi b.lo b.hi pb 0 v ha.lo ha.hi hb.lo hb.hi hc hf)
include ha hb in
theorem s_mul:C0 21 pb e #[.agg #[a.lo,a.hi],.agg #[b.lo,b.hi]] (stM e a b):=fun v hc hf=>told_e (cMul_any e a.lo a.hi b.lo b.hi pb 0 v ha.lo ha.hi hb.lo hb.hi hc hf)
include ha hb in
theorem s_div:C0 17 pb e #[.agg #[a.lo,a.hi],.agg #[b.lo,b.hi]] (stD e a b):=fun v hc hf=>told_e (cDiv_any e a.lo a.hi b.lo b.hi pb 0 v ha.lo ha.hi hb.lo hb.hi hc hf)
include ha in
theorem s_sqr:C0 60 pb e #[.agg #[a.lo,a.hi]] (stQ e a):=fun v hc hf=>told_e (cSqr_any e a.lo a.hi pb 0 v ha.lo ha.hi hc hf)
include ha in
theorem s_sqrt:C0 58 pb e #[.agg #[a.lo,a.hi]] (stR e a):=fun v hc hf=>told_e (cSqrt_any e a.lo a.hi pb 0 v ha.lo ha.hi hc hf)
end
theorem stU_plain {x:Nat} (f:Fit (oneR x)):stU 0 x=oneR x:=by
 unfold stU stepI ofI
 rw [if_pos rfl,if_pos rfl,if_pos (show rightB x=true from f.rlo)]; rfl
abbrev sur (e:Int) (a i o:Res):Array Value:=#[.int .i64 e,.float .f64 a.lo,.float .f64 a.hi,.float .f64 i.lo,.float .f64 i.hi,.float .f64 o.lo,.float .f64 o.hi]
abbrev Met1 (f:FuncId) (e e':Int) (a i o r:Res):Prop:=∀ (pb:Nat) (v:World),Has1 v (pb,sur e a i o)→Calls Tryz.prog f #[.pointer (some ⟨pb,0,none⟩)] v fun x w'=>x = .returned (.agg #[r.lo,r.hi])∧Put ⟨pb,0,none⟩ (.int .i64 e') v w'
def Lt.k1 (e:Int):Res:=stU e u1
def Lt.k2 (e:Int) (c:Res):Res:=stQ (Lt.k1 e).e c
def Lt.k3 (e:Int) (c:Res):Res:=stS (Lt.k2 e c).e (Lt.k1 e) (Lt.k2 e c)
def Lt.k4 (e:Int) (c:Res):Res:=stQ (Lt.k3 e c).e c
def Lt.k5 (e:Int) (c:Res):Res:=stD (Lt.k4 e c).e (Lt.k3 e c) (Lt.k4 e c)
def Lt.k6 (e:Int) (c:Res):Res:=stU (Lt.k5 e c).e uh
def Lt.k7 (e:Int) (c a:Res):Res:=stQ (Lt.k6 e c).e a
def Lt.k8 (e:Int) (c a:Res):Res:=stM (Lt.k7 e c a).e (Lt.k7 e c a) (Lt.k5 e c)
def Lt.k9 (e:Int) (c a:Res):Res:=stA (Lt.k8 e c a).e (Lt.k1 e) (Lt.k8 e c a)
def Lt.k10 (e:Int) (c a:Res):Res:=stR (Lt.k9 e c a).e (Lt.k9 e c a)
def Lt.k11 (e:Int) (c a:Res):Res:=stS (Lt.k10 e c a).e (Lt.k10 e c a) (Lt.k1 e)
def Lt.k12 (e:Int) (c a:Res):Res:=stM (Lt.k11 e c a).e (Lt.k6 e c) (Lt.k11 e c a)
theorem not_call {r:Res} (h:Wr r) (w:World):Calls Tryz.prog 151 #[.agg #[r.lo,r.hi]] w (Rt (.agg #[.float .f64 (nnR r).lo,.float .f64 (nnR r).hi]) w):=
 gnot_walk w (m_yl:=fun ts t w=>(run_less r.lo 0 h.lo (by decide) h.rlo (by decide) ts t w).2) (m_yh:=fun ts t w=>(run_less r.hi 0 h.hi (by decide) h.rhi (by decide) ts t w).2)
section
variable {c a i o:Res}
theorem a2_call (e:Int) (wa:Wr a):Met1 144 e (stQ e a).e a i o (stQ e a):=fun pb v h=>ga2_walk v (hC:=Lib.hid h) (d1:=Lib.hid (s_sqr e wa pb))
theorem lam_wr (e:Int) (wc:Wr c) (wa:Wr a):Wr (Lt.k1 e)∧Wr (Lt.k2 e c)∧Wr (Lt.k3 e c)∧Wr (Lt.k5 e c)∧Wr (Lt.k6 e c)∧Wr (Lt.k7 e c a)∧Wr (Lt.k8 e c a)∧Wr (Lt.k9 e c a)∧Wr (Lt.k10 e c a)∧Wr (Lt.k11 e c a)∧Wr (Lt.k12 e c a)∧Wr (Lt.k4 e c):=by
 have w1:Wr (Lt.k1 e):=stU_wr e u1_fit
 have w2:Wr (Lt.k2 e c):=stQ_wr _ wc
 have w3:Wr (Lt.k3 e c):=stS_wr _ w1 w2
 have w4:Wr (Lt.k4 e c):=stQ_wr _ wc
 have w5:Wr (Lt.k5 e c):=stD_wr _ w3 w4
 have w6:Wr (Lt.k6 e c):=stU_wr _ uh_fit
 have w7:Wr (Lt.k7 e c a):=stQ_wr _ wa
 have w8:Wr (Lt.k8 e c a):=stM_wr _ w7 w5
 have w9:Wr (Lt.k9 e c a):=stA_wr _ w1 w8
 have w10:Wr (Lt.k10 e c a):=stR_wr _ w9
 have w11:Wr (Lt.k11 e c a):=stS_wr _ w10 w1
 exact ⟨w1,w2,w3,w5,w6,w7,w8,w9,w10,w11,stM_wr _ w6 w11,w4⟩
theorem lam_call (e:Int) (wc:Wr c) (wa:Wr a) (pb:Nat) (v:World) (h:Has1 v (pb,sur e a i o)) :
   Calls Tryz.prog 146 #[.pointer (some ⟨pb,0,none⟩),.agg #[c.lo,c.hi]] v fun x w'=>x = .returned (.agg #[.float .f64 (nnR (Lt.k12 e c a)).lo,.float .f64 (nnR (Lt.k12 e c a)).hi])∧Put ⟨pb,0,none⟩ (.int .i64 (Lt.k12 e c a).e) v w':=by
 obtain⟨w1,w2,w3,w5,w6,w7,w8,w9,w10,w11,w12,w4⟩:=lam_wr e wc wa
 exact glambda_walk v (hC:=Lib.hid h) (d1:=Lib.hid (s_num e pb u1_fit)) (d2:=Lib.hid (s_sqr (Lt.k1 e).e wc pb)) (d3:=Lib.hid (s_sub (Lt.k2 e c).e w1 w2 pb)) (d4:=Lib.hid (s_sqr (Lt.k3 e c).e wc pb)) (d5:=Lib.hid (s_div (Lt.k4 e c).e w3 w4 pb))
   (d6:=Lib.hid (s_num (Lt.k5 e c).e pb uh_fit)) (d7:=Lib.hid fun v h=>a2_call (Lt.k6 e c).e wa pb v h) (d8:=Lib.hid (s_mul (Lt.k7 e c a).e w7 w5 pb)) (d9:=Lib.hid (s_add (Lt.k8 e c a).e w1 w8 pb)) (d10:=Lib.hid (s_sqrt (Lt.k9 e c a).e w9 pb)) (d11:=Lib.hid (s_sub (Lt.k10 e c a).e w10 w1 pb)) (d12:=Lib.hid (s_mul (Lt.k11 e c a).e w6 w11 pb))
   (c13:=Lib.hid fun w=>not_call w12 w)
structure LF0 (c a:Res):Prop where
 t:Fit (Gx.t c)
 m:Fit (Gx.m c a)
 p:Fit (Gx.p c a)
 r:Fit (Gx.r c a)
 d:Fit (Gx.d c a)
 h:Fit (Gx.h c a)
 l:Fit (Gx.l c a)
theorem LF.zero (L:LF c a):LF0 c a:=⟨L.t,L.m,L.p,L.r,L.d,L.h,L.l⟩
theorem lam_plain {e:Int} (he:e=0) (K:GF c a) (L:LF0 c a) (fc:Fit c) (fa:Fit a):Lt.k12 e c a=Gx.h c a:=by
 subst he
 have e1:Lt.k1 0=oneR u1:=stU_plain u1_fit
 have e2:Lt.k2 0 c=Gx.c2 c:=by unfold Lt.k2; rw [e1]; exact step_one fc _
 have e3:Lt.k3 0 c=Gx.n c:=by unfold Lt.k3; rw [e1,e2,K.c2.e]; exact step_two u1_fit K.c2 _
 have e4:Lt.k4 0 c=Gx.c2 c:=by unfold Lt.k4; rw [e3,K.n.e]; exact step_one fc _
 have e5:Lt.k5 0 c=Gx.t c:=by unfold Lt.k5; rw [e3,e4,K.c2.e]; exact step_two K.n K.c2 _
 have e6:Lt.k6 0 c=oneR uh:=by unfold Lt.k6; rw [e5,L.t.e]; exact stU_plain uh_fit
 have e7:Lt.k7 0 c a=Gx.a2 a:=by unfold Lt.k7; rw [e6]; exact step_one fa _
 have e8:Lt.k8 0 c a=Gx.m c a:=by unfold Lt.k8; rw [e7,e5,K.a2.e]; exact step_two K.a2 L.t _
 have e9:Lt.k9 0 c a=Gx.p c a:=by unfold Lt.k9; rw [e8,e1,L.m.e]; exact step_two u1_fit L.m _
 have e10:Lt.k10 0 c a=Gx.r c a:=by unfold Lt.k10; rw [e9,L.p.e]; exact step_one L.p _
 have e11:Lt.k11 0 c a=Gx.d c a:=by unfold Lt.k11; rw [e10,e1,L.r.e]; exact step_two L.r u1_fit _
 unfold Lt.k12
 rw [e11,e6,L.d.e]
 exact step_two uh_fit L.d _
end
section
variable {c a i o:Res}
theorem spread_call (K:GF o a) (fo:Fit o) (fa:Fit a):Met1 145 0 0 a i o (Gx.sp o a):=fun pb v h=>by
 have e1:stU 0 u1=oneR u1:=stU_plain u1_fit
 have e2:stQ 0 a=Gx.a2 a:=step_one fa _
 have e3:stS 0 (Gx.a2 a) (oneR u1)=Gx.s1 a:=step_two K.a2 u1_fit _
 have e4:stQ 0 o=Gx.c2 o:=step_one fo _
 have e5:stM 0 (Gx.s1 a) (Gx.c2 o)=Gx.pm o a:=step_two K.s1 K.c2 _
 have e6:stA 0 (Gx.pm o a) (oneR u1)=Gx.sp o a:=step_two K.pm u1_fit _
 have d1:=s_num 0 pb u1_fit
 have d2:=fun v h=>a2_call (i:=i) (o:=o) 0 fa.wr pb v h
 have d3:=s_sub 0 K.a2.wr u1_fit.wr pb
 have d4:=s_sqr 0 fo.wr pb
 have d5:=s_mul 0 K.s1.wr K.c2.wr pb
 have d6:=s_add 0 K.pm.wr u1_fit.wr pb
 rw [e1] at d1
 rw [e2,K.a2.e] at d2
 rw [e3] at d3
 rw [e4] at d4
 rw [e5] at d5
 rw [e6] at d6
 have x3:=K.s1.e
 have x4:=K.c2.e
 have x5:=K.pm.e
 have x6:=K.sp.e
 unfold C0 at d1 d3 d4 d5 d6
 rw [x3] at d3
 rw [x4] at d4
 rw [x5] at d5
 rw [x6] at d6
 exact gspread_walk v (hC:=Lib.hid h) (d1:=Lib.hid d1) (d2:=Lib.hid d2) (d3:=Lib.hid d3) (d4:=Lib.hid d4) (d5:=Lib.hid d5) (d6:=Lib.hid d6)
theorem dist_call (K:GF o a) (fo:Fit o) (fa:Fit a):Met1 132 0 0 a i o (Gx.D o a):=fun pb v h=>by
 have e2:stQ 0 a=Gx.a2 a:=step_one fa _
 have e4:stQ 0 (Gx.sp o a)=Gx.sq o a:=step_one K.sp _
 have e5:stM 0 piR (Gx.sq o a)=Gx.pq o a:=step_two big_fit.1 K.sq _
 have e6:stD 0 (Gx.a2 a) (Gx.pq o a)=Gx.D o a:=step_two K.a2 K.pq _
 have d1:=fun v h=>a2_call (i:=i) (o:=o) 0 fa.wr pb v h
 have d4:=s_sqr 0 K.sp.wr pb
 have d5:=s_mul 0 big_fit.1.wr K.sq.wr pb
 have d6:=s_div 0 K.a2.wr K.pq.wr pb
 rw [e2,K.a2.e] at d1
 rw [e4] at d4
 rw [e5] at d5
 rw [e6] at d6
 have x4:=K.sq.e
 have x5:=K.pq.e
 have x6:=K.D.e
 unfold C0 at d4 d5 d6
 rw [x4] at d4
 rw [x5] at d5
 rw [x6] at d6
 exact gdist_walk v (hC:=Lib.hid h) (d1:=Lib.hid d1) (c2:=Lib.hid fun w=>pi_any w) (d3:=Lib.hid fun v h=>spread_call K fo fa pb v h) (d4:=Lib.hid d4) (d5:=Lib.hid d5) (d6:=Lib.hid d6)
def Vt.k3 (o a:Res):Res:=stA (Lt.k12 0 o a).e (oneR u1) (nnR (Lt.k12 0 o a))
def Vt.k4 (o a:Res):Res:=stD (Vt.k3 o a).e (oneR u1) (Vt.k3 o a)
def Wt.y (i o a:Res):Res:=Lt.k12 (Vt.k3 i a).e o a
def Wt.k4 (i o a:Res):Res:=stA (Wt.y i o a).e (Vt.k3 i a) (nnR (Wt.y i o a))
def Wt.k5 (i o a:Res):Res:=stD (Wt.k4 i o a).e (oneR u1) (Wt.k4 i o a)
theorem lam_last (e:Int) (wc:Wr c) (wa:Wr a):Wr (Lt.k12 e c a):=(lam_wr e wc wa).2.2.2.2.2.2.2.2.2.2.1
theorem visible_call (wo:Wr o) (wa:Wr a):Met1 134 0 (Vt.k4 o a).e a i o (Vt.k4 o a):=fun pb v h=>by
 have e1:stU 0 u1=oneR u1:=stU_plain u1_fit
 have d1:=s_num 0 pb u1_fit
 rw [e1] at d1
 have w:=nn_wr (lam_last 0 wo wa)
 have w3:Wr (Vt.k3 o a):=stA_wr _ u1_fit.wr w
 exact gvisible_walk v (hC:=Lib.hid h) (d1:=Lib.hid d1) (d2:=Lib.hid d1) (d3:=Lib.hid fun v h=>lam_call 0 wo wa pb v h) (d4:=Lib.hid (s_add (Lt.k12 0 o a).e u1_fit.wr w pb)) (d5:=Lib.hid (s_div (Vt.k3 o a).e u1_fit.wr w3 pb))
theorem two_call (wi:Wr i) (wo:Wr o) (wa:Wr a):Met1 133 0 (Wt.k5 i o a).e a i o (Wt.k5 i o a):=fun pb v h=>by
 have e1:stU 0 u1=oneR u1:=stU_plain u1_fit
 have d1:=s_num 0 pb u1_fit
 rw [e1] at d1
 have w:=nn_wr (lam_last 0 wi wa)
 have w3:Wr (Vt.k3 i a):=stA_wr _ u1_fit.wr w
 have w':Wr (nnR (Wt.y i o a)):=nn_wr (lam_last _ wo wa)
 have w4:Wr (Wt.k4 i o a):=stA_wr _ w3 w'
 exact gtwo_walk v (hC:=Lib.hid h) (d1:=Lib.hid d1) (d2:=Lib.hid d1) (d3:=Lib.hid fun v h=>lam_call 0 wi wa pb v h) (d4:=Lib.hid (s_add (Lt.k12 0 i a).e u1_fit.wr w pb)) (d5:=Lib.hid fun v h=>lam_call (Vt.k3 i a).e wo wa pb v h) (d6:=Lib.hid (s_add (Wt.y i o a).e w3 w' pb)) (d7:=Lib.hid (s_div (Wt.k4 i o a).e u1_fit.wr w4 pb))
theorem within_call {r R:Res} (h:In r R) (fR:Fit R) (w:World):Calls Tryz.prog 150 #[.agg #[r.lo,r.hi],R.lo,R.hi] w (Rt (.bool true) w):=
 gwithin_walk w ((order_le _ _ fR.lo h.fit.lo fR.rlo h.fit.rlo).trans (decide_eq_true h.lo)) ((order_le _ _ h.fit.hi fR.hi h.fit.rhi fR.rhi).trans (decide_eq_true h.hi))
theorem gcheck_call (hi:In i ouI) (ho:In o ouI) (ha:In a aI) (e:Int) (pb:Nat) (v:World) (h:Has1 v (pb,sur e a i o)) :
   Calls Tryz.prog 143 #[.pointer (some ⟨pb,0,none⟩)] v (Rt (.int .i64 0) v):=
 gcheck_walk v (hC:=Lib.hid h) (c1:=Lib.hid (right_in hi.fit)) (c2:=Lib.hid (right_in ho.fit)) (c3:=Lib.hid (right_in ha.fit)) (c4:=Lib.hid fun w=>within_call hi ou_fit w) (c5:=Lib.hid fun w=>within_call ho ou_fit w) (c6:=Lib.hid fun w=>within_call ha aI_fit w)
abbrev Top2 (f:FuncId) (c a r:Res) (e:Int):Prop:=∀ w,Calls Tryz.prog f #[.agg #[c.lo,c.hi],.agg #[a.lo,a.hi]] w fun x w'=>x = .returned (.tuple #[.agg #[r.lo,r.hi],.int .i64 e])∧Below w.heap.size w w'
theorem D_any (hc:In c ouI) (ha:In a aI):Top2 112 c a (Gx.D c a) 0:=fun w =>
 gD_walk w (c1:=Lib.hid fun q v h=>ganswer_distribution v (hC:=Lib.hid h) (cK:=Lib.hid fun v h=>gcheck_call nil_in hc ha 0 q v h) (d2:=Lib.hid fun v h=>dist_call (i:=oneR 0) (g_in hc ha).fits hc.fit ha.fit q v h))
theorem G1_any (hc:In c ouI) (ha:In a aI):Top2 114 c a (Vt.k4 c a) (Vt.k4 c a).e:=fun w =>
 gG1_walk w (c1:=Lib.hid fun q v h=>ganswer_visible v (hC:=Lib.hid h) (cK:=Lib.hid fun v h=>gcheck_call nil_in hc ha 0 q v h) (d2:=Lib.hid fun v h=>visible_call (i:=oneR 0) hc.fit.wr ha.fit.wr q v h))
theorem G2_any (hi:In i ouI) (ho:In o ouI) (ha:In a aI) (w:World):Calls Tryz.prog 113 #[.agg #[i.lo,i.hi],.agg #[o.lo,o.hi],.agg #[a.lo,a.hi]] w (Rt (.tuple #[.agg #[.float .f64 (Wt.k5 i o a).lo,.float .f64 (Wt.k5 i o a).hi],.int .i64 (Wt.k5 i o a).e]) w):=
 gG2_walk w (c1:=Lib.hid fun q v h=>ganswer_visibleForTwo v (hC:=Lib.hid h) (cK:=Lib.hid fun v h=>gcheck_call hi ho ha 0 q v h) (d2:=Lib.hid fun v h=>two_call hi.fit.wr ho.fit.wr ha.fit.wr q v h))
theorem q_plain (K:GF c a) (L:LF0 c a) (fc:Fit c) (fa:Fit a):Vt.k3 c a=Gx.q c a:=by
 unfold Vt.k3
 rw [lam_plain rfl K L fc fa,L.h.e]
 exact step_two u1_fit L.l _
theorem G1_plain (K:GF c a) (L:LF c a) (fc:Fit c) (fa:Fit a):Vt.k3 c a=Gx.q c a∧Vt.k4 c a=Gx.v c a:=by
 have e3:=q_plain K L.zero fc fa
 refine ⟨e3,?_⟩
 unfold Vt.k4
 rw [e3,L.q.e]
 exact step_two u1_fit L.q _
theorem G2_plain (Ki:GF i a) (Li:LF0 i a) (fq:Fit (Gx.q i a)) (Ko:GF o a) (Lo:LF0 o a) (fi:Fit i) (fo:Fit o) (fa:Fit a) (f2:Fit (Gx.q2 i o a)):Wt.k5 i o a=Gx.w i o a:=by
 have e3:=q_plain Ki Li fi fa
 have ey:Wt.y i o a=Gx.h o a:=by unfold Wt.y; exact lam_plain (by rw [e3]; exact fq.e) Ko Lo fo fa
 have e4:Wt.k4 i o a=Gx.q2 i o a:=by unfold Wt.k4; rw [ey,e3,Lo.h.e]; exact step_two fq Lo.l _
 unfold Wt.k5
 rw [e4,f2.e]
 exact step_two u1_fit f2 _
end
end
section
open Go.RowKit
def pdU:V3:=⟨⟨0,m1,u1⟩,⟨0,m1,u1⟩,ouI⟩
theorem pdU_fit:FitV pdU:=⟨.of (by decide +kernel),.of (by decide +kernel),.of (by decide +kernel)⟩
theorem InV.fp {A B:V3} (h:InV A B):FitV A:=⟨h.x.fit,h.y.fit,h.z.fit⟩
structure DotF (A B:V3):Prop where
 d1:Fit (Mi.d1 A B)
 d2:Fit (Mi.d2 A B)
 d3:Fit (Mi.d3 A B)
 d4:Fit (Mi.d4 A B)
 d5:Fit (Mi.d5 A B)
structure DotI (a b A B:V3):Prop where
 d1:In (Mi.d1 a b) (Mi.d1 A B)
 d2:In (Mi.d2 a b) (Mi.d2 A B)
 d3:In (Mi.d3 a b) (Mi.d3 A B)
 d4:In (Mi.d4 a b) (Mi.d4 A B)
 d5:In (Mi.d5 a b) (Mi.d5 A B)
theorem dot_box:DotF pdU pdU:=⟨.of (by decide +kernel),.of (by decide +kernel),.of (by decide +kernel),.of (by decide +kernel),.of (by decide +kernel)⟩
theorem dot_in {a b A B:V3} (K:DotF A B) (fA:FitV A) (fB:FitV B) (ia:InV a A) (ib:InV b B):DotI a b A B:=by
 have d1:In (Mi.d1 a b) (Mi.d1 A B):=mul_in ia.x fA.x ib.x fB.x K.d1.e
 have d2:In (Mi.d2 a b) (Mi.d2 A B):=mul_in ia.y fA.y ib.y fB.y K.d2.e
 have d3:In (Mi.d3 a b) (Mi.d3 A B):=add_in d1 K.d1 d2 K.d2 K.d3.e
 have d4:In (Mi.d4 a b) (Mi.d4 A B):=mul_in ia.z fA.z ib.z fB.z K.d4.e
 exact ⟨d1,d2,d3,d4,add_in d3 K.d3 d4 K.d4 K.d5.e⟩
theorem DotI.fits {a b A B:V3} (h:DotI a b A B):DotF a b:=⟨h.d1.fit,h.d2.fit,h.d3.fit,h.d4.fit,h.d5.fit⟩
def Pa.t (A B:V3):Res:=edgeR (Mi.d5 A B)
section
variable {A B:V3} (iA:InV A pdU) (iB:InV B pdU)
include iA iB
theorem dot_fits:DotF A B:=(dot_in dot_box pdU_fit pdU_fit iA iB).fits
theorem pt_in:In (Pa.t A B) oeI:=edge_unit (dot_fits iA iB).d5
theorem dot_turn:Mi.d5 B A=Mi.d5 A B:=by
 have K:=dot_fits iA iB
 have e1:Mi.d1 B A=Mi.d1 A B:=mul_comm_R iA.x.fit iB.x.fit K.d1.e
 have e2:Mi.d2 B A=Mi.d2 A B:=mul_comm_R iA.y.fit iB.y.fit K.d2.e
 have e4:Mi.d4 B A=Mi.d4 A B:=mul_comm_R iA.z.fit iB.z.fit K.d4.e
 unfold Mi.d5 Mi.d3
 rw [e1,e2,e4]
theorem pt_turn:Pa.t B A=Pa.t A B:=by unfold Pa.t; rw [dot_turn iA iB]
theorem pa_dirs:Dirs A.z B.z (Pa.t A B):=⟨iA.z,iB.z,pt_in iA iB⟩
end
theorem pst_turn {i o d:Res} (h:Dirs i o d):Or.st o i d=Or.st i o d:=by
 have k:=slope_fits h
 have e1:Or.p o i=Or.p i o:=mul_comm_R h.i.fit h.o.fit k.p.fit.e
 have e2:Or.top o i=Or.top i o:=max_turn h.o h.i
 have e3:Or.s o i d=Or.s i o d:=by unfold Or.s; rw [e1]
 have e4:Or.r o i d=Or.r i o d:=by unfold Or.r; rw [e2,e3]
 unfold Or.st
 rw [e3,e4]
theorem pslope_turn {i o d:Res} (h:Dirs i o d):Or.slope o i d=Or.slope i o d:=by
 unfold Or.slope
 rw [pst_turn h]
def posI:Res:=⟨0,0,w2⟩
theorem pos_boxes:Fit posI∧Fit (divR posI cI8)∧val posI.lo=0∧val (Or.s ouI ouI oeI).hi≤val posI.hi:=⟨.of (by decide +kernel),.of (by decide +kernel),by decide +kernel,by decide +kernel⟩
theorem st_none8 {i o d:Res} (hi:In i cI8) (ho:In o cI8) (h:Dirs i o d):(Or.st i o d).e=0:=by
 have k:=slope_fits h
 obtain⟨b1,b2,b3,b4⟩:=pos_boxes
 have t:In (Or.top i o) cI8:=by
   have h1:=max_lo h.i h.o
   have l1:=hi.lo
   have l2:=ho.lo
   have g:val (Or.top i o).hi≤val cI8.hi:=by
     have:=(max_facts i.hi o.hi hi.fit.hi ho.fit.hi hi.fit.rhi ho.fit.rhi).2.2
     have e:val (Or.top i o).hi=max (val i.hi) (val o.hi):=this
     have:=hi.hi
     have:=ho.hi
     omega
   exact ⟨k.top.fit,by omega,g⟩
 unfold Or.st
 by_cases g:0 < val (Or.s i o d).hi
 · have p:In (posR (Or.s i o d)) posI:=by
     obtain⟨_,_,x3⟩:=max_facts (Or.s i o d).lo 0 k.s.fit.lo (by decide) k.s.fit.rlo (by decide)
     have v0:=Or.v0
     refine ⟨pos_fit k.s.fit g,?_,Int.le_trans k.s.hi b4⟩
     show val posI.lo≤val (maxW (Or.s i o d).lo 0)
     rw [x3,b3]; omega
   have e:(Or.r i o d).e=0:=(div_in p b1 t cI8_fit b2.e).fit.e
   rw [if_pos g,if_pos e]
   split
   · exact e
   · rfl
 · rw [if_neg g]; exact k.s.fit.e
theorem share_boxes:Fit (mulR (Mi.val cI8 cI8 cI8 aI) unitR)∧0≤val (mulR (Mi.val cI8 cI8 cI8 aI) unitR).lo∧0 < val (Mi.den cI8 cI8 aI).lo∧0 < val (valueR zI7).lo∧Fit (valueR ouI):=⟨.of (by decide +kernel),by decide +kernel,by decide +kernel,by decide +kernel,.of (by decide +kernel)⟩
section
variable {l i o a f:Res} (hl:In l cI8) (hi:In i cI8) (ho:In o cI8) (ha:In a aI) (hf:In f unitR)
include hl hi ho ha hf
theorem sent_in:In (mulR (Mi.val l i o a) f) (mulR (Mi.val cI8 cI8 cI8 aI) unitR):=by
 have V:=vd_in hl hi ho ha
 have h:=v_boxes
 simp only [Bool.and_eq_true] at h
 exact mul_in V.val (.of h.1.1.1.1.1.2) hf unit_fit share_boxes.1.e
theorem sent_meets:val (mulR (Mi.val l i o a) f).lo≤val (mulR (Mi.val l o i a) f).hi∧val (mulR (Mi.val l o i a) f).lo≤val (mulR (Mi.val l i o a) f).hi:=by
 have V:=vd_in hl hi ho ha
 have V':=vd_in hl ho hi ha
 obtain⟨x,hx,_⟩:=fst_pos hi
 obtain⟨y,hy,_⟩:=fst_pos ho
 have hd:=HasQ.fst (g8_in hl ha).D.fit
 have k1:=(value_has hl hi ho ha hx hy hd).1
 have k2:=(value_has hl ho hi ha hy hx hd).1
 rw [show 1+lq o a+lq i a=1+lq i a+lq o a by grind,show 4*y*x=4*x*y by grind] at k2
 have g:=HasQ.fst hf.fit
 have p1:=HasQ.mul V.val.fit hf.fit k1 g (sent_in hl hi ho ha hf).fit.e
 have p2:=HasQ.mul V'.val.fit hf.fit k2 g (sent_in hl ho hi ha hf).fit.e
 exact ⟨has_le p1 p2 Rat.le_refl,has_le p2 p1 Rat.le_refl⟩
end
end
section
open Go.RowKit
def hI7:Res:=⟨0,4575657221408423936,u1⟩
theorem hI7_fit:Fit hI7:=.of (by decide +kernel)
theorem hI7_in:In hI7 bigC:=⟨hI7_fit,by decide +kernel,by decide +kernel⟩
theorem half_low:val hI7.lo≤val (Mi.half dB dB).lo∧val (Mi.half dB dB).hi≤val hI7.hi:=by decide +kernel
theorem half_h7 {A B:V3} (iA:InV A dB) (iB:InV B dB):In (Mi.half A B) hI7:=by
 have h:=clamp_in (md_in iA iB).h mf_box.h
 exact ⟨h.fit,Int.le_trans half_low.1 h.lo,Int.le_trans h.hi half_low.2⟩
section
variable {c n C N:Res} (hc:In C bigC) (hn:In N bigN)
include hc hn
theorem di_fits:Di.Fits C N:=(Di.parts Di.big hc hn).fits hc.fit hn.fit
theorem di_unit:In (Di.out C N) unitR:=clamp_unit (di_fits hc hn).f'
end
theorem co_box:Fit (Co.r33 hI7 bigM bigM):=.of (by decide +kernel)
section
variable {c h k C H K:Res} (hc:In C bigC) (hh:In H bigM) (hk:In K bigM)
include hc hh hk
theorem co_fits:Co.Fits C H K:=(Co.parts Co.big hc hh hk).fits hc.fit hh.fit hk.fit
theorem co_unit (he:(Co.r33 C H K).e=0):In (Co.f C H K) unitR:=by
 have D:=co_fits hc hh hk
 have u:=clamp_unit D.r27'
 have L:=D.last he
 have j3:In (Co.rp C H K) unitR:=clamp_unit L.m34'
 have j4:In (Co.a36 C H K) (addR unitR unitR):=add_in u unit_fit j3 unit_fit (by decide +kernel)
 have j5:In (Co.f C H K) (mulR (oneR 4602678819172646912) (addR unitR unitR)):=mul_in (.refl (one_fit (by decide) (by decide))) (one_fit (by decide) (by decide)) j4 (.of (by decide +kernel)) (by decide +kernel)
 have e:val unitR.lo≤val (mulR (oneR 4602678819172646912) (addR unitR unitR)).lo∧val (mulR (oneR 4602678819172646912) (addR unitR unitR)).hi≤val unitR.hi:=by decide +kernel
 exact ⟨j5.fit,Int.le_trans e.1 j5.lo,Int.le_trans j5.hi e.2⟩
theorem co_part (ic:In c C) (ih:In h H) (ik:In k K) (he:(Co.r33 C H K).e=0):(Co.r33 c h k).e=0∧In (Co.f c h k) (Co.f C H K):=
 Co.last_in (co_fits hc hh hk) (Co.parts (co_fits hc hh hk) ic ih ik) he
end
theorem co_none {C H K:Res} (hc:In C hI7) (hh:In H bigM) (hk:In K bigM):(Co.r33 C H K).e=0:=
 (co_part hI7_in (.refl Co.big.fh) (.refl Co.big.fk) hc hh hk co_box.e).1
end
section
open Go.RowKit
def Pa.lam (r:Res):Res:=valueR r
def Pa.oren (r s:Res) (A B:V3):Res:=Or.val r s (Or.slope A.z B.z (Pa.t A B))
def Pa.pl (a n:Res) (A B:V3):Res:=mulR (Mi.val (Mi.lean A B) A.z B.z a) (Di.out (Mi.half A B) n)
def Pa.me (a h k:Res) (A B:V3):Res:=mulR (Mi.val (Mi.lean A B) A.z B.z a) (Co.f (Mi.half A B) h k)
theorem dB_pdU {A:V3} (h:InV A dB):InV A pdU:=⟨h.x,h.y,⟨h.z.fit,Int.le_trans (by decide +kernel:val ouI.lo≤val zI7.lo) h.z.lo,h.z.hi⟩⟩
theorem dB_c8 {A:V3} (h:InV A dB):In A.z cI8:=⟨h.z.fit,Int.le_trans (by decide +kernel:val cI8.lo≤val zI7.lo) h.z.lo,h.z.hi⟩
theorem plam_box:Fit (valueR ouI)∧0≤val (valueR ouI).lo∧Fit (valueR zI7)∧Fit zI7:=⟨.of (by decide +kernel),by decide +kernel,.of (by decide +kernel),.of (by decide +kernel)⟩
theorem lam_leaf {r:Res} (hr:In r ouI):Fit (Pa.lam r)∧0≤val (Pa.lam r).lo:=by
 have i:In (valueR r) (valueR ouI):=div_in hr ou_fit (.refl big_fit.1) big_fit.1 plam_box.1.e
 have l:=i.lo
 have z:=plam_box.2.1
 exact ⟨i.fit,by unfold Pa.lam; omega⟩
theorem lam_den {A:V3} (iA:InV A dB):Fit (Pa.lam A.z)∧0 < val (Pa.lam A.z).lo:=by
 have i:In (valueR A.z) (valueR zI7):=div_in iA.z plam_box.2.2.2 (.refl big_fit.1) big_fit.1 plam_box.2.2.1.e
 have l:=i.lo
 have z:=share_boxes.2.2.2.1
 exact ⟨i.fit,by unfold Pa.lam; omega⟩
theorem oren_fit {r s:Res} {A B:V3} (hr:In r ouI) (hs:In s ouI) (iA:InV A pdU) (iB:InV B pdU) (he:(Or.st A.z B.z (Pa.t A B)).e=0):In (Pa.oren r s A B) unitR:=
 clamp_unit (val_fits hr hs (edge_unit (st_fit (pa_dirs iA iB) he))).l.fit
section
variable {A B:V3} (iA:InV A dB) (iB:InV B dB)
include iA iB
theorem oren_leaf {r s:Res} (hr:In r ouI) (hs:In s ouI):(Or.st A.z B.z (Pa.t A B)).e=0∧Fit (Pa.oren r s A B)∧0≤val (Pa.oren r s A B).lo∧Pa.oren r s B A=Pa.oren r s A B:=by
 have jA:=dB_pdU iA
 have jB:=dB_pdU iB
 have e:=st_none8 (dB_c8 iA) (dB_c8 iB) (pa_dirs jA jB)
 have u:=oren_fit hr hs jA jB e
 have z:val unitR.lo=0:=by decide +kernel
 have l:=u.lo
 refine ⟨e,u.fit,by omega,?_⟩
 unfold Pa.oren
 rw [pt_turn jA jB,pslope_turn (pa_dirs jA jB)]
theorem mirror_leaf {a f:Res} (ha:In a aI) (hf:In f unitR) :
   (Fit (mulR (Mi.val (Mi.lean A B) A.z B.z a) f)∧Fit (mulR (Mi.val (Mi.lean A B) B.z A.z a) f))∧0≤val (mulR (Mi.val (Mi.lean A B) A.z B.z a) f).lo ∧
   (val (mulR (Mi.val (Mi.lean A B) A.z B.z a) f).lo≤val (mulR (Mi.val (Mi.lean A B) B.z A.z a) f).hi∧val (mulR (Mi.val (Mi.lean A B) B.z A.z a) f).lo≤val (mulR (Mi.val (Mi.lean A B) A.z B.z a) f).hi):=by
 have hl:=lean_c8 iA iB
 have i1:=sent_in hl (dB_c8 iA) (dB_c8 iB) ha hf
 have i2:=sent_in hl (dB_c8 iB) (dB_c8 iA) ha hf
 have l:=i1.lo
 have z:=share_boxes.2.1
 exact ⟨⟨i1.fit,i2.fit⟩,by omega,sent_meets hl (dB_c8 iA) (dB_c8 iB) ha hf⟩
theorem pl_leaf {a n:Res} (ha:In a aI) (hn:In n bigN):(Fit (Pa.pl a n A B)∧Fit (Pa.pl a n B A))∧0≤val (Pa.pl a n A B).lo∧(val (Pa.pl a n A B).lo≤val (Pa.pl a n B A).hi∧val (Pa.pl a n B A).lo≤val (Pa.pl a n A B).hi):=by
 obtain⟨e1,e2⟩:=half_swap iA iB
 have f:In (Di.out (Mi.half A B) n) unitR:=di_unit ((half_h7 iA iB).fit |> fun ff=>⟨ff,Int.le_trans hI7_in.lo (half_h7 iA iB).lo,Int.le_trans (half_h7 iA iB).hi hI7_in.hi⟩) hn
 unfold Pa.pl
 rw [e1,e2]
 exact mirror_leaf iA iB ha f
theorem me_leaf {a h k:Res} (ha:In a aI) (hh:In h bigM) (hk:In k bigM):(Co.r33 (Mi.half A B) h k).e=0∧(Fit (Pa.me a h k A B)∧Fit (Pa.me a h k B A))∧0≤val (Pa.me a h k A B).lo∧(val (Pa.me a h k A B).lo≤val (Pa.me a h k B A).hi∧val (Pa.me a h k B A).lo≤val (Pa.me a h k A B).hi):=by
 obtain⟨e1,e2⟩:=half_swap iA iB
 have hc:=half_h7 iA iB
 have e:=co_none hc hh hk
 have f:In (Co.f (Mi.half A B) h k) unitR:=co_unit ⟨hc.fit,Int.le_trans hI7_in.lo hc.lo,Int.le_trans hc.hi hI7_in.hi⟩ hh hk e
 refine ⟨e,?_⟩
 unfold Pa.me
 rw [e1,e2]
 exact mirror_leaf iA iB ha f
theorem den_leaf {a:Res} (ha:In a aI):Fit (Mi.den (Mi.lean A B) B.z a)∧0 < val (Mi.den (Mi.lean A B) B.z a).lo:=by
 have V:=vd_in (lean_c8 iA iB) (dB_c8 iA) (dB_c8 iB) ha
 have l:=V.den.lo
 have z:=share_boxes.2.2.1
 exact ⟨V.den.fit,by omega⟩
end
theorem pend_lo {a A:Res} (i:In a A):In (oneR a.lo) A:=⟨one_fit i.fit.lo i.fit.rlo,i.lo,Int.le_trans i.fit.le i.hi⟩
end
end Go.Proofs.YtmkgfflebfpcdaaGreat
